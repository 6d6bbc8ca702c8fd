/-
  PART 4 of what the proof leans on (SifA, FixPlain, SifB, NarA, NarB, ModO, ModQ, Srt, ModS, ModT).
-/
import Derived.Test.YtggkbhafbhhhhadGreatPartC
import Derived.Deep.RegionHeld3
import Derived.Laws.EntriesVeiled
import Derived.Shelf.Sort.Plain
import Derived.Ground.Names2Prog
import Derived.Shelf.Slices.CompactI
import Derived.Test.YtggkbhafbhhhhadGreatProg
/-
  WALK: package sift: Those, with whatever closure.
-/
namespace Go.Proofs.YtggkbhafbhhhhadGreat
open Go.RowKit

theorem Tryz.infoInts : (Tryz.prog.info? 39).map (fun i => (i.zero, i.size, i.bytes)) = some (some (.slice none 0 0), 1, 24) := by kernel_rfl
theorem Tryz.infoInt : (Tryz.prog.info? 3).map (fun i => (i.zero, i.size, i.bytes)) = some (some (.int .i64 0), 1, 8) := by kernel_rfl
theorem Tryz.underStore : Tryz.prog.underlying 27 = some (.slice 39) := by kernel_rfl

/-- A store is made: all of its rows are nil. -/
theorem make_store (n : Nat) (hn : n ≤ 6) (w : World) : ∃ w', Sem.run Tryz.prog (Instr.makeSlice 27 (.int .i64 (n : Int)) (.int .i64 (n : Int))) w = .ok (.slice (some ⟨w.heap.size, 0, none⟩) n n) w' ∧
    (∀ M, SRows w' w.heap.size w.heap.size n (List.replicate n (.slice none 0 0)) M 0) ∧ Below w.heap.size w w' := by
  obtain ⟨i0, hi, hz0, hz1, hz2⟩ := info_parts Tryz.infoInts
  obtain ⟨w', hrun, hown, hg⟩ := run_makeSlice_full w w.heap.size 27 39 i0 (.slice none 0 0) 1 Tryz.underStore hi hz0 hz1 .i64 .i64 n (by omega) (by rw [hz2]; omega) (by unfold maxLen; omega) (Nat.le_refl _)
  refine ⟨w', hrun, fun M => ⟨?_, fun i r hi => absurd hi (Nat.not_lt_zero _), fun i _ hn => by simp [hn]⟩, (Below.refl _ _).grown hg (Nat.le_refl _) (fun k h => by cases h)⟩
  have : (Value.slice none 0 0).cells = #[.slice none 0 0] := rfl
  rw [this, Nat.mul_one, toList_madeCells_one] at hown
  exact hown

theorem one_laid (w : World) (z : Int) : ∀ (j : Nat) (u : Value), [Value.int .i64 z][j]? = some u → (w.alloc (.cells #[.int .i64 z] 3)).cell? ((⟨w.heap.size, 0, none⟩ : Addr).add j) = some u := by
  intro j u hj
  match j, hj with
  | 0, hj => simp at hj; subst hj; simp [Addr.add]

/-- A closure over a variable and a value that only reads what is old. -/
def ClosS (F : Nat) (caps : Array Value) (s : Sto) (p : Nat → Int → Bool) (w : World) : Prop :=
  (∀ (args : Array Value) (w' : World), Sem.run Tryz.prog (callFunc F args) w' = .ok (.enter F args) w') ∧
  ∀ (k : Nat) (r : List Int) (z : Int) (w' : World), s[k]? = some r → z ∈ r → Below w.heap.size w w' → Calls Tryz.prog F (#[.int .i64 k, .int .i64 z] ++ caps) w' fun e w'' => e = .returned (.bool (p k z)) ∧ Below w'.heap.size w' w''
theorem filt_hit (q : Int → Bool) (r : List Int) (j : Nat) (z : Int) (hz : r[j]? = some z) (h : q z = true) : (r.take (j + 1)).filter q = (r.take j).filter q ++ [z] := by
  rw [List.take_add_one, hz, List.filter_append]; simp [h]
theorem filt_miss (q : Int → Bool) (r : List Int) (j : Nat) (z : Int) (hz : r[j]? = some z) (h : q z = false) : (r.take (j + 1)).filter q = (r.take j).filter q := by
  rw [List.take_add_one, hz, List.filter_append]; simp [h]
theorem filt_short (q : Int → Bool) (r : List Int) (j : Nat) : ((r.take j).filter q).length ≤ r.length :=
  Nat.le_trans (List.length_filter_le _ _) (by rw [List.length_take]; omega)

set_option maxHeartbeats 1600000 in
set_option maxRecDepth 100000 in
theorem sift_any (F : Nat) (caps : Array Value) (s : Sto) (p : Nat → Int → Bool) (v : Value) (w : World) (hv : RArg w v s) (hF : ClosS F caps s p w) (hn : s.length ≤ 6) (hr6 : ∀ r ∈ s, r.length ≤ 6) :
    Calls Tryz.prog 53 #[v, .func (.func F) #[] caps] w fun e w' => ∃ x, e = .returned x ∧ RArg w' x (siftS s p) ∧ Below w.heap.size w w' := by
  obtain ⟨a3, c3, rfl, hl3, hr3⟩ := hv
  have HV3 : Hid (∀ (i : Nat) (r : List Int), s[i]? = some r → ∃ b off x, a3 = some ⟨b, off, none⟩ ∧ b < w.heap.size ∧ w.cell? ⟨b, off + i, none⟩ = some x ∧ IArg w x r) := hr3
  have HF : Hid (ClosS F caps s p w) := hF
  have HR6 : Hid (∀ r ∈ s, r.length ≤ 6) := hr6
  unfold maxLen at hl3
  obtain ⟨hl31, hl3⟩ := hl3
  obtain ⟨wm, hrun, hrows, hbm⟩ := make_store s.length hn w
  have HROWS : Hid (∀ M, SRows wm w.heap.size w.heap.size s.length (List.replicate s.length (.slice none 0 0)) M 0) := hrows
  have HBM : Hid (Below w.heap.size w wm) := hbm
  obtain ⟨B, hB⟩ : ∃ B, B = w.heap.size := ⟨_, rfl⟩
  rw [← hB] at hrun HROWS
  have hBw : w.heap.size ≤ B := by omega
  obtain ⟨i0, hi, hz0, hz1, hz2⟩ := info_parts Tryz.infoInt
  clear hr3 hF hr6 hrows hbm hB
  go_enter Tryz.func53, Tryz.ntmps53
  go_wp2_with fail
  clear hrun
  go_loopw [15] (fun i wr => ∃ (k : Nat) (cells : List Value), k ≤ s.length ∧ i = .int .i64 k ∧ SRows wr B B s.length cells (siftS s p) k ∧ Below w.heap.size w wr) (fun i _ => s.length - (intOf i).toNat)
  case atStart => exact ⟨0, _, by omega, rfl, HROWS.out _, HBM.out⟩
  case round =>
    obtain ⟨k, cells, hk, rfl, hrow, hbw⟩ := hrel
    have HROW : Hid (SRows wr B B s.length cells (siftS s p) k) := hrow
    have HBW : Hid (Below w.heap.size w wr) := hbw
    clear hrow hbw
    by_cases hlt : k < s.length
    · obtain ⟨r, hr⟩ : ∃ r, s[k]? = some r := ⟨s[k], by simp [hlt]⟩
      have HM : Hid ((siftS s p)[k]? = some (r.filter (p k))) := siftS_get s p k r hr
      have hr6 : r.length ≤ 6 := HR6.out r (List.mem_of_getElem? hr)
      have HR : Hid (s[k]? = some r) := hr
      obtain ⟨b, off, x, hax, hb, hc0, hix⟩ := HV3.out k r hr
      subst hax
      have hc := (HBW.out.cell (p := ⟨b, off + k, none⟩) hb).trans hc0
      obtain ⟨a5, c5, rfl, hm5, hr5⟩ := hix
      have HR5 : Hid (∀ (i : Nat) (z : Int), r[i]? = some z → ∃ b off, a5 = some ⟨b, off, none⟩ ∧ b < w.heap.size ∧ w.cell? ⟨b, off + i, none⟩ = some (.int .i64 z)) := hr5
      unfold maxLen at hm5
      obtain ⟨hm51, hm5⟩ := hm5
      obtain ⟨K, HIN⟩ : ∃ K, Hid (SRowsIn wr B B s.length cells (siftS s p) k K []) := ⟨_, HROW.out.into hlt⟩
      clear hr hc0 hr5 hb
      obtain ⟨wo, rfl⟩ : ∃ wo : World, wo = wr := ⟨_, rfl⟩
      go_wp2_with fail
      clear hc
      go_loopw [22] (fun i wr => ∃ (j : Nat) (cells : List Value), j ≤ r.length ∧ i = .int .i64 j ∧ SRowsIn wr B B s.length cells (siftS s p) k K ((r.take j).filter (p k)) ∧ Below w.heap.size w wr) (fun i _ => r.length - (intOf i).toNat)
      case atStart => exact ⟨0, cells, by omega, rfl, HIN.out, HBW.out⟩
      case round =>
        obtain ⟨j, cells, hj, rfl, hin, hbw⟩ := hrel
        have HIN2 : Hid (SRowsIn wr B B s.length cells (siftS s p) k K ((r.take j).filter (p k))) := hin
        have HBW2 : Hid (Below w.heap.size w wr) := hbw
        clear hin hbw
        by_cases hlj : j < r.length
        · obtain ⟨z, hz⟩ : ∃ z, r[j]? = some z := ⟨r[j], by simp [hlj]⟩
          obtain ⟨b5, off5, ha5, hb5, hc5⟩ := HR5.out j z hz
          have HZ : Hid (r[j]? = some z) := hz
          subst ha5
          have hc := (HBW2.out.cell (p := ⟨b5, off5 + j, none⟩) hb5).trans hc5
          clear hz hc5 hb5
          cases hq : p k z
          · have HN : Hid ((r.take (j + 1)).filter (p k) = (r.take j).filter (p k)) := filt_miss (p k) r j z HZ.out hq
            go_wp2_with fail
            rw [HF.out.1, Oper.upon_enter]
            refine (HF.out.2 k r z _ HR.out (List.mem_of_getElem? HZ.out) HBW2.out).mono ?_
            rintro e w1 ⟨rfl, hb1⟩
            rw [hq]
            have HIN3 := HIN2.out.kept hb1
            have HB3 : Hid (Below w.heap.size w w1) := HBW2.out.trans (hb1.mono HBW2.out.size)
            clear hq hb1
            go_wp2
            go_roundw
            case rel => exact ⟨j + 1, cells, by omega, by go_num, by rw [HN.out]; exact HIN3, HB3.out⟩
            case measure => simp [intOf]; omega
          · have HN : Hid ((r.take (j + 1)).filter (p k) = (r.take j).filter (p k) ++ [z]) := filt_hit (p k) r j z HZ.out hq
            obtain ⟨acc, hacc⟩ : ∃ acc, (r.take j).filter (p k) = acc := ⟨_, rfl⟩
            have hal : acc.length ≤ 6 := by rw [← hacc]; exact Nat.le_trans (filt_short (p k) r j) hr6
            rw [hacc] at HN HIN2
            clear hacc
            go_wp2_with fail
            rw [HF.out.1, Oper.upon_enter]
            refine (HF.out.2 k r z _ HR.out (List.mem_of_getElem? HZ.out) HBW2.out).mono ?_
            rintro e w1 ⟨rfl, hb1⟩
            rw [hq]
            have HIN3 : Hid (SRowsIn w1 B B s.length cells (siftS s p) k K acc) := HIN2.out.kept hb1
            have HB3 : Hid (Below w.heap.size w w1) := HBW2.out.trans (hb1.mono HBW2.out.size)
            clear hq hb1 hc HIN2 HBW2
            obtain ⟨htop, _, ⟨x, hx, hox⟩, _, hBK, hKw, _⟩ := HIN3.out
            obtain ⟨ax, cx, rfl⟩ := own_form hox
            have HX : Hid (cells[k]? = some (.slice ax acc.length cx)) := hx
            have hcx : w1.cell? ⟨B, k, none⟩ = some (.slice ax acc.length cx) := by rw [htop.cellAt k (by omega)]; exact hx
            have hlB : B < w1.heap.size := by omega
            clear hx
            go_wp2_with (at_builtin; refine wpList_append_own _ rfl _ _ 39 rfl K 3 i0 (.int .i64 0) 1 8 Tryz.underlying39 hi hz0 hz1 hz2 rfl (by decide) _ _ _ rfl (hox.alloc _) ⟨w1.heap.size, 0, none⟩ 1 1 [.int .i64 z] rfl rfl ?c1 ?c2 ?c3 ?c4 ?c5 ?_)
            case c1 => exact one_laid w1 z
            case c2 => intro u hu; rcases List.mem_singleton.1 hu with rfl; rfl
            case c3 => unfold maxLen; omega
            case c4 => omega
            case c5 => simp; omega
            intro v3 w3 hown3 hgrow _
            have hown4 : w3.ownsRow K 3 1 v3 (acc ++ [z]).length ((acc ++ [z]).map (Value.int .i64)) := by
              rw [List.length_append, List.map_append]; exact hown3
            have HPUSH : Hid (SRowsIn (w3.setCell ⟨B, k, none⟩ v3) B B s.length (cells.set k v3) (siftS s p) k K (acc ++ [z])) := (HIN3.out.kept (below_alloc _ _)).push HX.out hown4 hgrow
            have HB4 : Hid (Below w.heap.size w (w3.setCell ⟨B, k, none⟩ v3)) :=
              ((HB3.out.alloc HB3.out.size _).grown hgrow (by have := HB3.out.size; simp; omega) (fun g h => by have := (hox.lt g h).1; omega)).setCell (by simp only; omega) _
            have ht3 : w3.ownsRow B 39 1 (.slice (some ⟨B, 0, none⟩) s.length s.length) s.length cells := (htop.alloc _).kept hgrow (Or.inr (fun h => by have := (hox.lt B h.symm).1; omega))
            have hcB : w3.cell? ⟨B, k, none⟩ = some (.slice ax acc.length cx) := by rw [ht3.cellAt k (by omega)]; exact HX.out
            have hfB : w3.frozen? ⟨B, k, none⟩ = false := ht3.frozenAt k
            obtain ⟨av, cv, rfl⟩ := own_form hown4
            rw [show (acc ++ [z]).length = acc.length + 1 by simp] at HPUSH HB4
            clear hown3 hgrow hown4 hox hcx htop ht3
            go_wp2
            go_roundw
            case rel => exact ⟨j + 1, _, by omega, by go_num, by rw [HN.out]; exact HPUSH.out, HB4.out⟩
            case measure => simp [intOf]; omega
        · have HN : Hid ((r.take j).filter (p k) = r.filter (p k)) := by show _ = _; rw [List.take_of_length_le (by omega)]
          have HD : Hid (SRows wr B B s.length cells (siftS s p) (k + 1)) := HIN2.out.done (by rw [HN.out]; exact HM.out)
          go_wp2
          go_roundw
          case rel => exact ⟨k + 1, cells, by omega, by go_num, HD.out, HBW2.out⟩
          case measure => simp [intOf]; omega
    · have hks : k = s.length := by omega
      have HFN : Hid (RArg wr (.slice (some ⟨B, 0, none⟩) s.length s.length) (siftS s p)) := by
        have h := HROW.out
        rw [hks] at h
        exact h.rarg (siftS_len s p)
      clear hks
      go_wp2
      go_ret
      exact ⟨_, rfl, HFN.out, HBW.out⟩
end Go.Proofs.YtggkbhafbhhhhadGreat
/-
  PLAIN: the greatest store that nothing changes: what all together leave, in whatever order; no program in it.
-/
namespace Go.Proofs.YtggkbhafbhhhhadGreat

def clearS (s : Sto) : Sto := s.map fun _ => []
/-- If a variable has none, all have none. -/
def nrmS (s : Sto) : Sto := if failedS s then clearS s else s
theorem clear_len (s : Sto) : (clearS s).length = s.length := by simp [clearS]
theorem clear_get (s : Sto) (k : Nat) (r : List Int) (h : (clearS s)[k]? = some r) : r = [] := by
  unfold clearS at h
  rw [List.getElem?_map] at h
  obtain ⟨_, _, rfl⟩ := Option.map_eq_some_iff.1 h
  rfl
theorem nrm_len (s : Sto) : (nrmS s).length = s.length := by unfold nrmS; split <;> simp [clearS]
theorem fail_iff (s : Sto) : failedS s = true ↔ ∃ k : Nat, s[k]? = some [] := by
  unfold failedS
  rw [List.any_eq_true]
  constructor
  · rintro ⟨r, hr, h⟩
    obtain ⟨k, hk⟩ := List.mem_iff_getElem?.1 hr
    have : r = [] := List.eq_nil_of_length_eq_zero (by simpa using h)
    exact ⟨k, by rw [hk, this]⟩
  · rintro ⟨k, hk⟩
    exact ⟨[], List.mem_of_getElem? hk, rfl⟩
theorem clear_failed (s : Sto) (h : failedS s = true) : failedS (clearS s) = true := by
  obtain ⟨k, hk⟩ := (fail_iff s).1 h
  refine (fail_iff _).2 ⟨k, ?_⟩
  unfold clearS
  rw [List.getElem?_map, hk]; rfl
theorem nrm_failed (s : Sto) : failedS (nrmS s) = failedS s := by
  unfold nrmS
  cases h : failedS s
  · simp [h]
  · rw [if_pos rfl]; exact clear_failed s h
theorem clear_clear (s : Sto) : clearS (clearS s) = clearS s := by simp [clearS]
theorem nrm_nrm (s : Sto) : nrmS (nrmS s) = nrmS s := by
  cases h : failedS s
  · have : nrmS s = s := by unfold nrmS; rw [h, if_neg (by simp)]
    rw [this, this]
  · have e : nrmS s = clearS s := by unfold nrmS; rw [h, if_pos rfl]
    rw [e]
    unfold nrmS
    rw [clear_failed s h, if_pos rfl, clear_clear]
theorem sub_nrm (s : Sto) : SubS (nrmS s) s := by
  unfold nrmS
  split
  · refine ⟨clear_len s, fun k r q hr hq x hx => ?_⟩
    rw [clear_get s k r hr] at hx; cases hx
  · exact SubS.refl _
theorem sub_failed {t s : Sto} (h : SubS t s) (hs : failedS s = true) : failedS t = true := by
  obtain ⟨k, hk⟩ := (fail_iff s).1 hs
  refine (fail_iff t).2 ⟨k, ?_⟩
  have hi : k < t.length := by rw [h.1]; exact (List.getElem?_eq_some_iff.1 hk).1
  have e : t[k]? = some t[k] := by simp [hi]
  have : t[k] = [] := by
    rcases hq : t[k] with _ | ⟨a, r⟩
    · rfl
    · have := h.2 k _ _ e hk a (by rw [hq]; exact List.mem_cons_self ..)
      cases this
  rw [e, this]
theorem sub_clear {t s : Sto} (hl : t.length = s.length) : SubS (clearS t) s := by
  refine ⟨by rw [clear_len, hl], fun k r q hr hq x hx => ?_⟩
  rw [clear_get t k r hr] at hx; cases hx
theorem nrm_mono {t s : Sto} (h : SubS t s) : SubS (nrmS t) (nrmS s) := by
  cases ht : failedS t
  · have hs : failedS s = false := by
      cases hs : failedS s
      · rfl
      · rw [sub_failed h hs] at ht; cases ht
    unfold nrmS
    rw [ht, hs]
    exact h
  · have : nrmS t = clearS t := by unfold nrmS; rw [ht, if_pos rfl]
    rw [this]
    exact sub_clear (by rw [nrm_len]; exact h.1)

/-- Row by row a part. -/
def RowSub (t s : Sto) : Prop := t.length = s.length ∧ ∀ (k : Nat) r q, t[k]? = some r → s[k]? = some q → r.Sublist q
theorem RowSub.refl (s : Sto) : RowSub s s := ⟨rfl, fun k r q hr hq => by rw [hr] at hq; cases hq; exact List.Sublist.refl _⟩
theorem RowSub.trans {a b c : Sto} (h : RowSub a b) (k : RowSub b c) : RowSub a c := by
  refine ⟨h.1.trans k.1, fun i r q hr hq => ?_⟩
  have hi : i < b.length := by rw [← h.1]; exact (List.getElem?_eq_some_iff.1 hr).1
  have e : b[i]? = some b[i] := by simp [hi]
  exact (h.2 i r _ hr e).trans (k.2 i _ q e hq)
theorem row_sift (s : Sto) (p : Nat → Int → Bool) : RowSub (siftS s p) s := by
  refine ⟨siftS_len _ _, fun k r q hr hq => ?_⟩
  obtain ⟨a, ha, rfl⟩ := siftS_back _ _ _ _ hr
  rw [hq] at ha; cases ha
  exact List.filter_sublist
theorem row_unit (s : Sto) (c : Cla) : RowSub (unitS s c) s := by
  unfold unitS
  split
  · exact RowSub.refl _
  · split
    · exact row_sift _ _
    · split
      · exact row_sift _ _
      · exact RowSub.refl _
def sizeS (s : Sto) : Nat := (s.map List.length).sum
theorem row_size : ∀ (t s : Sto), RowSub t s → sizeS t ≤ sizeS s ∧ (sizeS t = sizeS s → t = s)
  | [], [], _ => ⟨Nat.le_refl _, fun _ => rfl⟩
  | [], b :: s, h => by have := h.1; simp at this
  | a :: t, [], h => by have := h.1; simp at this
  | a :: t, b :: s, h => by
    have h0 := h.2 0 a b rfl rfl
    have ih := row_size t s ⟨by simpa using h.1, fun k r q hr hq => h.2 (k + 1) r q (by simpa using hr) (by simpa using hq)⟩
    have hl := h0.length_le
    have e1 : sizeS (a :: t) = a.length + sizeS t := by simp [sizeS]
    have e2 : sizeS (b :: s) = b.length + sizeS s := by simp [sizeS]
    refine ⟨by omega, fun he => ?_⟩
    have ha : a = b := h0.eq_of_length (by omega)
    have ht : t = s := ih.2 (by omega)
    rw [ha, ht]
theorem clear_sift (s : Sto) : clearS s = siftS s fun _ _ => false := by
  refine sto_ext _ _ (by rw [clear_len, siftS_len]) fun k r q hr hq => ?_
  obtain ⟨a, ha, rfl⟩ := siftS_back _ _ _ _ hq
  rw [clear_get s k r hr]
  simp
/-- A step: it takes away, of less it leaves less, and leaves alone what has failed. -/
structure StepOk (f : Sto → Sto) : Prop where
  dec : ∀ s, SubS (f s) s
  row : ∀ s, RowSub (f s) s
  mono : ∀ s t, SubS t s → failedS t = false → failedS s = false → SubS (f t) (f s)
  stay : ∀ s, failedS s = true → f s = s
theorem step_nrm {f : Sto → Sto} (hf : StepOk f) {t s : Sto} (h : SubS t s) : SubS (nrmS (f t)) (nrmS (f s)) := by
  cases ht : failedS t
  · cases hs : failedS s
    · exact nrm_mono (hf.mono s t h ht hs)
    · rw [sub_failed h hs] at ht; cases ht
  · rw [hf.stay t ht]
    have : nrmS t = clearS t := by unfold nrmS; rw [ht, if_pos rfl]
    rw [this]
    exact sub_clear (by rw [nrm_len, (hf.dec s).1]; exact h.1)

/-- What nothing takes away from, below s. -/
def Holdout (fs : List (Sto → Sto)) (s u : Sto) : Prop := SubS u (nrmS s) ∧ nrmS u = u ∧ ∀ f ∈ fs, SubS u (nrmS (f u))
/-- What is on its way to the greatest one. -/
def OnWay (fs : List (Sto → Sto)) (s t : Sto) : Prop := SubS t s ∧ ∀ u, Holdout fs s u → SubS u t
/-- The greatest one. -/
def Greatest (fs : List (Sto → Sto)) (s t : Sto) : Prop := Holdout fs s t ∧ ∀ u, Holdout fs s u → SubS u t

theorem onway_begin (fs : List (Sto → Sto)) (s : Sto) : OnWay fs s s := ⟨SubS.refl _, fun _ hu => hu.1.trans (sub_nrm s)⟩
/-- .. a step's answer itself, where no variable is asked yet whether it has none. -/
theorem onway_raw {fs : List (Sto → Sto)} {s t : Sto} (h : OnWay fs s t) (f : Sto → Sto) (hf : f ∈ fs) (hok : StepOk f) : OnWay fs s (f t) :=
  ⟨(hok.dec t).trans h.1, fun u hu => ((hu.2.2 f hf).trans (step_nrm hok (h.2 u hu))).trans (sub_nrm _)⟩
theorem onway_clear {fs : List (Sto → Sto)} {s t : Sto} (h : OnWay fs s t) (hf : failedS t = true) (hok : ∀ f ∈ fs, StepOk f) : Greatest fs s (clearS t) := by
  have hc := clear_failed t hf
  have hn : nrmS (clearS t) = clearS t := by unfold nrmS; rw [hc, if_pos rfl, clear_clear]
  refine ⟨⟨sub_clear (by rw [nrm_len]; exact h.1.1), hn, fun f hf2 => ?_⟩, fun u hu => ?_⟩
  · rw [(hok f hf2).stay _ hc, hn]; exact SubS.refl _
  · have h1 := h.2 u hu
    have h2 := sub_failed h1 hf
    have h3 : u = clearS u := by
      have := hu.2.1
      unfold nrmS at this
      rw [h2, if_pos rfl] at this
      exact this.symm
    rw [h3]
    exact sub_clear (by rw [clear_len]; exact h1.1)
theorem onway_end {fs : List (Sto → Sto)} {s t : Sto} (h : OnWay fs s t) (hf : failedS t = false) (hs : ∀ f ∈ fs, f t = t) : Greatest fs s t := by
  have hn : nrmS t = t := by unfold nrmS; rw [hf, if_neg (by simp)]
  have hsf : failedS s = false := by
    cases hq : failedS s
    · rfl
    · rw [sub_failed h.1 hq] at hf; cases hf
  have hsn : nrmS s = s := by unfold nrmS; rw [hsf, if_neg (by simp)]
  exact ⟨⟨by rw [hsn]; exact h.1, hn, fun f hf2 => by rw [hs f hf2, hn]; exact SubS.refl _⟩, h.2⟩
/-- One after the other. -/
def passS (fs : List (Sto → Sto)) (t : Sto) : Sto := fs.foldl (fun t f => f t) t
theorem pass_row : ∀ (fs : List (Sto → Sto)) (t : Sto), (∀ f ∈ fs, StepOk f) → RowSub (passS fs t) t
  | [], t, _ => RowSub.refl t
  | f :: fs, t, h => (pass_row fs (f t) fun g hg => h g (List.mem_cons_of_mem _ hg)).trans ((h f (List.mem_cons_self ..)).row t)
theorem pass_same : ∀ (fs : List (Sto → Sto)) (t : Sto), (∀ f ∈ fs, StepOk f) → sizeS (passS fs t) = sizeS t → ∀ f ∈ fs, f t = t
  | [], t, _, _ => fun f hf => by cases hf
  | f :: fs, t, h, he => by
    have h1 := row_size _ _ (pass_row fs (f t) fun g hg => h g (List.mem_cons_of_mem _ hg))
    have h2 := row_size _ _ ((h f (List.mem_cons_self ..)).row t)
    have e0 : passS (f :: fs) t = passS fs (f t) := rfl
    rw [e0] at he
    have e1 : f t = t := h2.2 (by omega)
    rw [e1] at he
    intro g hg
    rcases List.mem_cons.1 hg with rfl | hg
    · exact e1
    · exact pass_same fs t (fun g hg => h g (List.mem_cons_of_mem _ hg)) he g hg
theorem onway_pass {gs : List (Sto → Sto)} {s : Sto} : ∀ (fs : List (Sto → Sto)) (t : Sto), (∀ f ∈ fs, f ∈ gs ∧ StepOk f) → OnWay gs s t → OnWay gs s (passS fs t)
  | [], _, _, h => h
  | f :: fs, t, h, hw => onway_pass fs (f t) (fun g hg => h g (List.mem_cons_of_mem _ hg)) (onway_raw hw f (h f (List.mem_cons_self ..)).1 (h f (List.mem_cons_self ..)).2)
theorem pass_next (fs : List (Sto → Sto)) (k : Nat) (f : Sto → Sto) (t : Sto) (h : fs[k]? = some f) : passS (fs.take (k + 1)) t = f (passS (fs.take k) t) := by
  unfold passS
  rw [List.take_add_one, h, List.foldl_append]; rfl
theorem till_end {fs : List (Sto → Sto)} {s t : Sto} (hok : ∀ f ∈ fs, StepOk f) (h : OnWay fs s t) (hs : ∀ f ∈ fs, f t = t) : Greatest fs s (nrmS t) := by
  cases hf : failedS t
  · have : nrmS t = t := by unfold nrmS; rw [hf, if_neg (by simp)]
    rw [this]
    exact onway_end h hf hs
  · have : nrmS t = clearS t := by unfold nrmS; rw [hf, if_pos rfl]
    rw [this]
    exact onway_clear h hf hok

theorem rows_eq : ∀ (a b : List Int), a.Pairwise (· < ·) → b.Pairwise (· < ·) → (∀ x, x ∈ a ↔ x ∈ b) → a = b
  | [], [], _, _, _ => rfl
  | [], y :: b, _, _, h => by have := (h y).2 (List.mem_cons_self ..); cases this
  | x :: a, [], _, _, h => by have := (h x).1 (List.mem_cons_self ..); cases this
  | x :: a, y :: b, ha, hb, h => by
    obtain ⟨h1, h2⟩ := List.pairwise_cons.1 ha
    obtain ⟨k1, k2⟩ := List.pairwise_cons.1 hb
    have hxy : x = y := by
      rcases List.mem_cons.1 ((h x).1 (List.mem_cons_self ..)) with e | e
      · exact e
      · rcases List.mem_cons.1 ((h y).2 (List.mem_cons_self ..)) with f | f
        · exact f.symm
        · have := k1 x e; have := h1 y f; omega
    subst hxy
    congr 1
    refine rows_eq a b h2 k2 fun z => ?_
    constructor
    · intro hz
      rcases List.mem_cons.1 ((h z).1 (List.mem_cons_of_mem _ hz)) with e | e
      · have := h1 z hz; omega
      · exact e
    · intro hz
      rcases List.mem_cons.1 ((h z).2 (List.mem_cons_of_mem _ hz)) with e | e
      · have := k1 z hz; omega
      · exact e
/-- Two right stores that are within one another are the same. -/
theorem sub_antisymm {a b : Sto} (ha : a.all risesB = true) (hb : b.all risesB = true) (h : SubS a b) (k : SubS b a) : a = b := by
  refine sto_ext a b h.1 fun i r q hr hq => ?_
  refine rows_eq r q ((rises_pair _).1 (List.all_eq_true.1 ha _ (List.mem_of_getElem? hr))) ((rises_pair _).1 (List.all_eq_true.1 hb _ (List.mem_of_getElem? hq))) fun x => ⟨h.2 i r q hr hq x, k.2 i q r hq hr x⟩
theorem sub_within {a b : Sto} (h : SubS a b) : withinS a b = true := by
  unfold withinS
  rw [all_zip]
  intro i r q hr hq
  exact (withinR_iff _ _).2 (h.2 i r q hr hq)
theorem within_sub {a b : Sto} (hl : a.length = b.length) (h : withinS a b = true) : SubS a b := by
  unfold withinS at h
  rw [all_zip] at h
  exact ⟨hl, fun i r q hr hq => (withinR_iff _ _).1 (h i r q hr hq)⟩

/-- DONE TWICE IT IS DONE ONCE. -/
theorem great_again {fs : List (Sto → Sto)} {s t t2 : Sto} (h : Greatest fs s t) (h2 : Greatest fs t t2) (ht : t.all risesB = true) (ht2 : t2.all risesB = true) : t2 = t := by
  have hn : nrmS t = t := h.1.2.1
  refine sub_antisymm ht2 ht ?_ (h2.2 t ⟨by rw [hn]; exact SubS.refl _, hn, h.1.2.2⟩)
  have := h2.1.1
  rwa [hn] at this
/-- ALL TOGETHER LEAVE NO MORE THAN A PART DOES. -/
theorem great_part {fs gs : List (Sto → Sto)} {s t a : Sto} (h : Greatest fs s t) (k : Greatest gs s a) (hsub : ∀ g ∈ gs, g ∈ fs) : SubS t a :=
  k.2 t ⟨h.1.1, h.1.2.1, fun g hg => h.1.2.2 g (hsub g hg)⟩
/-- WHAT IS WITHIN IS WITHIN. -/
theorem great_less {fs : List (Sto → Sto)} {s less t k : Sto} (h : Greatest fs s t) (h2 : Greatest fs less k) (hl : SubS less s) : SubS k t :=
  h.2 k ⟨h2.1.1.trans (nrm_mono hl), h2.1.2.1, h2.1.2.2⟩
/-- NO VALUES THAT EVERY STEP KEEPS ARE LOST. -/
theorem great_keeps {fs : List (Sto → Sto)} {s t : Sto} (h : Greatest fs s t) (vals : List Int) (hs : hasS s vals = true) (hk : ∀ f ∈ fs, ∀ u : Sto, u.length = s.length → hasS u vals = true → hasS (f u) vals = true) : hasS t vals = true := by
  let u : Sto := vals.map fun x => [x]
  have hs2 := (hasS_iff s vals).1 hs
  have hul : u.length = s.length := by simp [u, hs2.1]
  have huget : ∀ (k : Nat) r, u[k]? = some r → ∃ x, vals[k]? = some x ∧ r = [x] := by
    intro k r hr
    simp only [u, List.getElem?_map] at hr
    obtain ⟨x, hx, rfl⟩ := Option.map_eq_some_iff.1 hr
    exact ⟨x, hx, rfl⟩
  have huh : hasS u vals = true := by
    rw [hasS_iff]
    refine ⟨by simp [u], fun k r x hr hx => ?_⟩
    obtain ⟨y, hy, rfl⟩ := huget k r hr
    rw [hx] at hy; cases hy
    exact List.mem_singleton.2 rfl
  have sub_of : ∀ a : Sto, a.length = s.length → hasS a vals = true → SubS u a := by
    intro a hal ha
    rw [hasS_iff] at ha
    refine ⟨by rw [hul, hal], fun k r q hr hq x hx => ?_⟩
    obtain ⟨y, hy, rfl⟩ := huget k r hr
    rw [List.mem_singleton.1 hx]
    exact ha.2 k q y hq hy
  have nrm_of : ∀ a : Sto, hasS a vals = true → nrmS a = a := by
    intro a ha
    unfold nrmS
    rw [has_not_failed a vals ha, if_neg (by simp)]
  have hu : Holdout fs s u := by
    refine ⟨by rw [nrm_of s hs]; exact sub_of s rfl hs, nrm_of u huh, fun f hf => ?_⟩
    have hfu := hk f hf u hul huh
    rw [nrm_of (f u) hfu]
    have hl := ((hasS_iff _ _).1 hfu).1
    exact sub_of (f u) (by rw [hl]; exact hs2.1.symm) hfu
  have hut := h.2 u hu
  rw [hasS_iff]
  refine ⟨by rw [← hut.1, hul]; exact hs2.1, fun k r x hr hx => ?_⟩
  have hk2 : u[k]? = some [x] := by simp only [u, List.getElem?_map, hx]; rfl
  exact hut.2 k _ r hk2 hr x (List.mem_singleton.2 rfl)
theorem unit_step (c : Cla) : StepOk fun s => unitS s c where
  dec s := sub_unit s c
  row s := row_unit s c
  mono s t h ht hs := unit_mono s t c h ht hs
  stay s h := by unfold unitS; rw [h, if_pos rfl]
theorem great_unique {fs : List (Sto → Sto)} {s t t2 : Sto} (h : Greatest fs s t) (h2 : Greatest fs s t2) (ht : t.all risesB = true) (ht2 : t2.all risesB = true) : t2 = t :=
  sub_antisymm ht2 ht (h.2 _ h2.1) (h2.2 _ h.1)
theorem checkV_nrm (vs : List MVar) (s : Sto) (h : checkV vs s = 0) : checkV vs (nrmS s) = 0 := by
  unfold nrmS
  split
  · rw [clear_sift]; exact checkV_sift _ _ _ h
  · exact h
theorem checkV_pass (vs : List MVar) : ∀ (fs : List (Sto → Sto)) (t : Sto), (∀ f ∈ fs, ∀ u, checkV vs u = 0 → checkV vs (f u) = 0) → checkV vs t = 0 → checkV vs (passS fs t) = 0
  | [], _, _, h => h
  | f :: fs, t, h, ht => checkV_pass vs fs (f t) (fun g hg => h g (List.mem_cons_of_mem _ hg)) (h f (List.mem_cons_self ..) t ht)
end Go.Proofs.YtggkbhafbhhhhadGreat
/-
  WALKS: package sift: All, None.
-/
namespace Go.Proofs.YtggkbhafbhhhhadGreat
open Go.RowKit

set_option maxHeartbeats 400000 in
theorem yes_any (x y : Value) (w : World) : Calls Tryz.prog 97 #[x, y] w fun e w' => e = .returned (.bool true) ∧ Below w.heap.size w w' := by
  go_enter Tryz.func97, Tryz.ntmps97
  go_wp2
  go_ret
  exact ⟨rfl, Below.refl _ _⟩
theorem enters_yes (args : Array Value) (w' : World) : Sem.run Tryz.prog (callFunc 97 args) w' = .ok (.enter 97 args) w' := by
  simp [callFunc, go_sem, Tryz.func97, Tryz.f97]

set_option maxHeartbeats 400000 in
theorem all_any (s : Sto) (v : Value) (w : World) (hv : RArg w v s) (hn : s.length ≤ 6) (hr6 : ∀ r ∈ s, r.length ≤ 6) :
    Calls Tryz.prog 54 #[v] w fun e w' => ∃ x, e = .returned x ∧ RArg w' x s ∧ Below w.heap.size w w' := by
  have HV : Hid (RArg w v s) := hv
  have HR6 : Hid (∀ r ∈ s, r.length ≤ 6) := hr6
  obtain ⟨a, c, rfl, _, _⟩ := hv
  clear hr6
  go_enter Tryz.func54, Tryz.ntmps54
  go_wp2_with fail
  refine (sift_any 97 #[] s (fun _ _ => true) _ _ HV.out ⟨enters_yes, fun k r z w' _ _ _ => yes_any _ _ w'⟩ hn HR6.out).mono ?_
  rintro e w1 ⟨x, rfl, hx, hb1⟩
  rw [sift_same s _ (fun _ _ _ _ _ => rfl)] at hx
  have HX : Hid (RArg w1 x s) := hx
  obtain ⟨ax, cx, rfl, _, _⟩ := hx
  go_wp2
  go_ret
  exact ⟨_, rfl, HX.out, hb1⟩

set_option maxHeartbeats 400000 in
theorem none_any (s : Sto) (v : Value) (w : World) (hv : RArg w v s) (hn : s.length ≤ 6) :
    Calls Tryz.prog 57 #[v] w fun e w' => ∃ x, e = .returned x ∧ RArg w' x (clearS s) ∧ Below w.heap.size w w' := by
  obtain ⟨a, c, rfl, _, _⟩ := hv
  obtain ⟨wm, hrun, hrows, hbm⟩ := make_store s.length hn w
  have HX : Hid (RArg wm (.slice (some ⟨w.heap.size, 0, none⟩) s.length s.length) (clearS s)) := by
    obtain ⟨h1, _, _⟩ := hrows []
    have hB : w.heap.size < wm.heap.size := (h1.lt w.heap.size rfl).2
    refine ⟨_, s.length, by rw [clear_len], ⟨by rw [clear_len]; exact Nat.le_refl _, by unfold maxLen; omega⟩, fun i r hr => ?_⟩
    have hi : i < s.length := by rw [← clear_len s]; exact (List.getElem?_eq_some_iff.1 hr).1
    rw [clear_get s i r hr]
    refine ⟨w.heap.size, 0, .slice none 0 0, rfl, hB, ?_, ⟨none, 0, rfl, ⟨Nat.le_refl _, Nat.zero_le _⟩, fun j z hz => by simp at hz⟩⟩
    rw [Nat.zero_add, h1.cellAt i (by omega)]
    simp [hi]
  have HB : Hid (Below w.heap.size w wm) := hbm
  obtain ⟨B, hB⟩ : ∃ B, B = w.heap.size := ⟨_, rfl⟩
  rw [← hB] at hrun HX
  clear hrows hbm hB
  go_enter Tryz.func57, Tryz.ntmps57
  go_wp2
  go_ret
  exact ⟨_, rfl, HX.out, HB.out⟩
end Go.Proofs.YtggkbhafbhhhhadGreat
/-
  WALKS: package narrow: the closures of Unit.
-/
namespace Go.Proofs.YtggkbhafbhhhhadGreat
open Go.RowKit

set_option maxHeartbeats 400000 in
set_option maxRecDepth 100000 in
theorem live_in (l : MLit) (z : Int) (b : Nat) (w : World) (h0 : w.cell? ⟨b, 0, none⟩ = some (.int .i64 l.var)) (h1 : w.cell? ⟨b, 1, none⟩ = some (.int .i64 l.op)) (h2 : w.cell? ⟨b, 2, none⟩ = some (.int .i64 l.n)) :
    Calls Tryz.prog 103 #[.int .i64 z, .pointer (some ⟨b, 0, none⟩)] w fun e w' => e = .returned (.bool (litV z l)) ∧ Below w.heap.size w w' := by
  go_enter Tryz.func103, Tryz.ntmps103
  go_wp2_with fail
  refine (lit_true l z _).mono ?_
  rintro e w1 ⟨rfl, hb1⟩
  go_wp2
  go_ret
  exact ⟨rfl, hb1⟩
theorem enters_livein (args : Array Value) (w' : World) : Sem.run Tryz.prog (callFunc 103 args) w' = .ok (.enter 103 args) w' := by
  simp [callFunc, go_sem, Tryz.func103, Tryz.f103]

set_option maxHeartbeats 800000 in
set_option maxRecDepth 100000 in
theorem live_any (s : Sto) (l : MLit) (v : Value) (b : Nat) (w : World) (hv : RArg w v s) (hb : w.cell? ⟨b, 0, none⟩ = some v) (h0 : 0 ≤ l.var) (h1 : l.var < (s.length : Int)) :
    Calls Tryz.prog 102 #[.agg #[.int .i64 l.var, .int .i64 l.op, .int .i64 l.n], .pointer (some ⟨b, 0, none⟩)] w fun e w' => e = .returned (.bool (liveB s l)) ∧ Below w.heap.size w w' := by
  obtain ⟨a, c, rfl, hm, hr⟩ := hv
  obtain ⟨j, hj⟩ : ∃ j : Nat, l.var = (j : Int) := ⟨l.var.toNat, by omega⟩
  have hjl : j < s.length := by omega
  obtain ⟨r, hrr⟩ : ∃ r, s[j]? = some r := ⟨s[j], by simp [hjl]⟩
  obtain ⟨b9, off9, x, rfl, hb9, g9, hx⟩ := hr j r hrr
  have HX : Hid (IArg w x r) := hx
  obtain ⟨a5, c5, rfl, _, _⟩ := hx
  have HRO : Hid (liveB s l = r.any fun z => litV z l) := by
    show _ = _
    unfold liveB rowOf
    rw [hj, Int.toNat_natCast, List.getD_eq_getElem?_getD, hrr]; rfl
  rw [HRO.out]
  have HJ : Hid (l.var = (j : Int)) := hj
  rw [hj]
  have hbl : b < w.heap.size := World.block_lt_of_cell? w _ hb
  unfold maxLen at hm
  obtain ⟨hm1, hm⟩ := hm
  clear hr hrr hj HRO h0 h1
  go_enter Tryz.func102, Tryz.ntmps102
  go_wp2_with fail
  refine (containsf_ints 103 _ (fun z => litV z l) r _ _ (IArg.below (below_alloc _ _) HX.out) ⟨enters_livein, ?_⟩).mono ?_
  · intro z w' hb'
    refine live_in l z w.heap.size w' ?_ ?_ ?_
    · rw [HJ.out]; exact (hb'.cell (by simp)).trans (World.cell?_alloc_at _ _ _ 0 (by simp))
    · exact (hb'.cell (by simp)).trans (World.cell?_alloc_at _ _ _ 1 (by simp))
    · exact (hb'.cell (by simp)).trans (World.cell?_alloc_at _ _ _ 2 (by simp))
  rintro e w1 ⟨rfl, hb1⟩
  have hb2 : Below w.heap.size w w1 := (below_alloc _ _).trans (hb1.mono (by simp))
  clear hb1
  go_wp2
  go_ret
  exact ⟨rfl, hb2⟩
theorem enters_live (args : Array Value) (w' : World) : Sem.run Tryz.prog (callFunc 102 args) w' = .ok (.enter 102 args) w' := by
  simp [callFunc, go_sem, Tryz.func102, Tryz.f102]

set_option maxHeartbeats 800000 in
set_option maxRecDepth 100000 in
theorem other_any (s : Sto) (l : MLit) (x : Int) (v : Value) (bs bv bo : Nat) (w : World) (hv : RArg w v s) (hb : w.cell? ⟨bs, 0, none⟩ = some v) (h1 : w.cell? ⟨bv, 0, none⟩ = some (.int .i64 x))
    (h2 : w.cell? ⟨bo, 0, none⟩ = some (.func (.func 102) #[] #[.pointer (some ⟨bs, 0, none⟩)])) (h3 : 0 ≤ l.var) (h4 : l.var < (s.length : Int)) :
    Calls Tryz.prog 105 #[.agg #[.int .i64 l.var, .int .i64 l.op, .int .i64 l.n], .pointer (some ⟨bv, 0, none⟩), .pointer (some ⟨bo, 0, none⟩)] w fun e w' => e = .returned (.bool (!decide (l.var = x) && liveB s l)) ∧ Below w.heap.size w w' := by
  have HVA : Hid (∀ w' : World, Below w.heap.size w w' → RArg w' v s) := fun w' h => RArg.below h hv
  have HB : Hid (w.cell? ⟨bs, 0, none⟩ = some v) := hb
  have lb : bs < w.heap.size := World.block_lt_of_cell? w _ hb
  have l1 : bv < w.heap.size := World.block_lt_of_cell? w _ h1
  have l2 : bo < w.heap.size := World.block_lt_of_cell? w _ h2
  clear hb hv
  by_cases hq : l.var = x
  · have g0 : (l.var != x) = false := by simpa using hq
    have HN : Hid ((!decide (l.var = x) && liveB s l) = false) := by show _ = _; rw [decide_eq_true hq]; rfl
    rw [HN.out]
    clear hq
    go_enter Tryz.func105, Tryz.ntmps105
    go_wp2
    go_ret
    exact ⟨rfl, below_alloc _ _⟩
  · have g0 : (l.var != x) = true := by simpa using hq
    have HN : Hid ((!decide (l.var = x) && liveB s l) = liveB s l) := by show _ = _; rw [decide_eq_false hq]; rfl
    rw [HN.out]
    clear hq
    go_enter Tryz.func105, Tryz.ntmps105
    go_wp2_with fail
    refine (live_any s l _ bs _ (HVA.out _ (below_alloc _ _)) ((World.cell?_alloc_past _ _ _ lb).trans HB.out) h3 h4).mono ?_
    rintro e w1 ⟨rfl, hb1⟩
    have hb2 : Below w.heap.size w w1 := (below_alloc _ _).trans (hb1.mono (by simp))
    clear hb1
    go_wp2
    go_ret
    exact ⟨rfl, hb2⟩
theorem enters_other (args : Array Value) (w' : World) : Sem.run Tryz.prog (callFunc 105 args) w' = .ok (.enter 105 args) w' := by
  simp [callFunc, go_sem, Tryz.func105, Tryz.f105]

set_option maxHeartbeats 400000 in
set_option maxRecDepth 100000 in
theorem goes_any (c : Cla) (k : Nat) (z : Int) (u : Value) (bc bv : Nat) (w : World) (hu : LArg w u c) (h1 : w.cell? ⟨bc, 0, none⟩ = some u) (h2 : w.cell? ⟨bv, 0, none⟩ = some (.int .i64 (k : Int))) :
    Calls Tryz.prog 107 #[.int .i64 z, .pointer (some ⟨bc, 0, none⟩), .pointer (some ⟨bv, 0, none⟩)] w fun e w' => e = .returned (.bool (!oneB c k z)) ∧ Below w.heap.size w w' := by
  have HU : Hid (LArg w u c) := hu
  obtain ⟨a, cc, rfl, _, _⟩ := hu
  go_enter Tryz.func107, Tryz.ntmps107
  go_wp2_with fail
  refine (one_of c k z _ _ HU.out).mono ?_
  rintro e w1 ⟨rfl, hb1⟩
  go_wp2
  go_ret
  exact ⟨rfl, hb1⟩
theorem enters_goes (args : Array Value) (w' : World) : Sem.run Tryz.prog (callFunc 107 args) w' = .ok (.enter 107 args) w' := by
  simp [callFunc, go_sem, Tryz.func107, Tryz.f107]

set_option maxHeartbeats 800000 in
set_option maxRecDepth 100000 in
theorem left_any (c : Cla) (j k : Nat) (z : Int) (u : Value) (bc bv bg : Nat) (w : World) (hu : LArg w u c) (h1 : w.cell? ⟨bc, 0, none⟩ = some u) (h2 : w.cell? ⟨bv, 0, none⟩ = some (.int .i64 (j : Int)))
    (h3 : w.cell? ⟨bg, 0, none⟩ = some (.func (.func 107) #[] #[.pointer (some ⟨bc, 0, none⟩), .pointer (some ⟨bv, 0, none⟩)])) :
    Calls Tryz.prog 108 #[.int .i64 (k : Int), .int .i64 z, .pointer (some ⟨bv, 0, none⟩), .pointer (some ⟨bg, 0, none⟩)] w fun e w' => e = .returned (.bool (decide ((k : Int) ≠ (j : Int)) || oneB c k z)) ∧ Below w.heap.size w w' := by
  by_cases hq : (k : Int) = (j : Int)
  · have g0 : ((k : Int) != (j : Int)) = false := by simpa using hq
    have hkj : k = j := by omega
    have HN : Hid ((decide ((k : Int) ≠ (j : Int)) || oneB c k z) = oneB c j z) := by show _ = _; rw [hkj]; simp
    have HG : Hid (Calls Tryz.prog 107 #[.int .i64 z, .pointer (some ⟨bc, 0, none⟩), .pointer (some ⟨bv, 0, none⟩)] w fun e w' => e = .returned (.bool (!oneB c j z)) ∧ Below w.heap.size w w') := goes_any c j z u bc bv w hu h1 h2
    rw [HN.out]
    obtain ⟨B, hB⟩ : ∃ B, oneB c j z = B := ⟨_, rfl⟩
    rw [hB] at HG ⊢
    clear hq hkj hu h1 hB HN
    go_enter Tryz.func108, Tryz.ntmps108
    go_wp2_with fail
    refine HG.out.mono ?_
    rintro e w1 ⟨rfl, hb1⟩
    go_wp2
    go_ret
    exact ⟨by cases B <;> rfl, hb1⟩
  · have g0 : ((k : Int) != (j : Int)) = true := by simpa using hq
    have HN : Hid ((decide ((k : Int) ≠ (j : Int)) || oneB c k z) = true) := by show _ = _; rw [decide_eq_true hq]; rfl
    rw [HN.out]
    clear hq hu h1 h3
    go_enter Tryz.func108, Tryz.ntmps108
    go_wp2
    go_ret
    exact ⟨rfl, Below.refl _ _⟩
theorem enters_left (args : Array Value) (w' : World) : Sem.run Tryz.prog (callFunc 108 args) w' = .ok (.enter 108 args) w' := by
  simp [callFunc, go_sem, Tryz.func108, Tryz.f108]
end Go.Proofs.YtggkbhafbhhhhadGreat
/-
  WALK: package narrow: Unit.
-/
namespace Go.Proofs.YtggkbhafbhhhhadGreat
open Go.RowKit

theorem nb2 (w : World) (o1 o2 : Obj) : Below w.heap.size w ((w.alloc o1).alloc o2) := (below_alloc _ _).alloc (by simp) _
theorem nb3 (w : World) (o1 o2 o3 : Obj) : Below w.heap.size w (((w.alloc o1).alloc o2).alloc o3) := ((below_alloc _ _).alloc (by simp) _).alloc (by simp; omega) _
theorem held_call {w2 Y w3 : World} {A : Prop} (h : Below w2.heap.size w2 Y ∧ A) (hb : Below Y.heap.size Y w3) : Below w2.heap.size w2 w3 := h.1.trans (hb.mono h.1.size)

set_option maxHeartbeats 1600000 in
set_option maxRecDepth 100000 in
theorem unit_any (s : Sto) (c : Cla) (v u : Value) (w : World) (hv : RArg w v s) (hu : LArg w u c) (hc : ClaIn s c) (hn : s.length ≤ 6) (hr6 : ∀ r ∈ s, r.length ≤ 6) :
    Calls Tryz.prog 62 #[v, u] w fun e w' => ∃ x, e = .returned x ∧ RArg w' x (unitS s c) ∧ Below w.heap.size w w' := by
  have HVA : Hid (∀ w' : World, Below w.heap.size w w' → RArg w' v s) := fun w' h => RArg.below h hv
  have HUA : Hid (∀ w' : World, Below w.heap.size w w' → LArg w' u c) := fun w' h => LArg.below h hu
  have HC : Hid (∀ l ∈ c, 0 ≤ l.var ∧ l.var < (s.length : Int)) := hc
  have HR6 : Hid (∀ r ∈ s, r.length ≤ 6) := hr6
  obtain ⟨a1, c1, rfl, hm1, _⟩ := hv
  obtain ⟨a2, c2, rfl, hm2, _⟩ := hu
  unfold maxLen at hm1 hm2
  obtain ⟨hm11, hm1⟩ := hm1
  obtain ⟨hm21, hm2⟩ := hm2
  obtain ⟨F, hF⟩ : ∃ F, failedS s = F := ⟨_, rfl⟩
  have HF : Hid (failedS s = F) := hF
  clear hc hr6 hF
  go_enter Tryz.func62, Tryz.ntmps62
  go_wp2_with fail
  refine (sift_failed s _ _ (HVA.out _ (nb2 _ _ _))).mono ?_
  rintro e w0 ⟨rfl, rfl⟩
  rw [HF.out]
  cases F
  · go_wp2_with fail
    refine (indexf_lits 102 _ (liveB s) c _ _ (HUA.out _ (nb3 _ _ _ _)) ⟨enters_live, ?_⟩).mono ?_
    · intro l w' hl hb'
      exact live_any s l _ w.heap.size w' (HVA.out _ ((nb3 _ _ _ _).trans (hb'.mono (by simp; omega)))) ((hb'.cell (by simp; omega)).trans ((World.cell?_alloc_past _ _ _ (by simp; omega)).trans ((World.cell?_alloc_past _ _ _ (by simp)).trans (World.cell?_alloc_at _ _ _ 0 (by simp))))) (HC.out l hl).1 (HC.out l hl).2
    rintro e w1 ⟨⟨z, rfl, hz⟩, hb1⟩
    have d0 : w1.cell? ⟨w.heap.size, 0, none⟩ = some (.slice a1 s.length c1) := (hb1.cell (by simp; omega)).trans ((World.cell?_alloc_past _ _ _ (by simp; omega)).trans ((World.cell?_alloc_past _ _ _ (by simp)).trans (World.cell?_alloc_at _ _ _ 0 (by simp))))
    have d1 : w1.cell? ⟨w.heap.size + 1, 0, none⟩ = some (.slice a2 c.length c2) := (hb1.cell (by simp)).trans ((World.cell?_alloc_past _ _ _ (by simp)).trans (World.cell?_alloc_at _ _ _ 0 (by simp)))
    have d2 : w1.cell? ⟨w.heap.size + 2, 0, none⟩ = some (.func (.func 102) #[] #[.pointer (some ⟨w.heap.size, 0, none⟩)]) := (hb1.cell (by simp)).trans (World.cell?_alloc_at _ _ _ 0 (by simp))
    have HB1 : Hid (Below w.heap.size w w1) := (nb3 _ _ _ _).trans (hb1.mono (by simp; omega))
    have hs1 : w.heap.size + 3 ≤ w1.heap.size := by simpa using hb1.size
    clear hb1
    rcases hz with ⟨rfl, hno⟩ | ⟨k, t, rfl, ht, hlt⟩
    · have HU : Hid (unitS s c = clearS s) := by show _ = _; rw [unit_none s c HF.out hno, clear_sift]
      clear hno
      go_wp2_with fail
      refine (none_any s _ _ (HVA.out _ HB1.out) hn).mono ?_
      rintro e w2 ⟨x, rfl, hx, hb2⟩
      have HX : Hid (RArg w2 x (clearS s)) := hx
      obtain ⟨ax, cx, rfl, _, _⟩ := hx
      have hB2 : Below w.heap.size w w2 := HB1.out.trans (hb2.mono HB1.out.size)
      clear hb2
      go_wp2
      go_ret
      rw [HU.out]
      exact ⟨_, rfl, HX.out, hB2⟩
    · have HM : Hid (t ∈ c) := List.mem_of_getElem? ht
      have HLV : Hid (liveB s t = true) := hlt
      have hkl : k < c.length := (List.getElem?_eq_some_iff.1 ht).1
      obtain ⟨a2', c2', hva, _, hrc⟩ := HUA.out _ HB1.out
      obtain ⟨b, off, hax, hb, g0, _, _⟩ := hrc k t ht
      have ha2 : a2 = some ⟨b, off, none⟩ := by cases hva; exact hax
      subst ha2
      obtain ⟨q1, q2⟩ := HC.out t HM.out
      obtain ⟨j, hj⟩ : ∃ j : Nat, t.var = (j : Int) := ⟨t.var.toNat, by omega⟩
      have HJ : Hid (t.var = (j : Int)) := hj
      rw [hj] at g0
      have hjl : j < s.length := by omega
      obtain ⟨r, hr⟩ : ∃ r, s[j]? = some r := ⟨s[j], by simp [hjl]⟩
      have HRR : Hid (s[j]? = some r) := hr
      clear hva hrc hax ht hlt q1 q2 hj hr
      have l0 : w.heap.size < w1.heap.size := by omega
      have l1 : w.heap.size + 1 < w1.heap.size := by omega
      have l2 : w.heap.size + 2 < w1.heap.size := by omega
      go_wp2_with fail
      refine (containsf_lits 105 _ (fun l => !decide (l.var = (j : Int)) && liveB s l) c _ _ (HUA.out _ (HB1.out.alloc HB1.out.size _)) ⟨enters_other, ?_⟩).mono ?_
      · intro l w' hl hb'
        exact other_any s l j _ w.heap.size w1.heap.size (w.heap.size + 2) w' (HVA.out _ ((HB1.out.alloc HB1.out.size _).trans (hb'.mono (by simp; omega)))) ((hb'.cell (by simp; omega)).trans ((World.cell?_alloc_past _ _ _ l0).trans d0)) ((hb'.cell (by simp)).trans (World.cell?_alloc_at _ _ _ 0 (by simp))) ((hb'.cell (by simp; omega)).trans ((World.cell?_alloc_past _ _ _ l2).trans d2)) (HC.out l hl).1 (HC.out l hl).2
      rintro e w2 ⟨rfl, hb2⟩
      have e0 : w2.cell? ⟨w.heap.size, 0, none⟩ = some (.slice a1 s.length c1) := (hb2.cell (by simp; omega)).trans ((World.cell?_alloc_past _ _ _ l0).trans d0)
      have e1 : w2.cell? ⟨w.heap.size + 1, 0, none⟩ = some (.slice (some ⟨b, off, none⟩) c.length c2) := (hb2.cell (by simp; omega)).trans ((World.cell?_alloc_past _ _ _ l1).trans d1)
      have e2 : w2.cell? ⟨w1.heap.size, 0, none⟩ = some (.int .i64 (j : Int)) := (hb2.cell (by simp)).trans (World.cell?_alloc_at _ _ _ 0 (by simp))
      have HB2 : Hid (Below w.heap.size w w2) := (HB1.out.alloc HB1.out.size _).trans (hb2.mono (by simp; omega))
      have hs2 : w1.heap.size + 1 ≤ w2.heap.size := by simpa using hb2.size
      obtain ⟨O, hO⟩ : ∃ O, c.any (fun l => !decide (l.var = (j : Int)) && liveB s l) = O := ⟨_, rfl⟩
      have HO : Hid (c.any (fun l => !decide (l.var = t.var) && liveB s l) = O) := by show _ = _; rw [HJ.out]; exact hO
      rw [hO]
      clear hb2 hO d0 d1 d2 g0
      cases O
      · -- all live ones are of one variable
        obtain ⟨W, hW⟩ : ∃ W : World, W = w2.alloc (.cells #[.func (.func 107) #[] #[.pointer (some ⟨w.heap.size + 1, 0, none⟩), .pointer (some ⟨w1.heap.size, 0, none⟩)]] 80) := ⟨_, rfl⟩
        have HW : Hid (W = w2.alloc (.cells #[.func (.func 107) #[] #[.pointer (some ⟨w.heap.size + 1, 0, none⟩), .pointer (some ⟨w1.heap.size, 0, none⟩)]] 80)) := hW
        have m0 : w.heap.size < w2.heap.size := by omega
        have m1 : w.heap.size + 1 < w2.heap.size := by omega
        have m2 : w1.heap.size < w2.heap.size := by omega
        have HBW : Hid (Below w.heap.size w W) := by rw [hW]; exact HB2.out.alloc HB2.out.size _
        have k0 : W.cell? ⟨w.heap.size, 0, none⟩ = some (.slice a1 s.length c1) := by rw [hW]; exact (World.cell?_alloc_past _ _ _ m0).trans e0
        have k1 : W.cell? ⟨w.heap.size + 1, 0, none⟩ = some (.slice (some ⟨b, off, none⟩) c.length c2) := by rw [hW]; exact (World.cell?_alloc_past _ _ _ m1).trans e1
        have k2 : W.cell? ⟨w1.heap.size, 0, none⟩ = some (.int .i64 (j : Int)) := by rw [hW]; exact (World.cell?_alloc_past _ _ _ m2).trans e2
        have k3 : W.cell? ⟨w2.heap.size, 0, none⟩ = some (.func (.func 107) #[] #[.pointer (some ⟨w.heap.size + 1, 0, none⟩), .pointer (some ⟨w1.heap.size, 0, none⟩)]) := by rw [hW]; simp
        have hsW : W.heap.size = w2.heap.size + 1 := by rw [hW]; simp
        have HSW : Hid (W.heap.size = w2.heap.size + 1) := hsW
        have n0 : w.heap.size < W.heap.size := by omega
        have n1 : w.heap.size + 1 < W.heap.size := by omega
        have n2 : w1.heap.size < W.heap.size := by omega
        have n3 : w2.heap.size < W.heap.size := by omega
        obtain ⟨a1', c1', hva, _, hrc⟩ := HVA.out _ HBW.out
        obtain ⟨b9, off9, x, hax, hb9, g9, hix⟩ := hrc j r HRR.out
        have ha1 : a1 = some ⟨b9, off9, none⟩ := by cases hva; exact hax
        subst ha1
        have HIX : Hid (∀ w' : World, Below W.heap.size W w' → IArg w' x r) := fun w' h => IArg.below h hix
        obtain ⟨a5, c5, rfl, _, _⟩ := hix
        have HGO : Hid (∀ Y : World, Below W.heap.size W Y → Calls Tryz.prog 51 #[.slice a5 r.length c5, .func (.func 107) #[] #[.pointer (some ⟨w.heap.size + 1, 0, none⟩), .pointer (some ⟨w1.heap.size, 0, none⟩)]] Y fun e w' => e = .returned (.bool (r.any fun z => !oneB c j z)) ∧ Below Y.heap.size Y w') := by
          intro Y hY
          refine containsf_ints 107 _ (fun z => !oneB c j z) r _ _ (HIX.out _ hY) ⟨enters_goes, ?_⟩
          intro z w' hb'
          have hB' : Below W.heap.size W w' := hY.trans (hb'.mono hY.size)
          exact goes_any c j z _ (w.heap.size + 1) w1.heap.size w' (HUA.out _ (HBW.out.trans (hB'.mono HBW.out.size))) ((hB'.cell (p := ⟨w.heap.size + 1, 0, none⟩) n1).trans k1) ((hB'.cell (p := ⟨w1.heap.size, 0, none⟩) n2).trans k2)
        obtain ⟨G, hG⟩ : ∃ G, (r.any fun z => !oneB c j z) = G := ⟨_, rfl⟩
        have HG : Hid ((r.any fun z => !oneB c j z) = G) := hG
        rw [hG] at HGO
        clear hW hsW hva hrc hax hG e0 e1 e2 HSW
        go_wp2_with fail
        rw [← HW.out]
        clear HW
        go_region_held3 (fun w' => Below W.heap.size W w' ∧ w'.cell? ⟨w.heap.size, 0, none⟩ = some (.slice (some ⟨b9, off9, none⟩) s.length c1) ∧ w'.cell? ⟨w1.heap.size, 0, none⟩ = some (.int .i64 (j : Int)) ∧ w'.cell? ⟨w2.heap.size, 0, none⟩ = some (.func (.func 107) #[] #[.pointer (some ⟨w.heap.size + 1, 0, none⟩), .pointer (some ⟨w1.heap.size, 0, none⟩)]) ∧ w'.cell? ⟨b9, off9 + j, none⟩ = some (.slice a5 r.length c5))
          ((refine (fun (hB : Below W.heap.size W _) => ⟨hB, (hB.cell (p := ⟨w.heap.size, 0, none⟩) n0).trans k0, (hB.cell (p := ⟨w1.heap.size, 0, none⟩) n2).trans k2, (hB.cell (p := ⟨w2.heap.size, 0, none⟩) n3).trans k3, (hB.cell (p := ⟨b9, off9 + j, none⟩) hb9).trans g9⟩ : Below W.heap.size W _ → _) ?_; first | exact (Below.refl _ _).drew | exact held_call (by assumption) hbq))
          (first
            | (go_at_call 51; refine (HGO.out _ (show Below W.heap.size W _ ∧ _ ∧ _ ∧ _ ∧ _ by assumption).1).mono ?_; rintro e w3 ⟨rfl, hbq⟩; have hB3 := held_call (by assumption) hbq))
        have HB3 : Hid (Below W.heap.size W w3) := by first | exact hB3 | assumption
        have HB4 : Hid (Below w.heap.size w w3) := HBW.out.trans (HB3.out.mono HBW.out.size)
        have p0 := (HB3.out.cell (p := ⟨w.heap.size, 0, none⟩) n0).trans k0
        cases G
        · have HU : Hid (unitS s c = s) := unit_stays s c HF.out t HM.out HLV.out HO.out j r HJ.out HRR.out HG.out
          go_wp2
          go_ret
          rw [HU.out]
          exact ⟨_, rfl, HVA.out _ HB4.out, HB4.out⟩
        · have HU : Hid (unitS s c = siftS s (fun k z => decide ((k : Int) ≠ (j : Int)) || oneB c k z)) := by show _ = _; rw [unit_one s c HF.out t HM.out HLV.out HO.out, HJ.out]
          go_wp2_with fail
          refine (sift_any 108 _ s (fun k z => decide ((k : Int) ≠ (j : Int)) || oneB c k z) _ _ (HVA.out _ HB4.out) ⟨enters_left, ?_⟩ hn HR6.out).mono ?_
          · intro k q z w' hk _ hb'
            have hB' : Below W.heap.size W w' := HB3.out.trans (hb'.mono HB3.out.size)
            exact left_any c j k z _ (w.heap.size + 1) w1.heap.size w2.heap.size w' (HUA.out _ (HBW.out.trans (hB'.mono HBW.out.size))) ((hB'.cell (p := ⟨w.heap.size + 1, 0, none⟩) n1).trans k1) ((hB'.cell (p := ⟨w1.heap.size, 0, none⟩) n2).trans k2) ((hB'.cell (p := ⟨w2.heap.size, 0, none⟩) n3).trans k3)
          rintro e w4 ⟨x, rfl, hx, hb4⟩
          obtain ⟨M, hM⟩ : ∃ M, siftS s (fun k z => decide ((k : Int) ≠ (j : Int)) || oneB c k z) = M := ⟨_, rfl⟩
          have HM2 : Hid (unitS s c = M) := HU.out.trans hM
          rw [hM] at hx
          clear hM
          have HX : Hid (RArg w4 x M) := hx
          obtain ⟨ax, cx, rfl, _, _⟩ := hx
          have hB5 : Below w.heap.size w w4 := HB4.out.trans (hb4.mono HB4.out.size)
          clear hb4
          go_wp2
          go_ret
          rw [HM2.out]
          exact ⟨_, rfl, HX.out, hB5⟩
      · have HU : Hid (unitS s c = s) := unit_many s c HF.out t HM.out HLV.out HO.out
        go_wp2
        go_ret
        rw [HU.out]
        exact ⟨_, rfl, HVA.out _ HB2.out, HB2.out⟩
  · have HU : Hid (unitS s c = s) := by show _ = _; unfold unitS; rw [HF.out, if_pos rfl]
    go_wp2
    go_ret
    rw [HU.out]
    exact ⟨_, rfl, HVA.out _ (nb2 _ _ _), nb2 _ _ _⟩
end Go.Proofs.YtggkbhafbhhhhadGreat
/-
  WALK: package truth: Con.
-/
namespace Go.Proofs.YtggkbhafbhhhhadGreat
open Go.RowKit

theorem con_facts (n : Int) (c : MCon) (h : conE n c = 0) : (1 ≤ c.kind ∧ c.kind ≤ 10) ∧ manyB c = false ∧ formB c = true ∧ varsB c n = true ∧ constsB c = true ∧ litsE c.lits = 0 := by
  unfold conE at h
  split at h
  · rename_i hk
    cases h1 : manyB c
    · cases h2 : formB c
      · rw [h1, h2] at h; simp at h
      · cases h3 : varsB c n
        · rw [h1, h2, h3] at h; simp at h
        · cases h4 : constsB c
          · rw [h1, h2, h3, h4] at h; simp at h
          · rw [h1, h2, h3, h4] at h; simp at h
            exact ⟨hk, rfl, rfl, rfl, rfl, h⟩
    · rw [h1] at h; simp at h
  · cases h

theorem ownV_bound (vars vals : List Int) (h : ∀ x ∈ vals, -50 ≤ x ∧ x ≤ 50) (x : Int) (hx : x ∈ ownV vars vals) : -50 ≤ x ∧ x ≤ 50 := by
  obtain ⟨v, _, rfl⟩ := List.mem_map.1 hx
  unfold valAt
  rw [List.getD_eq_getElem?_getD]
  cases hq : vals[v.toNat]? with
  | none => simp
  | some y => exact h y (List.mem_of_getElem? hq)
theorem ownV_len (vars vals : List Int) : (ownV vars vals).length = vars.length := by simp [ownV]
theorem vars_in (c : MCon) (n : Int) (h : varsB c n = true) : (∀ x ∈ c.vars, 0 ≤ x ∧ x < n) ∧ ∀ l ∈ c.lits, 0 ≤ l.var ∧ l.var < n := by
  unfold varsB at h
  rw [Bool.and_eq_true, List.all_eq_true, List.all_eq_true] at h
  exact ⟨fun x hx => by simpa [isVarB] using h.1 x hx, fun l hl => by simpa [isVarB] using h.2 l hl⟩
theorem consts_in (c : MCon) (h : constsB c = true) : ∀ x ∈ c.consts, -1000 ≤ x ∧ x ≤ 1000 := by
  unfold constsB at h
  rw [Bool.and_eq_true, List.all_eq_true] at h
  exact fun x hx => by simpa [isConstB, inB] using h.1 x hx
theorem many_not (c : MCon) (h : manyB c = false) : c.vars.length ≤ 4 ∧ c.lits.length ≤ 4 ∧ c.consts.length ≤ 8 ∧ c.rows.length ≤ 20 := by
  unfold manyB at h
  simp at h
  omega

set_option maxHeartbeats 3200000 in
set_option maxRecDepth 100000 in
theorem holds_any (c : MCon) (vals : List Int) (vv vc vr vl v : Value) (w : World) (hk : KArg w vv vc vr vl c) (hv : IArg w v vals) (hc : conE vals.length c = 0) (hb : ∀ x ∈ vals, -50 ≤ x ∧ x ≤ 50) :
    Calls Tryz.prog 44 #[conV vv vc vr vl c, v] w fun e w' => e = .returned (.bool (holdsC c vals)) ∧ Below w.heap.size w w' := by
  obtain ⟨⟨hk1, hk10⟩, hmany, hform, hvars, hconsts, hlits⟩ := con_facts _ _ hc
  obtain ⟨hn4, hl4, hc8, _⟩ := many_not c hmany
  have HVI : Hid (∀ x ∈ c.vars, 0 ≤ x ∧ x < (vals.length : Int)) := (vars_in c _ hvars).1
  have HLI : Hid (∀ l ∈ c.lits, 0 ≤ l.var ∧ l.var < (vals.length : Int)) := (vars_in c _ hvars).2
  have HCI : Hid (∀ x ∈ c.consts, -1000 ≤ x ∧ x ≤ 1000) := consts_in c hconsts
  have HOB : Hid (∀ x ∈ ownV c.vars vals, -50 ≤ x ∧ x ≤ 50) := ownV_bound c.vars vals hb
  have HKA : Hid (∀ w' : World, Below w.heap.size w w' → KArg w' vv vc vr vl c) := fun w' h => KArg.below h hk
  have HVA : Hid (∀ w' : World, Below w.heap.size w w' → IArg w' v vals) := fun w' h => IArg.below h hv
  have HFO : Hid (formB c = true) := hform
  obtain ⟨⟨a1, c1, rfl, _, _⟩, ⟨a2, c2, rfl, hm2, _⟩, ⟨a3, c3, rfl, _, _⟩, ⟨a4, c4, rfl, hm4, _⟩⟩ := hk
  obtain ⟨a5, c5, rfl, _, _⟩ := hv
  unfold maxLen at hm2 hm4
  obtain ⟨hm21, hm2⟩ := hm2
  obtain ⟨hm41, hm4⟩ := hm4
  obtain ⟨R, hR⟩ : ∃ R, holdsC c vals = R := ⟨_, rfl⟩
  rw [hR]
  have HR : Hid (holdsC c vals = R) := hR
  unfold conV
  clear hR hc hb hmany hform hvars hconsts hlits
  go_enter Tryz.func44, Tryz.ntmps44
  go_wp2_with fail
  refine (values_of c.vars vals _ _ _ ?_ ?_ hn4 HVI.out).mono ?_
  · exact (HKA.out _ (below_alloc _ _)).1
  · exact HVA.out _ (below_alloc _ _)
  rintro e w1 ⟨x, rfl, hx, hb1⟩
  have d0 : w1.cell? ⟨w.heap.size, 0, none⟩ = some (.int .i64 c.kind) := (hb1.cell (by simp)).trans (by simp)
  have d2 : w1.cell? ⟨w.heap.size, 2, none⟩ = some (.slice a2 c.consts.length c2) := (hb1.cell (by simp)).trans (by simp)
  have d3 : w1.cell? ⟨w.heap.size, 3, none⟩ = some (.int .i64 c.n) := (hb1.cell (by simp)).trans (by simp)
  have d4 : w1.cell? ⟨w.heap.size, 4, none⟩ = some (.slice a3 c.rows.length c3) := (hb1.cell (by simp)).trans (by simp)
  have d5 : w1.cell? ⟨w.heap.size, 5, none⟩ = some (.slice a4 c.lits.length c4) := (hb1.cell (by simp)).trans (by simp)
  have hs1 : w.heap.size + 1 ≤ w1.heap.size := by simpa using hb1.size
  have HB1 : Hid (Below w.heap.size w w1) := (below_alloc _ _).trans (hb1.mono (by simp))
  have HX : Hid (∀ w' : World, Below w1.heap.size w1 w' → IArg w' x (ownV c.vars vals)) := fun w' h => IArg.below h hx
  obtain ⟨own, HOWN⟩ : ∃ own, Hid (ownV c.vars vals = own) := ⟨_, rfl⟩
  have HOL : Hid (own.length = c.vars.length) := by rw [← HOWN.out]; exact ownV_len _ _
  rw [HOWN.out] at HX HOB hx
  obtain ⟨a6, c6, rfl, hm6, h6⟩ := hx
  unfold maxLen at hm6
  obtain ⟨hm61, hm6⟩ := hm6
  have H6 : Hid (∀ (i : Nat) (z : Int), own[i]? = some z → ∃ b off, a6 = some ⟨b, off, none⟩ ∧ b < w1.heap.size ∧ w1.cell? ⟨b, off + i, none⟩ = some (.int .i64 z)) := h6
  clear hb1 h6
  have hl0 : w.heap.size < w1.heap.size := by omega
  have HB2 : Hid (Below w.heap.size w (w1.alloc (.cells #[.slice a6 own.length c6] 39))) := HB1.out.trans ((below_alloc _ _).mono (by omega))
  obtain ⟨kd, hkd⟩ : ∃ kd, c.kind = kd := ⟨_, rfl⟩
  have HKD : Hid (c.kind = kd) := hkd
  rw [hkd] at d0 hk1 hk10
  clear hkd hs1
  have HN : Hid (R = true ∨ R = false) := by cases R <;> simp [Hid]
  have hcases : kd = 1 ∨ kd = 2 ∨ kd = 3 ∨ kd = 4 ∨ kd = 5 ∨ kd = 6 ∨ kd = 7 ∨ kd = 8 ∨ kd = 9 ∨ kd = 10 := by omega
  clear hk1 hk10
  rcases hcases with rfl | rfl | rfl | rfl | rfl | rfl | rfl | rfl | rfl | rfl
  · -- kind 1
    have HL : Hid (c.consts.length = own.length) := by
      have h := HFO.out
      unfold formB at h
      rw [HKD.out] at h
      simp at h
      exact h.2.1.trans HOL.out.symm
    have HE : Hid (R = decide (sumV c.consts own ≤ c.n)) := by rw [← HR.out, ← HOWN.out]; unfold holdsC; rw [HKD.out]; rfl
    have HS : Hid (∀ n, Calls Tryz.prog 86 #[.slice a2 c.consts.length c2, .slice a6 own.length c6] ((w1.alloc (.cells #[.slice a6 own.length c6] 39)).drewN n) fun e w' => e = .returned (.int .i64 (sumV c.consts own)) ∧ ∃ k, w' = (w1.alloc (.cells #[.slice a6 own.length c6] 39)).drewN k) := by
      intro n
      refine (sum_any c.consts own _ _ _ ((HKA.out _ (below_drewN HB2.out n)).2.1) (HX.out _ (below_drewN (below_alloc _ _) n)) HL.out hc8 HCI.out HOB.out).mono ?_
      rintro e w' ⟨rfl, rfl⟩
      exact ⟨rfl, n, rfl⟩
    go_wp2
    go_quiet ((go_at_call 86; exact HS.out _))
    go_wp2
    go_ret
    exact ⟨ret_bool HE.out.symm, below_drewN HB2.out _⟩
  · -- kind 2
    have HL : Hid (c.consts.length = own.length) := by
      have h := HFO.out
      unfold formB at h
      rw [HKD.out] at h
      simp at h
      exact h.2.1.trans HOL.out.symm
    have HE : Hid (R = (sumV c.consts own == c.n)) := by rw [← HR.out, ← HOWN.out]; unfold holdsC; rw [HKD.out]; rfl
    have HS : Hid (∀ n, Calls Tryz.prog 86 #[.slice a2 c.consts.length c2, .slice a6 own.length c6] ((w1.alloc (.cells #[.slice a6 own.length c6] 39)).drewN n) fun e w' => e = .returned (.int .i64 (sumV c.consts own)) ∧ ∃ k, w' = (w1.alloc (.cells #[.slice a6 own.length c6] 39)).drewN k) := by
      intro n
      refine (sum_any c.consts own _ _ _ ((HKA.out _ (below_drewN HB2.out n)).2.1) (HX.out _ (below_drewN (below_alloc _ _) n)) HL.out hc8 HCI.out HOB.out).mono ?_
      rintro e w' ⟨rfl, rfl⟩
      exact ⟨rfl, n, rfl⟩
    go_wp2
    go_quiet ((go_at_call 86; exact HS.out _))
    go_wp2
    go_ret
    exact ⟨ret_bool HE.out.symm, below_drewN HB2.out _⟩
  · -- kind 3
    have HL : Hid (c.consts.length = own.length) := by
      have h := HFO.out
      unfold formB at h
      rw [HKD.out] at h
      simp at h
      exact h.2.1.trans HOL.out.symm
    have HE : Hid (R = (sumV c.consts own != c.n)) := by rw [← HR.out, ← HOWN.out]; unfold holdsC; rw [HKD.out]; rfl
    have HS : Hid (∀ n, Calls Tryz.prog 86 #[.slice a2 c.consts.length c2, .slice a6 own.length c6] ((w1.alloc (.cells #[.slice a6 own.length c6] 39)).drewN n) fun e w' => e = .returned (.int .i64 (sumV c.consts own)) ∧ ∃ k, w' = (w1.alloc (.cells #[.slice a6 own.length c6] 39)).drewN k) := by
      intro n
      refine (sum_any c.consts own _ _ _ ((HKA.out _ (below_drewN HB2.out n)).2.1) (HX.out _ (below_drewN (below_alloc _ _) n)) HL.out hc8 HCI.out HOB.out).mono ?_
      rintro e w' ⟨rfl, rfl⟩
      exact ⟨rfl, n, rfl⟩
    go_wp2
    go_quiet ((go_at_call 86; exact HS.out _))
    go_wp2
    go_ret
    exact ⟨ret_bool HE.out.symm, below_drewN HB2.out _⟩
  · -- kind 4
    have HE : Hid (R = decide own.Nodup) := by rw [← HR.out, ← HOWN.out]; unfold holdsC; rw [HKD.out]; rfl
    have ho4 : own.length ≤ 4 := by have := HOL.out; omega
    go_wp2_with fail
    refine (differ_any own _ _ (HX.out _ (below_alloc _ _)) ho4 HOB.out).mono ?_
    rintro e w3 ⟨rfl, hb3⟩
    have hb4 : Below w.heap.size w w3 := HB2.out.trans (hb3.mono (by simp; omega))
    clear hb3
    go_wp2
    go_ret
    exact ⟨ret_bool HE.out.symm, hb4⟩
  · -- kind 5
    have HL : Hid (own.length = 2) := by
      have h := HFO.out
      unfold formB at h
      rw [HKD.out] at h
      simp at h
      exact HOL.out.trans h.2.1
    obtain ⟨p, q, rfl⟩ : ∃ p q, own = [p, q] := by
      match own, HL.out with
      | [p, q], _ => exact ⟨p, q, rfl⟩
    obtain ⟨b, off, rfl, hb, e0⟩ := H6.out 0 p rfl
    obtain ⟨b', off', hab, hb', e1⟩ := H6.out 1 q rfl
    cases hab
    rw [Nat.add_zero] at e0
    have HE : Hid (R = (decide (0 ≤ p) && (decide (p < c.consts.length) && (c.consts.getD p.toNat 0 == q)))) := by rw [← HR.out]; unfold holdsC; rw [HKD.out, HOWN.out]; rfl
    by_cases q1 : 0 ≤ p
    · obtain ⟨j, rfl⟩ : ∃ j : Nat, p = (j : Int) := ⟨p.toNat, by omega⟩
      by_cases q2 : j < c.consts.length
      · obtain ⟨y, hy⟩ : ∃ y, c.consts[j]? = some y := ⟨c.consts[j], by simp [q2]⟩
        obtain ⟨a2', c2', hva, _, hrc⟩ := (HKA.out _ HB1.out).2.1
        obtain ⟨b2, off2, hax, hb2, e2⟩ := hrc j y hy
        have ha2 : a2 = some ⟨b2, off2, none⟩ := by cases hva; exact hax
        subst ha2
        have HE2 : Hid (R = (y == q)) := by
          show _ = _
          rw [HE.out, decide_eq_true q1, decide_eq_true (show (j : Int) < c.consts.length by omega), Int.toNat_natCast, List.getD_eq_getElem?_getD, hy]; rfl
        have q2' : (j : Int) < (c.consts.length : Int) := by omega
        clear hy hva hrc hax
        go_wp2
        go_quiet (fail)
        go_wp2
        go_ret
        exact ⟨ret_bool HE2.out.symm, below_drewN HB2.out _⟩
      · have HE2 : Hid (R = false) := by
          show _ = _
          rw [HE.out, decide_eq_true q1, decide_eq_false (show ¬ (j : Int) < c.consts.length by omega)]; rfl
        have q3 : decide (j < c.consts.length) = false := decide_eq_false q2
        have q4 : decide ((j : Int) < (c.consts.length : Int)) = false := decide_eq_false (by omega)
        clear q2
        go_wp2
        go_quiet (fail)
        go_wp2
        go_ret
        exact ⟨ret_bool HE2.out.symm, below_drewN HB2.out _⟩
    · have HE2 : Hid (R = false) := by
        show _ = _
        rw [HE.out, decide_eq_false q1]; rfl
      have q3 : decide (0 ≤ p) = false := decide_eq_false q1
      go_wp2
      go_quiet (fail)
      go_wp2
      go_ret
      exact ⟨ret_bool HE2.out.symm, below_drewN HB2.out _⟩
  · -- kind 6
    have HE : Hid (R = c.rows.any fun r => decide (r = own)) := by rw [← HR.out, ← HOWN.out]; unfold holdsC; rw [HKD.out]; rfl
    go_wp2_with fail
    refine (containsf_rows 89 _ (fun r => decide (r = own)) c.rows _ _ ((HKA.out _ HB2.out).2.2.1) ⟨enters_row, ?_⟩).mono ?_
    · intro r x w' hb' hx'
      exact row_same own r _ x w1.heap.size w' (HX.out _ ((below_alloc _ _).trans (hb'.mono (by simp)))) hx' ((hb'.cell (by simp)).trans (by simp))
    rintro e w3 ⟨rfl, hb3⟩
    have hb4 : Below w.heap.size w w3 := HB2.out.trans (hb3.mono (by simp; omega))
    clear hb3
    go_wp2
    go_ret
    exact ⟨ret_bool HE.out.symm, hb4⟩
  · -- kind 7
    have HL : Hid (own.length = 3) := by
      have h := HFO.out
      unfold formB at h
      rw [HKD.out] at h
      simp at h
      exact HOL.out.trans h.2.1
    obtain ⟨p, q, r, rfl⟩ : ∃ p q r, own = [p, q, r] := by
      match own, HL.out with
      | [p, q, r], _ => exact ⟨p, q, r, rfl⟩
    obtain ⟨b, off, rfl, hb, e0⟩ := H6.out 0 p rfl
    obtain ⟨b', off', hab, hb', e1⟩ := H6.out 1 q rfl
    cases hab
    obtain ⟨b', off', hab, hb', e2⟩ := H6.out 2 r rfl
    cases hab
    rw [Nat.add_zero] at e0
    have HE : Hid (R = (p * q == r)) := by rw [← HR.out]; unfold holdsC; rw [HKD.out, HOWN.out]; rfl
    obtain ⟨g1, g2⟩ := mul_bound p q (by have := HOB.out p (by simp); omega) (by have := HOB.out p (by simp); omega) (HOB.out q (by simp)).1 (HOB.out q (by simp)).2
    go_wp2
    go_quiet (fail)
    go_wp2
    go_ret
    exact ⟨ret_bool HE.out.symm, below_drewN HB2.out _⟩
  · -- kind 8
    have HL : Hid (2 ≤ own.length) := by
      have h := HFO.out
      unfold formB at h
      rw [HKD.out] at h
      simp at h
      have := HOL.out
      show 2 ≤ _
      omega
    obtain ⟨p, q, r, rfl⟩ : ∃ p q r, own = p :: q :: r := by
      match own, HL.out with
      | p :: q :: r, _ => exact ⟨p, q, r, rfl⟩
    obtain ⟨b, off, rfl, hb, e0⟩ := H6.out 0 p rfl
    rw [Nat.add_zero] at e0
    have HE : Hid (R = (p == r.foldl max q)) := by rw [← HR.out]; unfold holdsC; rw [HKD.out, HOWN.out]; rfl
    obtain ⟨n, hn⟩ : ∃ n, (p :: q :: r).length = n := ⟨_, rfl⟩
    have hn2 : 2 ≤ n := by rw [← hn]; simp
    have HT : Hid (IArg w1 (.slice (some ⟨b, off + 1, none⟩) (n - 1) (c6 - 1)) (q :: r)) := by
      refine ⟨_, _, by rw [← hn]; rfl, ⟨by rw [← hn] at *; simp at *; omega, by unfold maxLen; omega⟩, fun i z hz => ?_⟩
      obtain ⟨b', off', hab, hb', e1⟩ := H6.out (i + 1) z (by simpa using hz)
      cases hab
      exact ⟨b, off + 1, rfl, hb, by rw [Nat.add_assoc, Nat.add_comm 1 i]; exact e1⟩
    rw [hn] at hm61 HB2 ⊢
    clear hn
    go_wp2
    go_quiet ((go_at_call 91; exact (max_any q r _ _ (IArg.below (below_drewN (below_alloc _ _) _) HT.out)).mono (fun _ _ h => ⟨h.1, _, h.2⟩)))
    go_wp2
    go_ret
    exact ⟨ret_bool HE.out.symm, below_drewN HB2.out _⟩
  · -- kind 9
    have HE : Hid (R = c.lits.any (litB vals)) := by rw [← HR.out]; unfold holdsC; rw [HKD.out]; rfl
    go_wp2_with fail
    refine (clause_true c.lits vals _ _ _ ((HKA.out _ HB2.out).2.2.2) (HVA.out _ HB2.out) HLI.out).mono ?_
    rintro e w3 ⟨rfl, hb3⟩
    have hb4 : Below w.heap.size w w3 := HB2.out.trans (hb3.mono (by simp; omega))
    clear hb3
    go_wp2
    go_ret
    exact ⟨ret_bool HE.out.symm, hb4⟩
  · -- kind 10
    have HFF : Hid (own.length = 1 ∧ c.lits.length = 1) := by
      have h := HFO.out
      unfold formB at h
      rw [HKD.out] at h
      simp at h
      exact ⟨HOL.out.trans h.2.1, h.2.2.1⟩
    obtain ⟨p, rfl⟩ : ∃ p, own = [p] := by
      match own, HFF.out.1 with
      | [p], _ => exact ⟨p, rfl⟩
    obtain ⟨l, hl⟩ : ∃ l, c.lits = [l] := by
      match c.lits, HFF.out.2 with
      | [l], _ => exact ⟨l, rfl⟩
    obtain ⟨b, off, rfl, hb, e0⟩ := H6.out 0 p rfl
    rw [Nat.add_zero] at e0
    have HE : Hid (R = (p == (if litB vals l then 1 else 0))) := by rw [← HR.out]; unfold holdsC; rw [HKD.out, HOWN.out, hl]; rfl
    obtain ⟨a2', c2', hva, _, hrc⟩ := (HKA.out _ HB1.out).2.2.2
    obtain ⟨b2, off2, hax, hb2, g0, g1, g2⟩ := hrc 0 l (by rw [hl]; rfl)
    have ha2 : a4 = some ⟨b2, off2, none⟩ := by cases hva; exact hax
    subst ha2
    simp only [Nat.zero_mul, Nat.add_zero] at g0 g1 g2
    have HLL := HLI.out l (by rw [hl]; simp)
    have hlen : c.lits.length = 1 := by rw [hl]; rfl
    obtain ⟨j, hj⟩ : ∃ j : Nat, l.var = (j : Int) := ⟨l.var.toNat, by omega⟩
    have hjl : j < vals.length := by omega
    obtain ⟨y, hy⟩ : ∃ y, vals[j]? = some y := ⟨vals[j], by simp [hjl]⟩
    obtain ⟨a7, c7, hva7, hm7, hrc7⟩ := HVA.out _ HB1.out
    obtain ⟨b7, off7, hax7, hb7, g7⟩ := hrc7 j y hy
    have ha5 : a5 = some ⟨b7, off7, none⟩ := by cases hva7; exact hax7
    have hm75 : vals.length ≤ c5 ∧ c5 ≤ maxLen := by cases hva7; exact hm7
    unfold maxLen at hm75
    obtain ⟨hm71, hm72⟩ := hm75
    subst ha5
    obtain ⟨B, HB⟩ : ∃ B : Bool, Hid (litB vals l = B) := ⟨_, rfl⟩
    rw [HB.out] at HE
    have HBV : Hid (litV y l = B) := by
      have h := HB.out
      unfold litB at h
      rwa [hj, valAt_get vals j y hy] at h
    obtain ⟨N, hN⟩ : ∃ N : Int, (if B then (1 : Int) else 0) = N := ⟨_, rfl⟩
    have HOI : Hid (∀ W' : World, Calls Tryz.prog 92 #[.bool B] W' fun e w' => e = .returned (.int .i64 N) ∧ w' = W') := by
      intro W'; rw [← hN]; exact oneif_any B W'
    rw [hN] at HE
    clear hN
    obtain ⟨W, hW⟩ : ∃ W : World, W = w1.alloc (.cells #[.slice (some ⟨b, off, none⟩) 1 c6] 39) := ⟨_, rfl⟩
    have HW : Hid (W = w1.alloc (.cells #[.slice (some ⟨b, off, none⟩) 1 c6] 39)) := hW
    have HB2W : Hid (Below w.heap.size w W) := by rw [hW]; exact HB2.out
    have HCL : Hid (∀ wq : World, Below W.heap.size W wq → Calls Tryz.prog 93 #[.agg #[.int .i64 (j : Int), .int .i64 l.op, .int .i64 l.n], .int .i64 y] wq fun e w' => e = .returned (.bool B) ∧ Below W.heap.size W w') := by
      intro wq hq
      rw [← hj]
      refine (lit_true l y wq).mono ?_
      rintro e w' ⟨rfl, hb⟩
      exact ⟨by rw [HBV.out], hq.trans (hb.mono hq.size)⟩
    have k0 : W.cell? ⟨w1.heap.size, 0, none⟩ = some (.slice (some ⟨b, off, none⟩) 1 c6) := by rw [hW]; simp
    have k1 : W.cell? ⟨b, off, none⟩ = some (.int .i64 p) := by rw [hW]; exact (World.cell?_alloc_past _ _ _ hb).trans e0
    have k2 : W.cell? ⟨w.heap.size, 5, none⟩ = some (.slice (some ⟨b2, off2, none⟩) 1 c4) := by rw [hW, ← hlen]; exact (World.cell?_alloc_past _ _ _ hl0).trans d5
    have k3 : W.cell? ⟨b2, off2, none⟩ = some (.int .i64 (j : Int)) := by rw [hW, ← hj]; exact (World.cell?_alloc_past _ _ _ hb2).trans g0
    have k4 : W.cell? ⟨b2, off2 + 1, none⟩ = some (.int .i64 l.op) := by rw [hW]; exact (World.cell?_alloc_past _ _ _ hb2).trans g1
    have k5 : W.cell? ⟨b2, off2 + 2, none⟩ = some (.int .i64 l.n) := by rw [hW]; exact (World.cell?_alloc_past _ _ _ hb2).trans g2
    have k7 : W.cell? ⟨b7, off7 + j, none⟩ = some (.int .i64 y) := by rw [hW]; exact (World.cell?_alloc_past _ _ _ hb7).trans g7
    have hsW : W.heap.size = w1.heap.size + 1 := by rw [hW]; simp
    have HSW : Hid (W.heap.size = w1.heap.size + 1) := hsW
    clear hW hsW hva hrc hax hl hva7 hrc7 hax7 hm7 hy hj
    go_wp2
    rw [← HW.out]
    clear d0 d2 d3 d4 d5 e0 g0 g1 g2 g7 H6 HX HKA HVA HVI HLI HCI HOB HFO HFF HOL HOWN HLL HR HKD HB1 hm21 hm41 hm2 hm4 hm61 hm6
    refine region_below (by kernel_rfl) (by kernel_rfl) ?_
    go_big_quiet_want
    refine ⟨.slice (some ⟨b, off, none⟩) 1 c6, fun wq hq => ?_, ?_⟩
    · have h0 := (hq.cell (p := ⟨w1.heap.size, 0, none⟩) (by have := HSW.out; simp only; omega)).trans k0
      simp [Oper.quietAt, go_sem, h0]
    go_simp
    go_big_quiet_on
    go_big_quiet_want
    go_big_quiet_op
    first | go_big_quiet_on | (refine ⟨_, fun _ _ => rfl, ?_⟩; go_big_quiet_on)
    go_big_quiet_want
    refine ⟨.int .i64 p, fun wq hq => ?_, ?_⟩
    · have h0 := (hq.cell (p := ⟨b, off, none⟩) (by have := HSW.out; simp only; omega)).trans k1
      simp [Oper.quietAt, go_sem, h0]
    go_simp
    go_big_quiet_on
    go_big_quiet_want
    go_big_quiet_op
    first | go_big_quiet_on | (refine ⟨_, fun _ _ => rfl, ?_⟩; go_big_quiet_on)
    go_big_quiet_want
    refine ⟨.slice (some ⟨b2, off2, none⟩) 1 c4, fun wq hq => ?_, ?_⟩
    · have h0 := (hq.cell (p := ⟨w.heap.size, 5, none⟩) (by have := HSW.out; simp only; omega)).trans k2
      simp [Oper.quietAt, go_sem, h0]
    go_simp
    go_big_quiet_on
    go_big_quiet_want
    go_big_quiet_op
    first | go_big_quiet_on | (refine ⟨_, fun _ _ => rfl, ?_⟩; go_big_quiet_on)
    go_big_quiet_want
    refine ⟨.agg #[.int .i64 (j : Int), .int .i64 l.op, .int .i64 l.n], fun wq hq => ?_, ?_⟩
    · have h0 := (hq.cell (p := ⟨b2, off2, none⟩) (by have := HSW.out; simp only; omega)).trans k3
      have h1 := (hq.cell (p := ⟨b2, off2 + 1, none⟩) (by have := HSW.out; simp only; omega)).trans k4
      have h2 := (hq.cell (p := ⟨b2, off2 + 2, none⟩) (by have := HSW.out; simp only; omega)).trans k5
      simp [Oper.quietAt, go_sem, h0, h1, h2]
    go_simp
    go_big_quiet_on
    go_big_quiet_want
    go_big_quiet_op
    first | go_big_quiet_on | (refine ⟨_, fun _ _ => rfl, ?_⟩; go_big_quiet_on)
    go_big_quiet_want
    go_big_quiet_op
    first | go_big_quiet_on | (refine ⟨_, fun _ _ => rfl, ?_⟩; go_big_quiet_on)
    go_big_quiet_want
    refine ⟨.slice (some ⟨b2, off2, none⟩) 1 c4, fun wq hq => ?_, ?_⟩
    · have h0 := (hq.cell (p := ⟨w.heap.size, 5, none⟩) (by have := HSW.out; simp only; omega)).trans k2
      simp [Oper.quietAt, go_sem, h0]
    go_simp
    go_big_quiet_on
    go_big_quiet_want
    go_big_quiet_op
    first | go_big_quiet_on | (refine ⟨_, fun _ _ => rfl, ?_⟩; go_big_quiet_on)
    go_big_quiet_want
    go_big_quiet_op
    first | go_big_quiet_on | (refine ⟨_, fun _ _ => rfl, ?_⟩; go_big_quiet_on)
    go_big_quiet_want
    refine ⟨.int .i64 (j : Int), fun wq hq => ?_, ?_⟩
    · have h0 := (hq.cell (p := ⟨b2, off2, none⟩) (by have := HSW.out; simp only; omega)).trans k3
      simp [Oper.quietAt, go_sem, h0]
    go_simp
    go_big_quiet_on
    go_big_quiet_want
    go_big_quiet_op
    first | go_big_quiet_on | (refine ⟨_, fun _ _ => rfl, ?_⟩; go_big_quiet_on)
    go_big_quiet_want
    refine ⟨.int .i64 y, fun wq hq => ?_, ?_⟩
    · have h0 := (hq.cell (p := ⟨b7, off7 + j, none⟩) (by have := HSW.out; simp only; omega)).trans k7
      simp [Oper.quietAt, go_sem, h0]
    go_simp
    go_big_quiet_on
    go_big_quiet_want
    refine ⟨.bool B, fun wq hq => ?_, ?_⟩
    · simp [Oper.quietAt, go_sem]
      exact HCL.out wq hq
    go_simp
    go_big_quiet_on
    go_big_quiet_want
    refine ⟨.int .i64 N, fun wq hq => ?_, ?_⟩
    · simp [Oper.quietAt, go_sem]
      exact (HOI.out wq).mono (fun e w' h => ⟨h.1, by rw [h.2]; exact hq⟩)
    go_simp
    go_big_quiet_on
    go_big_quiet_want
    go_big_quiet_op
    first | go_big_quiet_on | (refine ⟨_, fun _ _ => rfl, ?_⟩; go_big_quiet_on)
    go_big_quiet_want
    go_big_quiet_op
    first | go_big_quiet_on | (refine ⟨_, fun _ _ => rfl, ?_⟩; go_big_quiet_on)
    refine wpQuiet_nil ?_
    intro w' hw'
    have hb4 : Below w.heap.size w w' := HB2W.out.trans (hw'.mono HB2W.out.size)
    clear hw'
    go_wp2
    go_ret
    exact ⟨ret_bool HE.out.symm, hb4⟩
end Go.Proofs.YtggkbhafbhhhhadGreat
/-
  WALKS: package model: checkWithCon, Holds, All.
-/
namespace Go.Proofs.YtggkbhafbhhhhadGreat
open Go.RowKit

def conCheck (m : Mod) (con : Int) : Int := if checkM m = 0 then (if con < 0 ∨ (m.cons.length : Int) ≤ con then 5 else 0) else checkM m
def noCon : MCon := ⟨0, [], [], 0, [], []⟩
def holdsA (m : Mod) (con : Int) (vals : List Int) : Bool × Int :=
  if conCheck m con = 0 then
    (if vals.length = m.vars.length then (if vals.all (fun x => inB x 50) then (holdsC (m.cons.getD con.toNat noCon) vals, 0) else (false, 3)) else (false, 1))
  else (false, conCheck m con)
def insideV (v : MVar) (x : Int) : Bool := !decide (x < v.lo) && !decide (v.hi < x)
def allA (m : Mod) (vals : List Int) : Bool × Int :=
  if checkM m = 0 then
    (if vals.length = m.vars.length then ((m.vars.zip vals).all (fun p => insideV p.1 p.2) && m.cons.all (fun c => holdsC c vals), 0) else (false, 1))
  else (false, checkM m)

set_option maxHeartbeats 800000 in
set_option maxRecDepth 100000 in
theorem check_con (m : Mod) (con : Int) (vs cs : Value) (w : World) (hm : MArg w vs cs m) :
    Calls Tryz.prog 73 #[modV vs cs m, .int .i64 con] w fun e w' => e = .returned (.int .i64 (conCheck m con)) ∧ Below w.heap.size w w' := by
  have HMA : Hid (∀ w' : World, Below w.heap.size w w' → MArg w' vs cs m) := fun w' h => MArg.below h hm
  obtain ⟨⟨a1, c1, rfl, _, _⟩, ⟨a2, c2, rfl, hl2, _⟩⟩ := hm
  unfold maxLen at hl2
  obtain ⟨hl21, hl2⟩ := hl2
  obtain ⟨R, hR⟩ : ∃ R, conCheck m con = R := ⟨_, rfl⟩
  rw [hR]
  obtain ⟨er, her⟩ : ∃ er, checkM m = er := ⟨_, rfl⟩
  have HER : Hid (checkM m = er) := her
  have HE : Hid (R = if er = 0 then (if con < 0 ∨ (m.cons.length : Int) ≤ con then 5 else 0) else er) := by rw [← hR, ← her]; rfl
  clear hR her
  unfold modV
  go_enter Tryz.func73, Tryz.ntmps73
  go_wp2_with fail
  refine (check_model m (.slice a1 m.vars.length c1) (.slice a2 m.cons.length c2) _ ?_).mono ?_
  · exact HMA.out _ (below_alloc _ _)
  rintro e w1 ⟨rfl, hb1⟩
  rw [HER.out]
  have d1 : w1.cell? ⟨w.heap.size, 1, none⟩ = some (.slice a2 m.cons.length c2) := (hb1.cell (by simp)).trans (by simp)
  have HB1 : Hid (Below w.heap.size w w1) := (below_alloc _ _).trans (hb1.mono (by simp))
  clear hb1
  by_cases he : er = 0
  · subst he
    by_cases q1 : con < 0
    · have HN : Hid (R = 5) := by rw [HE.out, if_pos rfl, if_pos (Or.inl q1)]; rfl
      go_wp2
      go_ret
      exact ⟨ret_int HN.out.symm, HB1.out⟩
    · by_cases q2 : (m.cons.length : Int) ≤ con
      · have HN : Hid (R = 5) := by rw [HE.out, if_pos rfl, if_pos (Or.inr q2)]; rfl
        go_wp2
        go_ret
        exact ⟨ret_int HN.out.symm, HB1.out⟩
      · have HN : Hid (R = 0) := by rw [HE.out, if_pos rfl, if_neg (by omega)]; rfl
        go_wp2
        go_ret
        exact ⟨ret_int HN.out.symm, HB1.out⟩
  · have HN : Hid (R = er) := by rw [HE.out, if_neg he]; rfl
    have he2 : (er != 0) = true := by simpa using he
    clear he
    go_wp2
    go_ret
    exact ⟨ret_int HN.out.symm, HB1.out⟩

theorem conCheck_ok (m : Mod) (con : Int) (h : conCheck m con = 0) : checkM m = 0 ∧ 0 ≤ con ∧ con < m.cons.length := by
  unfold conCheck at h
  split at h
  · rename_i h0
    split at h
    · cases h
    · exact ⟨h0, by omega, by omega⟩
  · contradiction

end Go.Proofs.YtggkbhafbhhhhadGreat
/-
  The library's contracts at this program, laid: one application each.
-/
namespace Go.Proofs
open Go.Shelf
def Tryz.lays189_ren : Go.Shelf.Ren := ⟨fun | 189 => 75 | 125 => 114 | 257 => 113 | 128 => 142 | 129 => 143 | 294 => 133 | 295 => 134 | 296 => 135 | 297 => 136 | 298 => 137 | 299 => 138 | 216 => 139 | 300 => 140 | 301 => 141 | 328 => 152 | 329 => 153 | 330 => 154 | 331 => 155 | 332 => 156 | 215 => 157 | 343 => 161 | n => n, fun | 28 => 39 | 3 => 3 | 46 => 132 | 0 => 0 | 51 => 154 | 53 => 156 | 4 => 4 | 183 => 147 | 182 => 146 | 131 => 151 | 5 => 5 | 9 => 9 | 218 => 165 | 222 => 169 | 228 => 174 | 229 => 142 | n => n, fun | n => n⟩
theorem Tryz.lays189 : Go.Proofs.Lays.n189 Tryz.prog Tryz.lays189_ren := {
  mixed := by kernel_rfl
  f125 := Tryz.func114.trans (congrArg some (by kernel_rfl))
  f128 := Tryz.func142.trans (congrArg some (by kernel_rfl))
  f129 := Tryz.func143.trans (congrArg some (by kernel_rfl))
  f189 := Tryz.func75.trans (congrArg some (by kernel_rfl))
  f215 := Tryz.func157.trans (congrArg some (by kernel_rfl))
  f216 := Tryz.func139.trans (congrArg some (by kernel_rfl))
  f257 := Tryz.func113.trans (congrArg some (by kernel_rfl))
  f294 := Tryz.func133.trans (congrArg some (by kernel_rfl))
  f295 := Tryz.func134.trans (congrArg some (by kernel_rfl))
  f296 := Tryz.func135.trans (congrArg some (by kernel_rfl))
  f297 := Tryz.func136.trans (congrArg some (by kernel_rfl))
  f298 := Tryz.func137.trans (congrArg some (by kernel_rfl))
  f299 := Tryz.func138.trans (congrArg some (by kernel_rfl))
  f300 := Tryz.func140.trans (congrArg some (by kernel_rfl))
  f301 := Tryz.func141.trans (congrArg some (by kernel_rfl))
  f328 := Tryz.func152.trans (congrArg some (by kernel_rfl))
  f329 := Tryz.func153.trans (congrArg some (by kernel_rfl))
  f330 := Tryz.func154.trans (congrArg some (by kernel_rfl))
  f331 := Tryz.func155.trans (congrArg some (by kernel_rfl))
  f332 := Tryz.func156.trans (congrArg some (by kernel_rfl))
  f343 := Tryz.func161.trans (congrArg some (by kernel_rfl))
  t0 := Tryz.underlying0
  a0 := Tryz.isAgg0
  z0 := Tryz.sizeOf0
  v0 := Tryz.zeroValue0
  t3 := Tryz.underlying3
  a3 := Tryz.isAgg3
  z3 := Tryz.sizeOf3
  v3 := Tryz.zeroValue3
  t4 := Tryz.underlying4
  a4 := Tryz.isAgg4
  z4 := Tryz.sizeOf4
  v4 := Tryz.zeroValue4
  t5 := Tryz.underlying5
  a5 := Tryz.isAgg5
  z5 := Tryz.sizeOf5
  v5 := Tryz.zeroValue5
  t9 := Tryz.underlying9
  a9 := Tryz.isAgg9
  z9 := Tryz.sizeOf9
  v9 := Tryz.zeroValue9
  t28 := Tryz.underlying39
  a28 := Tryz.isAgg39
  z28 := Tryz.sizeOf39
  v28 := Tryz.zeroValue39
  t46 := Tryz.underlying132
  a46 := Tryz.isAgg132
  z46 := Tryz.sizeOf132
  v46 := Tryz.zeroValue132
  t51 := Tryz.underlying154
  a51 := Tryz.isAgg154
  z51 := Tryz.sizeOf154
  v51 := Tryz.zeroValue154
  t53 := Tryz.underlying156
  a53 := Tryz.isAgg156
  z53 := Tryz.sizeOf156
  v53 := Tryz.zeroValue156
  t131 := Tryz.underlying151
  a131 := Tryz.isAgg151
  z131 := Tryz.sizeOf151
  v131 := Tryz.zeroValue151
  t182 := Tryz.underlying146
  a182 := Tryz.isAgg146
  z182 := Tryz.sizeOf146
  v182 := Tryz.zeroValue146
  t183 := Tryz.underlying147
  a183 := Tryz.isAgg147
  z183 := Tryz.sizeOf147
  v183 := Tryz.zeroValue147
  t218 := Tryz.underlying165
  a218 := Tryz.isAgg165
  z218 := Tryz.sizeOf165
  v218 := Tryz.zeroValue165
  t222 := Tryz.underlying169
  a222 := Tryz.isAgg169
  z222 := Tryz.sizeOf169
  v222 := Tryz.zeroValue169
  t228 := Tryz.underlying174
  a228 := Tryz.isAgg174
  z228 := Tryz.sizeOf174
  v228 := Tryz.zeroValue174
  t229 := Tryz.underlying142
  a229 := Tryz.isAgg142
  z229 := Tryz.sizeOf142
  v229 := Tryz.zeroValue142 }
open Go.Sort Go.RowKit in
theorem Tryz.slices_Sort_int (blk off cap : Nat) (zs : List Int) (w : World) (hH : Holds (Value.int .i64) w blk off zs.toArray) (hblk : blk < w.heap.size) (hsz : zs.length < 4611686018427387904) :
    Calls Tryz.prog 75 #[.slice (some ⟨blk, off, none⟩) zs.length cap] w fun e w' =>
      e = .returned (.tuple #[]) ∧ ∃ n os, w' = grow (putRow (Value.int .i64) (Sort.ahead w n) blk off (zs.mergeSort fun x y => decide (x ≤ y)).toArray) os := Any.slices_Sort_int Tryz.lays189 blk off cap zs w hH hblk hsz
def Tryz.laysNm220_ren : Go.Shelf.Ren := ⟨fun | 20 => 76 | n => n, fun | 22 => 39 | 3 => 3 | 4 => 4 | 0 => 0 | n => n, fun | n => n⟩
theorem Tryz.laysNm220 : Go.Proofs.Lays2.n20 Tryz.prog Tryz.laysNm220_ren := {
  mixed := by kernel_rfl
  f20 := Tryz.func76.trans (congrArg some (by kernel_rfl))
  t0 := Tryz.underlying0
  a0 := Tryz.isAgg0
  z0 := Tryz.sizeOf0
  v0 := Tryz.zeroValue0
  t3 := Tryz.underlying3
  a3 := Tryz.isAgg3
  z3 := Tryz.sizeOf3
  v3 := Tryz.zeroValue3
  t4 := Tryz.underlying4
  a4 := Tryz.isAgg4
  z4 := Tryz.sizeOf4
  v4 := Tryz.zeroValue4
  t22 := Tryz.underlying39
  a22 := Tryz.isAgg39
  z22 := Tryz.sizeOf39
  v22 := Tryz.zeroValue39
  i3 := by kernel_rfl }
open Go.RowKit Go.Lib Go.Sort in
theorem Tryz.slices_Compact_int_arr (blk off cap : Nat) (d : Array Int) (w : World) (hH : Holds encI w blk off d) (hsz : d.size ≤ 9223372036854775807) (hcap : d.size ≤ cap) :
    Calls Tryz.prog 76 #[.slice (some ⟨blk, off, none⟩) d.size cap] w fun e w' => e = .returned (.slice (some ⟨blk, off, none⟩) (compactUpTo d d.size).length cap) ∧ ∃ q, w' = putRow encI (Sort.ahead w q) blk off (compactUpTo d d.size ++ List.replicate (d.size - (compactUpTo d d.size).length) 0).toArray := Any.slices_Compact_int_arr Tryz.laysNm220 blk off cap d w hH hsz hcap
open Go.RowKit Go.Lib Go.Sort in
theorem Tryz.slices_Compact_int (blk off cap : Nat) (zs : List Int) (w : World) (hH : Holds (Value.int .i64) w blk off zs.toArray) (hsz : zs.length ≤ 9223372036854775807) (hcap : zs.length ≤ cap) :
    Calls Tryz.prog 76 #[.slice (some ⟨blk, off, none⟩) zs.length cap] w fun e w' => e = .returned (.slice (some ⟨blk, off, none⟩) (Lib.compact zs).length cap) ∧ ∃ q, w' = putRow (Value.int .i64) (Sort.ahead w q) blk off (Lib.compact zs ++ List.replicate (zs.length - (Lib.compact zs).length) 0).toArray := Any.slices_Compact_int Tryz.laysNm220 blk off cap zs w hH hsz hcap
open Go.RowKit Go.Lib Go.Sort in
theorem Tryz.slices_Compact_int_empty (a : Option Addr) (cap : Nat) (w : World) :
    Calls Tryz.prog 76 #[.slice a 0 cap] w fun e w' => e = .returned (.slice a 0 cap) ∧ w' = w := Any.slices_Compact_int_empty Tryz.laysNm220 a cap w
end Go.Proofs
/-
  slices.Sort and slices.Compact on numbers of one's own, in this proof's words.
-/
namespace Go.Proofs.YtggkbhafbhhhhadGreat
open Go.RowKit Go.Sort

theorem put_below (w : World) (n g B : Nat) (d : Array Int) (hB : B ≤ g) : Below B w (putRow (Value.int .i64) (Sort.ahead w n) g 0 d) := by
  refine ⟨rfl, rfl, rfl, by simp [putRow, mapBlock, Sort.ahead], fun k hk => ?_⟩
  show (Array.modify _ _ _)[k]? = _
  rw [Array.getElem?_modify, if_neg (by omega)]; rfl
theorem grow_below (w : World) (os : Array Obj) (B : Nat) (hB : B ≤ w.heap.size) : Below B w (grow w os) :=
  ⟨rfl, rfl, rfl, by simp, fun k hk => heap_grow_old w os (by omega)⟩
/-- A row of numbers that may be written: it lies at a block's head. -/
def IRow (w : World) (g : Nat) (zs : List Int) : Prop := Holds (Value.int .i64) w g 0 zs.toArray ∧ g < w.heap.size
theorem irow_own {w : World} {base g cap : Nat} {zs : List Int} (h : w.ownsRow base 3 1 (.slice (some ⟨g, 0, none⟩) zs.length cap) zs.length (zs.map (Value.int .i64))) : IRow w g zs := by
  refine ⟨fun j hj => ?_, (h.lt g rfl).2⟩
  have hj' : j < zs.length := by simpa using hj
  rw [Nat.zero_add]
  refine ⟨?_, h.frozenAt j⟩
  rw [h.cellAt j (by omega), List.getElem?_map]
  simp [hj']
theorem irow_arg {w : World} {g cap n : Nat} {zs : List Int} (h : IRow w g zs) (hn : n = zs.length) (hc : n ≤ cap) (hm : cap ≤ maxLen) : IArg w (.slice (some ⟨g, 0, none⟩) n cap) zs := by
  subst hn
  refine ⟨_, cap, rfl, ⟨hc, hm⟩, fun i z hz => ⟨g, 0, rfl, h.2, ?_⟩⟩
  have hi : i < zs.length := (List.getElem?_eq_some_iff.1 hz).1
  have hz' : zs[i] = z := by simpa [hi] using hz
  have := (h.1 i (by simpa using hi)).1
  rw [this]
  simp [hi, hz']

def sortI (zs : List Int) : List Int := zs.mergeSort fun x y => decide (x ≤ y)
theorem sortI_len (zs : List Int) : (sortI zs).length = zs.length := by simp [sortI]

theorem sort_any (zs : List Int) (g cap B : Nat) (w : World) (h : IRow w g zs) (hB : B ≤ g) (hn : zs.length ≤ 1000) :
    Calls Tryz.prog 75 #[.slice (some ⟨g, 0, none⟩) zs.length cap] w fun e w' => e = .returned (.tuple #[]) ∧ IRow w' g (sortI zs) ∧ Below B w w' := by
  refine (Tryz.slices_Sort_int g 0 cap zs w h.1 h.2 (by omega)).mono ?_
  rintro e w' ⟨rfl, n, os, rfl⟩
  have hp : Holds (Value.int .i64) (Sort.ahead w n) g 0 zs.toArray := h.1
  have hs : g < (putRow (Value.int .i64) (Sort.ahead w n) g 0 (sortI zs).toArray).heap.size := by
    have : (putRow (Value.int .i64) (Sort.ahead w n) g 0 (sortI zs).toArray).heap.size = w.heap.size := by simp [putRow, mapBlock, Sort.ahead]
    rw [this]; exact h.2
  have h2 := h.2
  refine ⟨rfl, ⟨holds_grow _ _ _ _ _ _ hs (holds_putRow _ _ _ _ _ _ hp (by simp)), by simp; omega⟩, (put_below w n g B _ hB).trans (grow_below _ _ _ (Nat.le_trans hB (Nat.le_of_lt hs)))⟩

def compI (zs : List Int) : List Int := Lib.compact zs
theorem holds_take {w : World} {g : Nat} (a b : List Int) (h : Holds (Value.int .i64) w g 0 (a ++ b).toArray) : Holds (Value.int .i64) w g 0 a.toArray := by
  intro j hj
  have hj' : j < a.length := by simpa using hj
  have := h j (by simp; omega)
  have e1 : (a ++ b).toArray[j]! = a.toArray[j]! := by
    simp [List.getElem?_append_left hj']
  rw [e1] at this
  exact this
theorem compI_len (zs : List Int) : (compI zs).length ≤ zs.length := by
  unfold compI Lib.compact Lib.compactUpTo
  rw [List.length_map]
  exact Nat.le_trans (List.length_filter_le _ _) (by simp)
theorem compact_any (zs : List Int) (g cap B : Nat) (w : World) (h : IRow w g zs) (hB : B ≤ g) (hn : zs.length ≤ 1000) (hc : zs.length ≤ cap) :
    Calls Tryz.prog 76 #[.slice (some ⟨g, 0, none⟩) zs.length cap] w fun e w' => e = .returned (.slice (some ⟨g, 0, none⟩) (compI zs).length cap) ∧ IRow w' g (compI zs) ∧ Below B w w' := by
  refine (Tryz.slices_Compact_int g 0 cap zs w h.1 (by omega) hc).mono ?_
  rintro e w' ⟨rfl, q, rfl⟩
  have hp : Holds (Value.int .i64) (Sort.ahead w q) g 0 zs.toArray := h.1
  refine ⟨rfl, ⟨?_, ?_⟩, put_below w q g B _ hB⟩
  · refine holds_take (compI zs) (List.replicate (zs.length - (compI zs).length) 0) ?_
    have hl := compI_len zs
    exact holds_putRow _ _ _ _ _ _ hp (by simp; unfold compI at *; omega)
  · have : (putRow (Value.int .i64) (Sort.ahead w q) g 0 (Lib.compact zs ++ List.replicate (zs.length - (Lib.compact zs).length) 0).toArray).heap.size = w.heap.size := by simp [putRow, mapBlock, Sort.ahead]
    rw [this]; exact h.2
end Go.Proofs.YtggkbhafbhhhhadGreat
/-
  WALK: package model: Scope.
-/
namespace Go.Proofs.YtggkbhafbhhhhadGreat
open Go.RowKit Go.Sort

def scopeL (c : MCon) : List Int := c.vars ++ c.lits.map (·.var)
def scopeC (c : MCon) : List Int := compI (sortI (scopeL c))
def scopeA (m : Mod) (con : Int) : List Int × Int := if conCheck m con = 0 then (scopeC (m.cons.getD con.toNat noCon), 0) else ([], conCheck m con)

/-- Numbers with room: made. -/
theorem make_room (n : Nat) (hn : n ≤ 1000) (w : World) : ∃ w', Sem.run Tryz.prog (Instr.makeSlice 39 (.int .i64 0) (.int .i64 (n : Int))) w = .ok (.slice (some ⟨w.heap.size, 0, none⟩) 0 n) w' ∧
    w'.ownsRow w.heap.size 3 1 (.slice (some ⟨w.heap.size, 0, none⟩) 0 n) 0 [] ∧ Below w.heap.size w w' := by
  obtain ⟨i0, hi, hz0, hz1, hz2⟩ := info_parts Tryz.infoInt0
  obtain ⟨w', hrun, hown, hg⟩ := run_makeSlice_owned w w.heap.size 39 3 i0 (.int .i64 0) 1 Tryz.underInts0 hi hz0 hz1 .i64 .i64 n (by omega) (by rw [hz2]; omega) (by unfold maxLen; omega) (Nat.le_refl _)
  exact ⟨w', hrun, hown, (Below.refl _ _).grown hg (Nat.le_refl _) (fun k h => by cases h)⟩
/-- Nothing is appended. -/
theorem append_nothing (w : World) (ty : TypeId) (base n c : Nat) (v : Value) (xs : List Value) (hown : w.ownsRow base 3 1 v n xs) :
    (Builtin.append_ #[39, 39] ty #[v, .slice none 0 c]).run Tryz.prog w = .ok v w := by
  obtain ⟨i0, hi, hz0, hz1, hz2⟩ := info_parts Tryz.infoInt0
  rcases hown.2 with ⟨rfl, rfl⟩ | ⟨g, cap, cur, rfl, _, _, hnc, _⟩
  · simp [Builtin.append_, run_underlying Tryz.underInts0, sizeOf, typeInfo, hi, Builtin.lenOf, Builtin.firstCells]
  · simp [Builtin.append_, run_underlying Tryz.underInts0, sizeOf, typeInfo, hi, Builtin.lenOf, Builtin.firstCells, hnc, storeCells]
theorem ints_one (l : List Int) : ∀ u ∈ l.map (Value.int .i64), u.oneCell' = true := by
  intro u hu
  obtain ⟨z, _, rfl⟩ := List.mem_map.1 hu
  rfl
theorem add_at (b off j : Nat) : (⟨b, off, none⟩ : Addr).add j = ⟨b, off + j, none⟩ := by unfold Addr.add; split <;> simp_all

/-- Numbers are appended, whatever list they lie in. -/
theorem wpList_append_ints {w : World} {ops : Array Oper} {rest : List Oper} {o : Oper} {a : Act} {Q : Exit → Act → World → Prop} (hgd : o.guard = none) (s x : Operand)
    (ho : o.op = .call { callee := .builtin .append, args := #[s, x], argTypes := #[39, 39] }) (base : Nat)
    (v : Value) (xs : List Int) (hs : a.eval s = v) (hown : w.ownsRow base 3 1 v xs.length (xs.map (Value.int .i64)))
    (u : Value) (l : List Int) (hx : a.eval x = u) (hl : IArg w u l) (hn : xs.length + l.length ≤ 1000) (hbase : base ≤ w.heap.size)
    (h : ∀ v' w', w'.ownsRow base 3 1 v' (xs ++ l).length ((xs ++ l).map (Value.int .i64)) → w.grownBy w' v.ownBlock → (v ≠ .slice none 0 0 → v' ≠ .slice none 0 0) → wpList Tryz.prog ops Q rest (a.put o.dst v') w') : wpList Tryz.prog ops Q (o :: rest) a w := by
  obtain ⟨i0, hi, hz0, hz1, hz2⟩ := info_parts Tryz.infoInt0
  obtain ⟨q, c, rfl, hm, hc⟩ := hl
  cases q with
  | none =>
    have hl0 : l = [] := by
      cases l with
      | nil => rfl
      | cons z r => obtain ⟨b, off, hq, _⟩ := hc 0 z rfl; cases hq
    subst hl0
    refine wpList_plain hgd fun K hK => ?_
    have hr := append_nothing w o.type base xs.length c v _ hown
    unfold Oper.wp execOp
    simp only [ho, resolve, invoke, builtin, Sem.run_bind, Sem.run_pure, Result.andThen_ok, List.map_toArray, List.map_cons, List.map_nil, hs, hx, List.length_nil, hr]
    exact hK _ _ (h v w (by rw [List.append_nil]; exact hown) ⟨rfl, rfl, rfl, Nat.le_refl _, fun _ _ _ => rfl⟩ (fun h => h))
  | some ad =>
    refine wpList_append_own w hgd s x 39 ho base 3 i0 (.int .i64 0) 1 8 Tryz.underInts0 hi hz0 hz1 hz2 rfl (by decide) v xs.length _ hs hown ad l.length c (l.map (Value.int .i64)) hx (by simp) ?_ (ints_one l) (by unfold maxLen; omega) (by omega) hbase ?_
    · intro j y hy
      rw [List.getElem?_map] at hy
      obtain ⟨z, hz, rfl⟩ := Option.map_eq_some_iff.1 hy
      obtain ⟨b, off, hq, _, hcell⟩ := hc j z hz
      cases hq
      rw [add_at]; exact hcell
    · intro v' w' h1 h2 h3
      refine h v' w' (by rw [List.length_append, List.map_append]; exact h1) h2 (fun hv hv' => hv (h3.1 hv').1)

def accL (c : MCon) (k : Nat) : List Int := c.vars ++ (c.lits.take k).map (·.var)
theorem accL_zero (c : MCon) : accL c 0 = c.vars := by simp [accL]
theorem accL_next (c : MCon) (k : Nat) (t : MLit) (h : c.lits[k]? = some t) : accL c (k + 1) = accL c k ++ [t.var] := by
  unfold accL; rw [List.take_add_one, h]; simp
theorem accL_len (c : MCon) (k : Nat) (h : k ≤ c.lits.length) : (accL c k).length = c.vars.length + k := by
  unfold accL; simp; omega
theorem accL_all (c : MCon) : accL c c.lits.length = scopeL c := by unfold accL scopeL; rw [List.take_length]
theorem own_shape {w : World} {base n : Nat} {v : Value} {xs : List Value} (h : w.ownsRow base 3 1 v n xs) : ∃ a cap, v = .slice a n cap := by
  rcases h.2 with ⟨rfl, rfl⟩ | ⟨g, cap, cur, rfl, _⟩
  · exact ⟨_, _, rfl⟩
  · exact ⟨_, _, rfl⟩
theorem own_there {w : World} {base n : Nat} {v : Value} {xs : List Value} (h : w.ownsRow base 3 1 v n xs) (hv : v ≠ .slice none 0 0) : ∃ g cap, v = .slice (some ⟨g, 0, none⟩) n cap ∧ base ≤ g ∧ n ≤ cap ∧ cap ≤ maxLen := by
  rcases h.2 with ⟨rfl, rfl⟩ | ⟨g, cap, cur, rfl, hg, _, hc, hm, _⟩
  · exact absurd rfl hv
  · exact ⟨g, cap, rfl, hg, hc, hm⟩
theorem one_arg (w : World) (o : Obj) (z : Int) : IArg ((w.alloc o).alloc (.cells #[.int .i64 z] 3)) (.slice (some ⟨w.heap.size + 1, 0, none⟩) 1 1) [z] := by
  refine ⟨_, 1, rfl, ⟨by simp, by unfold maxLen; omega⟩, fun i y hy => ?_⟩
  match i, hy with
  | 0, hy => cases hy; exact ⟨_, 0, rfl, by simp, World.cell?_alloc_at _ _ _ _ (by simp)⟩

set_option maxHeartbeats 1600000 in
set_option maxRecDepth 100000 in
theorem mscope_any (m : Mod) (con : Int) (vs cs : Value) (w : World) (hm : MArg w vs cs m) :
    Calls Tryz.prog 37 #[modV vs cs m, .int .i64 con] w fun e w' => ∃ x, e = .returned (.tuple #[x, .int .i64 (scopeA m con).2]) ∧ IArg w' x (scopeA m con).1 ∧ Below w.heap.size w w' := by
  have HMA : Hid (∀ w' : World, Below w.heap.size w w' → MArg w' vs cs m) := fun w' h => MArg.below h hm
  obtain ⟨⟨a1, c1, rfl, _, _⟩, ⟨a2, c2, rfl, hl2, hr2⟩⟩ := hm
  have HC : Hid (∀ (i : Nat) (t : MCon), m.cons[i]? = some t → ∃ b off vv vc vr vl, a2 = some ⟨b, off, none⟩ ∧ b < w.heap.size ∧
    w.cell? ⟨b, off + i * 6, none⟩ = some (.int .i64 t.kind) ∧ w.cell? ⟨b, off + i * 6 + 1, none⟩ = some vv ∧ w.cell? ⟨b, off + i * 6 + 2, none⟩ = some vc ∧
    w.cell? ⟨b, off + i * 6 + 3, none⟩ = some (.int .i64 t.n) ∧ w.cell? ⟨b, off + i * 6 + 4, none⟩ = some vr ∧ w.cell? ⟨b, off + i * 6 + 5, none⟩ = some vl ∧ KArg w vv vc vr vl t) := hr2
  unfold maxLen at hl2
  obtain ⟨hl21, hl2⟩ := hl2
  obtain ⟨R, hR⟩ : ∃ R, scopeA m con = R := ⟨_, rfl⟩
  rw [hR]
  obtain ⟨er, her⟩ : ∃ er, conCheck m con = er := ⟨_, rfl⟩
  have HER : Hid (conCheck m con = er) := her
  have HE : Hid (R = if er = 0 then (scopeC (m.cons.getD con.toNat noCon), 0) else ([], er)) := by rw [← hR, ← her]; rfl
  clear hR her hr2
  unfold modV
  go_enter Tryz.func37, Tryz.ntmps37
  go_wp2_with fail
  refine (check_con m con (.slice a1 m.vars.length c1) (.slice a2 m.cons.length c2) _ ?_).mono ?_
  · exact HMA.out _ (below_alloc _ _)
  rintro e w1 ⟨rfl, hb1⟩
  rw [HER.out]
  have d1 : w1.cell? ⟨w.heap.size, 1, none⟩ = some (.slice a2 m.cons.length c2) := (hb1.cell (by simp)).trans (by simp)
  have HB1 : Hid (Below w.heap.size w w1) := (below_alloc _ _).trans (hb1.mono (by simp))
  have hs1 : w.heap.size + 1 ≤ w1.heap.size := by simpa using hb1.size
  clear hb1
  by_cases he : er = 0
  · subst he
    obtain ⟨o1, o2, o3⟩ := conCheck_ok m con HER.out
    obtain ⟨j, rfl⟩ : ∃ j : Nat, con = (j : Int) := ⟨con.toNat, by omega⟩
    have hjl : j < m.cons.length := by omega
    obtain ⟨c, hc⟩ : ∃ c, m.cons[j]? = some c := ⟨m.cons[j], by simp [hjl]⟩
    have HN : Hid (R = (scopeC c, 0)) := by
      rw [HE.out, if_pos rfl, Int.toNat_natCast, List.getD_eq_getElem?_getD, hc]; rfl
    obtain ⟨hn4, hl4, _, _⟩ := many_not c (con_facts _ _ (con_ok m o1 j c hc)).2.1
    obtain ⟨b, off, vv, vc, vr, vl, ha, hb, f0, f1, f2, f3, f4, f5, hka⟩ := HC.out j c hc
    subst ha
    have e0 := (HB1.out.cell (p := ⟨b, off + j * 6, none⟩) hb).trans f0
    have e1 := (HB1.out.cell (p := ⟨b, off + j * 6 + 1, none⟩) hb).trans f1
    have e2 := (HB1.out.cell (p := ⟨b, off + j * 6 + 2, none⟩) hb).trans f2
    have e3 := (HB1.out.cell (p := ⟨b, off + j * 6 + 3, none⟩) hb).trans f3
    have e4 := (HB1.out.cell (p := ⟨b, off + j * 6 + 4, none⟩) hb).trans f4
    have e5 := (HB1.out.cell (p := ⟨b, off + j * 6 + 5, none⟩) hb).trans f5
    obtain ⟨⟨q1, r1, rfl, hmv, hq1⟩, ⟨q2, r2, rfl, _, _⟩, ⟨q3, r3, rfl, _, _⟩, ⟨q4, r4, rfl, hm4, hq4⟩⟩ := hka
    have HQ1 : Hid (∀ (i : Nat) (z : Int), c.vars[i]? = some z → ∃ b off, q1 = some ⟨b, off, none⟩ ∧ b < w.heap.size ∧ w.cell? ⟨b, off + i, none⟩ = some (.int .i64 z)) := hq1
    have HQ4 : Hid (∀ (i : Nat) (t : MLit), c.lits[i]? = some t → ∃ b off, q4 = some ⟨b, off, none⟩ ∧ b < w.heap.size ∧
      w.cell? ⟨b, off + i * 3, none⟩ = some (.int .i64 t.var) ∧ w.cell? ⟨b, off + i * 3 + 1, none⟩ = some (.int .i64 t.op) ∧ w.cell? ⟨b, off + i * 3 + 2, none⟩ = some (.int .i64 t.n)) := hq4
    unfold maxLen at hm4
    obtain ⟨hm41, hm4⟩ := hm4
    obtain ⟨i0, hi, hz0, hz1, hz2⟩ := info_parts Tryz.infoInt0
    obtain ⟨wm, hrun, hown, hbm⟩ := make_room (c.vars.length + c.lits.length) (by omega) (w1.alloc (.cells #[.int .i64 c.kind, .slice q1 c.vars.length r1, .slice q2 c.consts.length r2, .int .i64 c.n, .slice q3 c.rows.length r3, .slice q4 c.lits.length r4] 74))
    have hcm1 : wm.cell? ⟨w1.heap.size, 1, none⟩ = some (.slice q1 c.vars.length r1) := (hbm.cell (by simp)).trans (by simp)
    have hcm5 : wm.cell? ⟨w1.heap.size, 5, none⟩ = some (.slice q4 c.lits.length r4) := (hbm.cell (by simp)).trans (by simp)
    have hsm : w1.heap.size + 1 ≤ wm.heap.size := by simpa using hbm.size
    have HBM : Hid (Below w.heap.size w wm) := (HB1.out.alloc HB1.out.size _).trans (hbm.mono (by simp; omega))
    rw [show (w1.alloc (.cells #[.int .i64 c.kind, .slice q1 c.vars.length r1, .slice q2 c.consts.length r2, .int .i64 c.n, .slice q3 c.rows.length r3, .slice q4 c.lits.length r4] 74)).heap.size = w1.heap.size + 1 by simp] at hown hrun
    rw [Int.natCast_add] at hrun
    obtain ⟨B, hBe⟩ : ∃ B, B = w1.heap.size + 1 := ⟨_, rfl⟩
    have HOWN : Hid (wm.ownsRow B 3 1 (.slice (some ⟨B, 0, none⟩) 0 (c.vars.length + c.lits.length)) 0 []) := by rw [hBe]; exact hown
    clear hc f0 f1 f2 f3 f4 f5 hb hq1 hq4 hbm hown o1 o2 o3
    have HIV : Hid (IArg wm (.slice q1 c.vars.length r1) c.vars) := IArg.below HBM.out ⟨q1, r1, rfl, hmv, HQ1.out⟩
    rw [← hBe] at hrun
    have hBw : w.heap.size + 2 ≤ B := by omega
    have hB1 : w1.heap.size < B := by omega
    have hBm : B ≤ wm.heap.size := by omega
    clear hBe
    go_wp2_with (at_builtin; refine wpList_append_ints rfl _ _ rfl B _ [] rfl HOWN.out _ c.vars rfl HIV.out (by simp; omega) hBm ?_)
    intro v3 w3 hown3 hg3 hnn3
    have HB3 : Hid (Below w.heap.size w w3) := HBM.out.grown hg3 HBM.out.size (fun k h => by cases h; exact (by omega : w.heap.size ≤ B))
    have hne : some w1.heap.size ≠ some B := fun h => by have := Option.some.inj h; omega
    have hc5 : w3.cell? ⟨w1.heap.size, 5, none⟩ = some (.slice q4 c.lits.length r4) := hg3.cell hcm5 hne
    clear hne
    have hs3 : B ≤ w3.heap.size := Nat.le_trans hBm hg3.size
    have HOWN3 : Hid (w3.ownsRow B 3 1 v3 (accL c 0).length ((accL c 0).map (Value.int .i64))) := by rw [accL_zero]; exact hown3
    have HNN3 : Hid (v3 ≠ .slice none 0 0) := by first | exact hnn3 | exact hnn3 (by simp)
    clear hown3 hg3 hnn3 hcm1 hcm5 hrun HOWN HIV e0 e1 e2 e3 e4 e5 d1
    go_wp2_with fail
    clear hc5
    go_loopw [8, 37] (fun v i wr => ∃ k : Nat, k ≤ c.lits.length ∧ i = .int .i64 k ∧ wr.ownsRow B 3 1 v (accL c k).length ((accL c k).map (Value.int .i64)) ∧ Hid (v ≠ .slice none 0 0) ∧ Below w.heap.size w wr ∧ B ≤ wr.heap.size) (fun _ i _ => c.lits.length - (intOf i).toNat)
    case atStart => exact ⟨0, by omega, rfl, HOWN3.out, HNN3, HB3.out, hs3⟩
    case round =>
      obtain ⟨k, hk, rfl, hown, hnn, hbw, hsw⟩ := hrel
      by_cases hlt : k < c.lits.length
      · obtain ⟨t, ht⟩ : ∃ t, c.lits[k]? = some t := ⟨c.lits[k], by simp [hlt]⟩
        have HAC : Hid (accL c (k + 1) = accL c k ++ [t.var]) := accL_next c k t ht
        have hal : (accL c k).length ≤ 8 := by rw [accL_len c k hk]; omega
        obtain ⟨b4, off4, rfl, hb4, g0, g1, g2⟩ := HQ4.out k t ht
        have k0 := (hbw.cell (p := ⟨b4, off4 + k * 3, none⟩) hb4).trans g0
        have k1 := (hbw.cell (p := ⟨b4, off4 + k * 3 + 1, none⟩) hb4).trans g1
        have k2 := (hbw.cell (p := ⟨b4, off4 + k * 3 + 2, none⟩) hb4).trans g2
        have HOW : Hid (wr.ownsRow B 3 1 u8 (accL c k).length ((accL c k).map (Value.int .i64))) := hown
        have HBW : Hid (Below w.heap.size w wr) := hbw
        obtain ⟨ax, cx, rfl⟩ := own_shape hown
        obtain ⟨acc, hacc⟩ : ∃ acc, accL c k = acc := ⟨_, rfl⟩
        rw [hacc] at HAC hal HOW hnn ⊢
        clear ht g0 g1 g2 hb4 hown hbw hacc
        go_wp2_with (at_builtin; refine wpList_append_ints rfl _ _ rfl B _ acc rfl ((HOW.out.alloc _).alloc _) _ [t.var] rfl (one_arg _ _ _) (by simp; omega) (by simp; omega) ?_)
        intro v4 w4 hown4 hg4 hnn4
        have HO4 : Hid (w4.ownsRow B 3 1 v4 (acc ++ [t.var]).length ((acc ++ [t.var]).map (Value.int .i64))) := by
          show w4.ownsRow _ _ _ _ _ _
          rw [List.length_append, List.map_append]; first | exact hown4 | simpa using hown4
        have HB4 : Hid (Below w.heap.size w w4) := ((HBW.out.alloc HBW.out.size _).alloc (by have := HBW.out.size; simp; omega) _).grown hg4 (by have := HBW.out.size; simp; omega) (fun g h => by have := (HOW.out.lt g h).1; omega)
        have HN4 : Hid (v4 ≠ .slice none 0 0) := by
          have h := hnn.out
          first | exact hnn4 h | (intro h4; simp_all)
        have hs4 : B ≤ w4.heap.size := by have := hg4.size; simp at this; omega
        clear hown4 hg4 hnn4
        go_wp2
        go_roundw
        case rel => exact ⟨k + 1, by omega, by go_num, by rw [HAC.out]; exact HO4.out, HN4, HB4.out, hs4⟩
        case measure => simp [intOf]; omega
      · have hks : k = c.lits.length := by omega
        have HAC : Hid (accL c k = scopeL c) := by show _ = _; rw [hks]; exact accL_all c
        obtain ⟨g, cap, rfl, hg, hcap, hmx⟩ := own_there hown hnn.out
        have HIR : Hid (IRow wr g (scopeL c)) := by rw [← HAC.out]; exact irow_own hown
        have HBW : Hid (Below w.heap.size w wr) := hbw
        rw [HAC.out] at hcap ⊢
        have hn8 : (scopeL c).length ≤ 8 := by unfold scopeL; simp; omega
        clear hown hnn hbw hks
        go_wp2_with fail
        refine (sort_any (scopeL c) g cap w.heap.size _ HIR.out (by omega) (by omega)).mono ?_
        rintro e w5 ⟨rfl, hr5, hb5⟩
        have HR5 : Hid (IRow w5 g (sortI (scopeL c))) := hr5
        have HB5 : Hid (Below w.heap.size w w5) := HBW.out.trans hb5
        clear hr5 hb5
        go_wp2_with fail
        rw [← sortI_len (scopeL c)]
        refine (compact_any (sortI (scopeL c)) g cap w.heap.size _ HR5.out (by omega) (by rw [sortI_len]; omega) (by rw [sortI_len]; exact hcap)).mono ?_
        rintro e w6 ⟨rfl, hr6, hb6⟩
        have HF : Hid (IArg w6 (.slice (some ⟨g, 0, none⟩) (compI (sortI (scopeL c))).length cap) (scopeC c)) := irow_arg hr6 rfl (by have h1 := compI_len (sortI (scopeL c)); rw [sortI_len] at h1; omega) hmx
        have HB6 : Hid (Below w.heap.size w w6) := HB5.out.trans hb6
        clear hr6 hb6
        go_wp2
        go_ret2
        rw [HN.out]
        exact ⟨_, rfl, HF.out, HB6.out⟩
  · have HN : Hid (R = ([], er)) := by rw [HE.out, if_neg he]; rfl
    have he2 : (er != 0) = true := by simpa using he
    clear he
    go_wp2
    go_ret2
    rw [HN.out]
    exact ⟨_, rfl, ⟨none, 0, rfl, ⟨Nat.le_refl _, Nat.zero_le _⟩, fun i z h => by simp at h⟩, HB1.out⟩
end Go.Proofs.YtggkbhafbhhhhadGreat
