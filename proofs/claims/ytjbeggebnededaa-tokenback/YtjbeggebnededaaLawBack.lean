/-
  What is joined is scanned as it was, but for where tokens begin; and what is scanned is joined to what is scanned so: the statement TokenBack, for every list of tokens and every text, without a condition.
-/
import Derived.Test.YtjbeggebnededaaTokO
import Derived.Test.YtjbeggebnededaaTokP
namespace Go.Proofs.Ytjbeggebnededaa
open Go.ChangeShapes Go.WideShapes Go.ChangeAt Go.RowKit Go.Deep
open Go.ChangeMaps (open_string shut_string)
set_option linter.unusedVariables false

theorem back_draws {w w' : World} {n : Nat} (h : w' = w.drewN n) : Below w.heap.size w w' := by rw [h]; exact below_drewN (Below.refl _ _) _
theorem arg_below {w w' : World} {v : Value} {ts : List Tok} (h : TokArg w v ts) (hb : Below w.heap.size w w') : TokArg w' v ts := by
  rcases h with h | ⟨b, off, c, hv, hlt, hrow, htx⟩
  · exact Or.inl h
  · exact Or.inr ⟨b, off, c, hv, Nat.lt_of_lt_of_le hlt hb.size, row_below hrow hlt hb, htx⟩
theorem alone_size (t : Tok) (h : aloneB t = true) : t.text.size ≤ maxLen := by
  have := (tok_size t.kind t.text (by rw [← alone_iff]; exact h)).2
  unfold maxLen; omega
theorem own_arg {w : World} {base : Nat} {v : Value} {ts : List Tok} (h : w.ownsRow base 34 3 v ts.length (toksCells ts)) (hall : ts.all aloneB = true) : TokArg w v ts := by
  by_cases h0 : ts = []
  · subst h0
    obtain ⟨a, c, hv⟩ := own_form h
    exact Or.inl ⟨rfl, a, c, hv⟩
  · obtain ⟨g, cap, hv, _, hg, hrow⟩ := own_row h h0
    exact Or.inr ⟨g, 0, cap, hv, hg, hrow, fun t ht => alone_size t (List.all_eq_true.1 hall t ht)⟩
theorem join_arg (ts : List Tok) (v : Value) (w : World) (hmax : ts.length ≤ 17592186044416) (harg : TokArg w v ts) :
    Calls Try.prog 13 #[v] w fun e w' => e = .returned (.tuple #[.string (joinOf ts).1, .int .i64 (joinOf ts).2]) ∧ Below w.heap.size w w' := by
  rcases harg with ⟨rfl, a, c, rfl⟩ | ⟨b, off, c, rfl, hb, hrow, htx⟩
  · exact join_nil a c w
  · exact join_any ts b off c w hmax htx hb hrow
theorem same_arg (ts us : List Tok) (v u : Value) (w : World) (hmax : ts.length ≤ 17592186044416) (h1 : TokArg w v ts) (h2 : TokArg w u us) (hs : sameBut ts us) :
    Calls Try.prog 12 #[v, u, .bool false] w fun e w' => e = .returned (.bool true) ∧ ∃ n, w' = w.drewN n := by
  by_cases h0 : ts = []
  · subst h0
    have hu0 : us = [] := List.eq_nil_of_length_eq_zero hs.1.symm
    subst hu0
    have hv : ∃ a c, v = .slice a 0 c := by
      rcases h1 with ⟨_, h⟩ | ⟨b, off, c, h, _⟩
      · exact h
      · exact ⟨_, c, h⟩
    have hu : ∃ a c, u = .slice a 0 c := by
      rcases h2 with ⟨_, h⟩ | ⟨b, off, c, h, _⟩
      · exact h
      · exact ⟨_, c, h⟩
    obtain ⟨a, c, rfl⟩ := hv
    obtain ⟨a', c', rfl⟩ := hu
    exact same_nil a a' c c' false w
  · have hu0 : us ≠ [] := by intro h; rw [h] at hs; exact h0 (List.eq_nil_of_length_eq_zero hs.1)
    rcases h1 with ⟨h, _⟩ | ⟨b, off, c, rfl, _, hrow, _⟩
    · exact absurd h h0
    · rcases h2 with ⟨h, _⟩ | ⟨b', off', c', rfl, _, hrow', _⟩
      · exact absurd h hu0
      · exact same_but ts us b off c b' off' c' w hs.1 (by unfold maxLen; omega) hrow hrow' hs.2
theorem join_ok (ts : List Tok) (rs : ByteArray) (h : joinOf ts = (rs, 0)) : rs.size ≤ maxLen ∧ ∃ us, scanOf rs = (us, 0, 0) ∧ sameBut ts us ∧ us.all aloneB = true := by
  unfold joinOf at h
  split at h
  · rename_i hall
    split at h
    · cases h
    · rename_i hbig
      obtain ⟨us, hu, hsame⟩ := scan_join ts hall hbig
      have hrs : rs = ⟨(joinL ts).toArray⟩ := (Prod.mk.inj h).1.symm
      subst hrs
      refine ⟨?_, us, hu, hsame, ?_⟩
      · show (joinL ts).length ≤ maxLen
        rw [joinL_len]; unfold maxLen; omega
      · have := scan_alone (⟨(joinL ts).toArray⟩ : ByteArray) (by rw [hu])
        rw [hu] at this; exact this
  · cases h
theorem join_two (ts : List Tok) (rs : ByteArray) (re : Int) (hall : ts.all aloneB = true) (h : joinOf ts = (rs, re)) (hne : re ≠ 0) : re = 2 := by
  unfold joinOf at h
  rw [if_pos hall] at h
  split at h
  · exact (Prod.mk.inj h).2.symm
  · exact absurd (Prod.mk.inj h).2.symm hne
theorem back_nil (s : ByteArray) (h : (scanOf s).2.2 ≠ 0) : (scanOf s).1 = [] := by
  have hF : ∀ f k acc, (scanF f s k acc).2.2 ≠ 0 → (scanF f s k acc).1 = [] := by
    intro f
    induction f with
    | zero => intro k acc h; exact absurd rfl h
    | succ f ih =>
      intro k acc h
      by_cases h1 : skipTo false s.data.toList k < s.size
      · by_cases h2 : errOf (tokAt s (skipTo false s.data.toList k)).kind (tokAt s (skipTo false s.data.toList k)).text = 0
        · rw [scanF_next f s k _ acc rfl h1 h2] at h ⊢; exact ih _ _ h
        · rw [scanF_err f s k _ acc rfl h1 h2]
      · rw [scanF_end _ s k acc h1] at h; exact absurd rfl h
  unfold scanOf at h ⊢
  by_cases hb : 4000 < s.size
  · rw [if_pos hb]
  · rw [if_neg hb] at h ⊢; exact hF _ _ _ h

set_option maxHeartbeats 1600000 in
set_option maxRecDepth 100000 in
theorem back_walk (ts : List Tok) (v : Value) (s : ByteArray) (hs : s.size ≤ maxLen) (w : World) (hmax : ts.length ≤ 17592186044416) (harg : TokArg w v ts) :
    Calls Try.prog 5 #[v, .string s] w fun e w' => e = .returned (.bool true) ∧ Below w.heap.size w w' := by
  have HARG : Hid (TokArg w v ts) := harg
  have HS : Hid (s.size ≤ maxLen) := hs
  have HMAX : Hid (ts.length ≤ 17592186044416) := hmax
  have hno := back_nil s
  have hal := scan_alone s
  have hln := scan_len s
  clear hs harg hmax
  rcases hJ : joinOf ts with ⟨rs, re⟩
  rcases hR : scanOf s with ⟨ms, pl, er⟩
  rw [hR] at hno hal hln
  simp only at hno hal hln
  rcases hJ2 : joinOf ms with ⟨rs2, re2⟩
  have HJ : Hid (joinOf ts = (rs, re)) := hJ
  have HR : Hid (scanOf s = (ms, pl, er)) := hR
  have HJ2 : Hid (joinOf ms = (rs2, re2)) := hJ2
  have HLN : Hid (ms.length ≤ 17592186044416) := show ms.length ≤ 17592186044416 by omega
  have HNO : Hid (er ≠ 0 → ms = []) := hno
  have HAL : Hid (er = 0 → ms.all aloneB = true) := hal
  clear hJ hR hJ2 hno hal hln
  by_cases her : er = 0
  · subst her
    have HALL : Hid (ms.all aloneB = true) := HAL.out rfl
    by_cases he2 : re2 = 0
    · subst he2
      obtain ⟨hr2, vs, hv, hvs, hva⟩ := join_ok ms rs2 HJ2.out
      have HRS2 : Hid (rs2.size ≤ maxLen) := hr2
      have HV : Hid (scanOf rs2 = (vs, 0, 0)) := hv
      have HVS : Hid (sameBut ms vs) := hvs
      have HVA : Hid (vs.all aloneB = true) := hva
      clear hr2 hv hvs hva
      by_cases hre : re = 0
      · subst hre
        obtain ⟨hrs, us, hu, hus, hua⟩ := join_ok ts rs HJ.out
        have HRS : Hid (rs.size ≤ maxLen) := hrs
        have HU : Hid (scanOf rs = (us, 0, 0)) := hu
        have HSM : Hid (sameBut ts us) := hus
        have HUA : Hid (us.all aloneB = true) := hua
        clear hrs hu hus hua
        go_enter Try.func5, Try.ntmps5
        go_wp2_with fail
        refine (begun_any _).mono ?_
        rintro e w0 ⟨rfl, hb0⟩
        have HA0 : Hid (TokArg w0 v ts) := arg_below HARG.out hb0
        go_wp2_with fail
        refine (join_arg ts v _ HMAX.out HA0.out).mono ?_
        rintro e w1 ⟨rfl, hb1⟩
        rw [HJ.out]
        have HB1 : Hid (Below w.heap.size w w1) := hb0.trans (hb1.mono hb0.size)
        have HA1 : Hid (TokArg w1 v ts) := arg_below HA0.out hb1
        clear hb0 hb1
        go_wp2_with fail
        refine (scan_all rs HRS.out _).mono ?_
        rintro e w2 ⟨u, rfl, hown, hb2⟩
        rw [HU.out] at hown ⊢
        have HU2 : Hid (TokArg w2 u us) := own_arg hown HUA.out
        have HA2 : Hid (TokArg w2 v ts) := arg_below HA1.out hb2
        have HB2 : Hid (Below w.heap.size w w2) := HB1.out.trans (hb2.mono HB1.out.size)
        clear hown hb2
        go_wp2_with fail
        refine (same_arg ts us v u _ HMAX.out HA2.out HU2.out HSM.out).mono ?_
        rintro e w3 ⟨rfl, n, hw3⟩
        have HB3 : Hid (Below w.heap.size w w3) := HB2.out.trans ((back_draws hw3).mono HB2.out.size)
        clear hw3
        go_wp2_with fail
        refine (scan_all s HS.out _).mono ?_
        rintro e w5 ⟨x, rfl, hown, hb5⟩
        rw [HR.out] at hown ⊢
        have HX : Hid (TokArg w5 x ms) := own_arg hown HALL.out
        have HB5 : Hid (Below w.heap.size w w5) := HB3.out.trans (hb5.mono HB3.out.size)
        clear hown hb5
        go_wp2_with fail
        refine (join_arg ms x _ HLN.out HX.out).mono ?_
        rintro e w6 ⟨rfl, hb6⟩
        rw [HJ2.out]
        have HX6 : Hid (TokArg w6 x ms) := arg_below HX.out hb6
        have HB6 : Hid (Below w.heap.size w w6) := HB5.out.trans (hb6.mono HB5.out.size)
        clear hb6
        go_wp2_with fail
        refine (scan_all rs2 HRS2.out _).mono ?_
        rintro e w7 ⟨y, rfl, hown, hb7⟩
        rw [HV.out] at hown ⊢
        have HY : Hid (TokArg w7 y vs) := own_arg hown HVA.out
        have HX7 : Hid (TokArg w7 x ms) := arg_below HX6.out hb7
        have HB7 : Hid (Below w.heap.size w w7) := HB6.out.trans (hb7.mono HB6.out.size)
        clear hown hb7
        go_wp2_with fail
        refine (same_arg ms vs x y _ HLN.out HX7.out HY.out HVS.out).mono ?_
        rintro e w8 ⟨rfl, n8, hw8⟩
        have HB8 : Hid (Below w.heap.size w w8) := HB7.out.trans ((back_draws hw8).mono HB7.out.size)
        clear hw8
        go_wp2
        go_ret
        exact ⟨rfl, HB8.out⟩
      · have hre2 : (re == 0) = false := by simpa using hre
        clear hre
        go_enter Try.func5, Try.ntmps5
        go_wp2_with fail
        refine (begun_any _).mono ?_
        rintro e w0 ⟨rfl, hb0⟩
        have HA0 : Hid (TokArg w0 v ts) := arg_below HARG.out hb0
        go_wp2_with fail
        refine (join_arg ts v _ HMAX.out HA0.out).mono ?_
        rintro e w1 ⟨rfl, hb1⟩
        rw [HJ.out]
        have HB1 : Hid (Below w.heap.size w w1) := hb0.trans (hb1.mono hb0.size)
        have HA1 : Hid (TokArg w1 v ts) := arg_below HA0.out hb1
        clear hb0 hb1
        go_wp2_with fail
        refine (scan_all s HS.out _).mono ?_
        rintro e w5 ⟨x, rfl, hown, hb5⟩
        rw [HR.out] at hown ⊢
        have HX : Hid (TokArg w5 x ms) := own_arg hown HALL.out
        have HB5 : Hid (Below w.heap.size w w5) := HB1.out.trans (hb5.mono HB1.out.size)
        clear hown hb5
        go_wp2_with fail
        refine (join_arg ms x _ HLN.out HX.out).mono ?_
        rintro e w6 ⟨rfl, hb6⟩
        rw [HJ2.out]
        have HX6 : Hid (TokArg w6 x ms) := arg_below HX.out hb6
        have HB6 : Hid (Below w.heap.size w w6) := HB5.out.trans (hb6.mono HB5.out.size)
        clear hb6
        go_wp2_with fail
        refine (scan_all rs2 HRS2.out _).mono ?_
        rintro e w7 ⟨y, rfl, hown, hb7⟩
        rw [HV.out] at hown ⊢
        have HY : Hid (TokArg w7 y vs) := own_arg hown HVA.out
        have HX7 : Hid (TokArg w7 x ms) := arg_below HX6.out hb7
        have HB7 : Hid (Below w.heap.size w w7) := HB6.out.trans (hb7.mono HB6.out.size)
        clear hown hb7
        go_wp2_with fail
        refine (same_arg ms vs x y _ HLN.out HX7.out HY.out HVS.out).mono ?_
        rintro e w8 ⟨rfl, n8, hw8⟩
        have HB8 : Hid (Below w.heap.size w w8) := HB7.out.trans ((back_draws hw8).mono HB7.out.size)
        clear hw8
        go_wp2
        go_ret
        exact ⟨rfl, HB8.out⟩
    · obtain rfl : re2 = 2 := join_two ms rs2 re2 HALL.out HJ2.out he2
      clear he2
      by_cases hre : re = 0
      · subst hre
        obtain ⟨hrs, us, hu, hus, hua⟩ := join_ok ts rs HJ.out
        have HRS : Hid (rs.size ≤ maxLen) := hrs
        have HU : Hid (scanOf rs = (us, 0, 0)) := hu
        have HSM : Hid (sameBut ts us) := hus
        have HUA : Hid (us.all aloneB = true) := hua
        clear hrs hu hus hua
        go_enter Try.func5, Try.ntmps5
        go_wp2_with fail
        refine (begun_any _).mono ?_
        rintro e w0 ⟨rfl, hb0⟩
        have HA0 : Hid (TokArg w0 v ts) := arg_below HARG.out hb0
        go_wp2_with fail
        refine (join_arg ts v _ HMAX.out HA0.out).mono ?_
        rintro e w1 ⟨rfl, hb1⟩
        rw [HJ.out]
        have HB1 : Hid (Below w.heap.size w w1) := hb0.trans (hb1.mono hb0.size)
        have HA1 : Hid (TokArg w1 v ts) := arg_below HA0.out hb1
        clear hb0 hb1
        go_wp2_with fail
        refine (scan_all rs HRS.out _).mono ?_
        rintro e w2 ⟨u, rfl, hown, hb2⟩
        rw [HU.out] at hown ⊢
        have HU2 : Hid (TokArg w2 u us) := own_arg hown HUA.out
        have HA2 : Hid (TokArg w2 v ts) := arg_below HA1.out hb2
        have HB2 : Hid (Below w.heap.size w w2) := HB1.out.trans (hb2.mono HB1.out.size)
        clear hown hb2
        go_wp2_with fail
        refine (same_arg ts us v u _ HMAX.out HA2.out HU2.out HSM.out).mono ?_
        rintro e w3 ⟨rfl, n, hw3⟩
        have HB3 : Hid (Below w.heap.size w w3) := HB2.out.trans ((back_draws hw3).mono HB2.out.size)
        clear hw3
        go_wp2_with fail
        refine (scan_all s HS.out _).mono ?_
        rintro e w5 ⟨x, rfl, hown, hb5⟩
        rw [HR.out] at hown ⊢
        have HX : Hid (TokArg w5 x ms) := own_arg hown HALL.out
        have HB5 : Hid (Below w.heap.size w w5) := HB3.out.trans (hb5.mono HB3.out.size)
        clear hown hb5
        go_wp2_with fail
        refine (join_arg ms x _ HLN.out HX.out).mono ?_
        rintro e w6 ⟨rfl, hb6⟩
        rw [HJ2.out]
        have HB6 : Hid (Below w.heap.size w w6) := HB5.out.trans (hb6.mono HB5.out.size)
        clear hb6
        go_wp2
        go_ret
        exact ⟨rfl, HB6.out⟩
      · have hre2 : (re == 0) = false := by simpa using hre
        clear hre
        go_enter Try.func5, Try.ntmps5
        go_wp2_with fail
        refine (begun_any _).mono ?_
        rintro e w0 ⟨rfl, hb0⟩
        have HA0 : Hid (TokArg w0 v ts) := arg_below HARG.out hb0
        go_wp2_with fail
        refine (join_arg ts v _ HMAX.out HA0.out).mono ?_
        rintro e w1 ⟨rfl, hb1⟩
        rw [HJ.out]
        have HB1 : Hid (Below w.heap.size w w1) := hb0.trans (hb1.mono hb0.size)
        have HA1 : Hid (TokArg w1 v ts) := arg_below HA0.out hb1
        clear hb0 hb1
        go_wp2_with fail
        refine (scan_all s HS.out _).mono ?_
        rintro e w5 ⟨x, rfl, hown, hb5⟩
        rw [HR.out] at hown ⊢
        have HX : Hid (TokArg w5 x ms) := own_arg hown HALL.out
        have HB5 : Hid (Below w.heap.size w w5) := HB1.out.trans (hb5.mono HB1.out.size)
        clear hown hb5
        go_wp2_with fail
        refine (join_arg ms x _ HLN.out HX.out).mono ?_
        rintro e w6 ⟨rfl, hb6⟩
        rw [HJ2.out]
        have HB6 : Hid (Below w.heap.size w w6) := HB5.out.trans (hb6.mono HB5.out.size)
        clear hb6
        go_wp2
        go_ret
        exact ⟨rfl, HB6.out⟩
  · obtain rfl : ms = [] := HNO.out her
    have hne : (er != 0) = true := by simpa using her
    clear her
    by_cases hre : re = 0
    · subst hre
      obtain ⟨hrs, us, hu, hus, hua⟩ := join_ok ts rs HJ.out
      have HRS : Hid (rs.size ≤ maxLen) := hrs
      have HU : Hid (scanOf rs = (us, 0, 0)) := hu
      have HSM : Hid (sameBut ts us) := hus
      have HUA : Hid (us.all aloneB = true) := hua
      clear hrs hu hus hua
      go_enter Try.func5, Try.ntmps5
      go_wp2_with fail
      refine (begun_any _).mono ?_
      rintro e w0 ⟨rfl, hb0⟩
      have HA0 : Hid (TokArg w0 v ts) := arg_below HARG.out hb0
      go_wp2_with fail
      refine (join_arg ts v _ HMAX.out HA0.out).mono ?_
      rintro e w1 ⟨rfl, hb1⟩
      rw [HJ.out]
      have HB1 : Hid (Below w.heap.size w w1) := hb0.trans (hb1.mono hb0.size)
      have HA1 : Hid (TokArg w1 v ts) := arg_below HA0.out hb1
      clear hb0 hb1
      go_wp2_with fail
      refine (scan_all rs HRS.out _).mono ?_
      rintro e w2 ⟨u, rfl, hown, hb2⟩
      rw [HU.out] at hown ⊢
      have HU2 : Hid (TokArg w2 u us) := own_arg hown HUA.out
      have HA2 : Hid (TokArg w2 v ts) := arg_below HA1.out hb2
      have HB2 : Hid (Below w.heap.size w w2) := HB1.out.trans (hb2.mono HB1.out.size)
      clear hown hb2
      go_wp2_with fail
      refine (same_arg ts us v u _ HMAX.out HA2.out HU2.out HSM.out).mono ?_
      rintro e w3 ⟨rfl, n, hw3⟩
      have HB3 : Hid (Below w.heap.size w w3) := HB2.out.trans ((back_draws hw3).mono HB2.out.size)
      clear hw3
      go_wp2_with fail
      refine (scan_all s HS.out _).mono ?_
      rintro e w5 ⟨x, rfl, hown, hb5⟩
      rw [HR.out] at hown ⊢
      obtain ⟨a5, c5, rfl⟩ := own_form hown
      have HB5 : Hid (Below w.heap.size w w5) := HB3.out.trans (hb5.mono HB3.out.size)
      clear hown hb5
      go_wp2
      go_ret
      exact ⟨rfl, HB5.out⟩
    · have hre2 : (re == 0) = false := by simpa using hre
      clear hre
      go_enter Try.func5, Try.ntmps5
      go_wp2_with fail
      refine (begun_any _).mono ?_
      rintro e w0 ⟨rfl, hb0⟩
      have HA0 : Hid (TokArg w0 v ts) := arg_below HARG.out hb0
      go_wp2_with fail
      refine (join_arg ts v _ HMAX.out HA0.out).mono ?_
      rintro e w1 ⟨rfl, hb1⟩
      rw [HJ.out]
      have HB1 : Hid (Below w.heap.size w w1) := hb0.trans (hb1.mono hb0.size)
      have HA1 : Hid (TokArg w1 v ts) := arg_below HA0.out hb1
      clear hb0 hb1
      go_wp2_with fail
      refine (scan_all s HS.out _).mono ?_
      rintro e w5 ⟨x, rfl, hown, hb5⟩
      rw [HR.out] at hown ⊢
      obtain ⟨a5, c5, rfl⟩ := own_form hown
      have HB5 : Hid (Below w.heap.size w w5) := HB1.out.trans (hb5.mono HB1.out.size)
      clear hown hb5
      go_wp2
      go_ret
      exact ⟨rfl, HB5.out⟩

theorem back_own : ownKnob Try.prog.godebug = none := by kernel_rfl
theorem back_laidOut : laidOutB Try.prog = true := by kernel_rfl
theorem back_bytes : Try.prog.bytesOf 34 = 32 := by kernel_rfl
set_option maxRecDepth 100000 in
theorem back_lifted (os : Os) (started : os.Started) (H : Type) (enc : TypeId × Value → H) :
    ReturnsInHanded {} Try.checked os 5 .any (Rows.tokenBackSpec.pre6 enc Try.prog Try.f5 Rows.tokenBackRow.domain false) (Rows.tokenBackSpec.post enc Try.prog Try.f5 false true false false) := by
  refine returnsInHanded_of_change_sized (C := Try.checked) back_own started (by kernel_rfl) Try.func5
    (ChangeSpec.witness6 (enc := enc) (C := Try.checked) false ⟨#[], #[.slice none 0 0, .string ByteArray.empty], []⟩ 8 (by kernel_rfl) (by kernel_rfl) (by kernel_rfl) (by kernel_rfl)) ?_
  intro W base args ds gs before hval0 hW hcnd hsz0 _
  have hval : ∀ (j : Nat) t v, Try.f5.params[j]? = some t → args[j]? = some v → Value.okWide Try.prog W .any base t v := hval0
  have hW' := hW
  obtain ⟨p, q, hA0, hV, rfl, hfz, hnd⟩ := hW
  have hA : DataW.TrodAll enc Try.prog W 0 (fun _ => true) true Try.f5.params.toList args.toList ds p := hA0
  have hsz : (DataW.weightsEach Try.prog (Try.f5.params.toList ++ Rows.tokenBackSpec.plain.varTypes Try.prog) (ds ++ gs)).all (· ≤ reachBytes) = true := hsz0
  rw [Try.params5] at hA hval hsz
  obtain ⟨v0, vs0, d0, ds0, p0, q0, hargs, rfl, rfl, h0, r0⟩ := trodAll_cons hA
  obtain ⟨v1, vs1, d1, ds1, p1, q1, rfl, rfl, rfl, h1, r1⟩ := trodAll_cons r0
  obtain ⟨rfl, rfl, rfl⟩ := trodAll_nil r1
  obtain rfl : args = #[v0, v1] := by cases args; simp_all
  obtain ⟨rfl, rfl⟩ := trodVars_none hV
  have k0 := h0
  have lt0 : ∀ x ∈ p0, x.block < W.heap.size := by obtain ⟨m, hm⟩ := k0; exact DataW.trod_lt m _ _ _ hm
  obtain ⟨fuel, hf⟩ := h0
  obtain ⟨v, ts, hcs, harg, hlen⟩ := open_toks hf
  obtain ⟨a0, len0, cap0, rfl⟩ := okWide_slice Try.underlying22 (hval 0 22 v0 rfl rfl)
  have hv : v = .slice a0 len0 cap0 := by simpa [Value.cells] using hcs.symm
  subst hv
  have hmax : ts.length ≤ 17592186044416 := by
    rcases hlen with rfl | ⟨els, sp, hd, hl⟩
    · simp
    · simp only at hd
      subst hd
      have := sized_slice hsz (j := 0) (t := 22) (e := 34) rfl rfl Try.underlying22
      rw [back_bytes] at this
      simp only [reachBytes] at this
      omega
  obtain ⟨a1, rfl, rfl, rfl, w1⟩ := open_string Try.underlying9 (hval 1 9 v1 rfl rfl) h1
  clear hA0 hval0
  refine (back_walk ts _ a1 w1 W hmax harg).mono fun e W' ⟨he, bel⟩ => ?_
  subst he
  exact ⟨_, rfl, _, _, _, [], _, [], hW', trodAll_mk1 (shut_bool Try.underlying4 _), (trodAll_cons_mk (Below.trod back_laidOut (by kernel_rfl) (of_decide_eq_true (by kernel_rfl)) k0 bel lt0) (trodAll_cons_mk (shut_string Try.underlying9 w1) trodAll_mk0)), rfl, bel.frame _, fun h => by cases h⟩

theorem tokenBack_holds : Rows.TokenBackSaid :=
  OpenClaim.holds_of_wide 5 Try.f5 rfl rfl rfl rfl rfl rfl rfl ⟨rfl, rfl, rfl, rfl, rfl⟩ rfl rfl rfl rfl rfl (by kernel_rfl) Try.func5 (by kernel_rfl)
    (of_decide_eq_true (by kernel_rfl)) (by unfold Func.isWrapper; first | (rw [if_pos (by decide +kernel)]; kernel_rfl) | (rw [if_neg (by decide +kernel)]; exact ⟨rfl, rfl⟩))
    (fun os started H enc _ => back_lifted os started H enc)
#print axioms tokenBack_holds
end Go.Proofs.Ytjbeggebnededaa
