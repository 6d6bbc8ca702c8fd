/-
  Join answers just what the document says, errors too, whatever tokens it is handed: the statement TokenJoins, for every list of tokens, without a condition.
-/
import Derived.Test.YtjbeggebnededaaTokO
namespace Go.Proofs.Ytjbeggebnededaa
open Go.ChangeShapes Go.WideShapes Go.ChangeAt Go.RowKit Go.Deep
open Go.ChangeMaps (open_string shut_string)
set_option linter.unusedVariables false

theorem below_draws {w w' : World} {n : Nat} (h : w' = w.drewN n) : Below w.heap.size w w' := by rw [h]; exact below_drewN (Below.refl _ _) _

set_option maxHeartbeats 800000 in
set_option maxRecDepth 100000 in
theorem joins_walk (ts : List Tok) (v : Value) (w : World) (hmax : ts.length ≤ 17592186044416) (harg : TokArg w v ts) :
    Calls Try.prog 4 #[v] w fun e w' => e = .returned (.bool true) ∧ Below w.heap.size w w' := by
  rcases hR : joinOf ts with ⟨rs, re⟩
  have HR : Hid (joinOf ts = (rs, re)) := hR
  clear hR
  rcases harg with ⟨rfl, a, c, rfl⟩ | ⟨b, off, c, rfl, hb, hrow, htx⟩
  · go_enter Try.func4, Try.ntmps4
    go_wp2_with fail
    refine (join_nil _ _ _).mono ?_
    rintro e w1 ⟨rfl, hb1⟩
    rw [HR.out]
    go_wp2_with fail
    refine (rjoin_nil _ _ _).mono ?_
    rintro e w2 ⟨rfl, n, hw2⟩
    rw [HR.out]
    have hb2 := below_draws hw2
    clear hw2
    go_wp2_with fail
    refine (begun_any _).mono ?_
    rintro e w3 ⟨rfl, hb3⟩
    have hbel : Below w.heap.size w w3 := (hb1.trans (hb2.mono hb1.size)).trans (hb3.mono (Nat.le_trans hb1.size hb2.size))
    go_wp2
    go_ret
    exact ⟨rfl, hbel⟩
  · have HROW : Hid (tokRow w b off ts) := hrow
    have HTX : Hid (∀ t ∈ ts, t.text.size ≤ maxLen) := htx
    clear hrow htx
    go_enter Try.func4, Try.ntmps4
    go_wp2_with fail
    refine (join_any ts b off c _ hmax HTX.out hb HROW.out).mono ?_
    rintro e w1 ⟨rfl, hb1⟩
    rw [HR.out]
    go_wp2_with fail
    refine (rjoin_any ts b off c _ hmax HTX.out (row_below HROW.out hb hb1)).mono ?_
    rintro e w2 ⟨rfl, n, hw2⟩
    rw [HR.out]
    have hb2 := below_draws hw2
    clear hw2
    go_wp2_with fail
    refine (begun_any _).mono ?_
    rintro e w3 ⟨rfl, hb3⟩
    have hbel : Below w.heap.size w w3 := (hb1.trans (hb2.mono hb1.size)).trans (hb3.mono (Nat.le_trans hb1.size hb2.size))
    go_wp2
    go_ret
    exact ⟨rfl, hbel⟩

theorem joins_own : ownKnob Try.prog.godebug = none := by kernel_rfl
theorem joins_laidOut : laidOutB Try.prog = true := by kernel_rfl
theorem joins_bytes : Try.prog.bytesOf 34 = 32 := by kernel_rfl
set_option maxRecDepth 100000 in
theorem joins_lifted (os : Os) (started : os.Started) (H : Type) (enc : TypeId × Value → H) :
    ReturnsInHanded {} Try.checked os 4 .any (Rows.tokenJoinsSpec.pre6 enc Try.prog Try.f4 Rows.tokenJoinsRow.domain false) (Rows.tokenJoinsSpec.post enc Try.prog Try.f4 false true false false) := by
  refine returnsInHanded_of_change_sized (C := Try.checked) joins_own started (by kernel_rfl) Try.func4
    (ChangeSpec.witness6 (enc := enc) (C := Try.checked) false ⟨#[], #[.slice none 0 0], []⟩ 8 (by kernel_rfl) (by kernel_rfl) (by kernel_rfl) (by kernel_rfl)) ?_
  intro W base args ds gs before hval0 hW hcnd hsz0 _
  have hval : ∀ (j : Nat) t v, Try.f4.params[j]? = some t → args[j]? = some v → Value.okWide Try.prog W .any base t v := hval0
  have hW' := hW
  obtain ⟨p, q, hA0, hV, rfl, hfz, hnd⟩ := hW
  have hA : DataW.TrodAll enc Try.prog W 0 (fun _ => true) true Try.f4.params.toList args.toList ds p := hA0
  have hsz : (DataW.weightsEach Try.prog (Try.f4.params.toList ++ Rows.tokenJoinsSpec.plain.varTypes Try.prog) (ds ++ gs)).all (· ≤ reachBytes) = true := hsz0
  rw [Try.params4] at hA hval hsz
  obtain ⟨v0, vs0, d0, ds0, p0, q0, hargs, rfl, rfl, h0, r0⟩ := trodAll_cons hA
  obtain ⟨rfl, rfl, rfl⟩ := trodAll_nil r0
  obtain rfl : args = #[v0] := by cases args; simp_all
  obtain ⟨rfl, rfl⟩ := trodVars_none hV
  have k0 := h0
  have lt0 : ∀ x ∈ p0, x.block < W.heap.size := by obtain ⟨m, hm⟩ := k0; exact DataW.trod_lt m _ _ _ hm
  obtain ⟨fuel, hf⟩ := h0
  obtain ⟨v, ts, hcs, harg, hlen⟩ := open_toks hf
  obtain ⟨a0, len0, cap0, rfl⟩ := okWide_slice Try.underlying22 (hval 0 22 v0 rfl rfl)
  have hv : v = .slice a0 len0 cap0 := by simpa [Value.cells] using hcs.symm
  subst hv
  have hmax : ts.length ≤ 17592186044416 := by
    rcases hlen with rfl | ⟨els, sp, hd, hl⟩
    · simp
    · simp only at hd
      subst hd
      have := sized_slice hsz (j := 0) (t := 22) (e := 34) rfl rfl Try.underlying22
      rw [joins_bytes] at this
      simp only [reachBytes] at this
      omega
  clear hA0 hval0
  refine (joins_walk ts _ W hmax harg).mono fun e W' ⟨he, bel⟩ => ?_
  subst he
  exact ⟨_, rfl, _, _, _, [], _, [], hW', trodAll_mk1 (shut_bool Try.underlying4 _), (trodAll_cons_mk (Below.trod joins_laidOut (by kernel_rfl) (of_decide_eq_true (by kernel_rfl)) k0 bel lt0) trodAll_mk0), rfl, bel.frame _, fun h => by cases h⟩

theorem tokenJoins_holds : Rows.TokenJoinsSaid :=
  OpenClaim.holds_of_wide 4 Try.f4 rfl rfl rfl rfl rfl rfl rfl ⟨rfl, rfl, rfl, rfl, rfl⟩ rfl rfl rfl rfl rfl (by kernel_rfl) Try.func4 (by kernel_rfl)
    (of_decide_eq_true (by kernel_rfl)) (by unfold Func.isWrapper; first | (rw [if_pos (by decide +kernel)]; kernel_rfl) | (rw [if_neg (by decide +kernel)]; exact ⟨rfl, rfl⟩))
    (fun os started H enc _ => joins_lifted os started H enc)
#print axioms tokenJoins_holds
end Go.Proofs.Ytjbeggebnededaa
