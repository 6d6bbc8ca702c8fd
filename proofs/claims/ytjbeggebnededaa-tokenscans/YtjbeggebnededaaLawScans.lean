/-
  Scan answers just what the document says, and the same place, whatever text it is handed: the statement TokenScans, for every text, without a condition.
-/
import Derived.Test.YtjbeggebnededaaTokK
import Derived.ProofKit
import Derived.OpenShut
import Derived.ShutString
import Derived.ChangeOld
import Derived.Below
namespace Go.Proofs.Ytjbeggebnededaa
open Go.ChangeShapes Go.WideShapes Go.ChangeAt Go.RowKit
open Go.ChangeMaps (open_string shut_string)
set_option linter.unusedVariables false

theorem row_below {w w' : World} {b off : Nat} {ts : List Tok} (h : tokRow w b off ts) (hb : b < w.heap.size) (hbel : Below w.heap.size w w') : tokRow w' b off ts := by
  intro i t ht
  obtain ⟨c0, c1, c2⟩ := h i t ht
  exact ⟨(hbel.cell (p := ⟨b, off + i * 3, none⟩) hb).trans c0, (hbel.cell (p := ⟨b, off + i * 3 + 1, none⟩) hb).trans c1, (hbel.cell (p := ⟨b, off + i * 3 + 2, none⟩) hb).trans c2⟩

set_option maxHeartbeats 800000 in
set_option maxRecDepth 100000 in
theorem scans_walk (s : ByteArray) (hs : s.size ≤ maxLen) (w : World) :
    Calls Try.prog 3 #[.string s] w fun e w' => e = .returned (.bool true) ∧ Below w.heap.size w w' := by
  have HS : Hid (s.size ≤ maxLen) := hs
  clear hs
  rcases hR : scanOf s with ⟨ts, pl, er⟩
  have HR : Hid (scanOf s = (ts, pl, er)) := hR
  clear hR
  go_enter Try.func3, Try.ntmps3
  go_wp2_with fail
  refine (scan_all s HS.out _).mono ?_
  rintro e w1 ⟨v, rfl, hown, hb1⟩
  rw [HR.out] at hown ⊢
  go_wp2_with fail
  refine (rscan_all s HS.out _).mono ?_
  rintro e w2 ⟨v2, rfl, hown2, hb2⟩
  rw [HR.out] at hown2 ⊢
  go_wp2_with fail
  refine (begun_any _).mono ?_
  rintro e w3 ⟨rfl, hb3⟩
  have hs1 := hb1.size
  have hs2 := hb2.size
  have hbel : Below w.heap.size w w3 := (hb1.trans (hb2.mono hs1)).trans (hb3.mono (by omega))
  have hown3 := own_below (own_below hown hb2) hb3
  have hown4 := own_below hown2 hb3
  by_cases h0 : ts = []
  · subst h0
    obtain ⟨a1, c1, rfl⟩ := own_form hown3
    obtain ⟨a2, c2, rfl⟩ := own_form hown4
    clear hown hown2 hown3 hown4
    go_wp2_with fail
    refine (same_nil _ _ _ _ _ _).mono ?_
    rintro e w4 ⟨rfl, n, rfl⟩
    go_wp2
    go_ret
    exact ⟨rfl, below_drewN hbel _⟩
  · obtain ⟨g1, c1, rfl, _, hg1, hrow1⟩ := own_row hown3 h0
    obtain ⟨g2, c2, rfl, _, hg2, hrow2⟩ := own_row hown4 h0
    have hlen : Hid (ts.length ≤ maxLen) := by
      rcases hown3.2 with ⟨_, h⟩ | ⟨_, cap, _, hv, _, _, h1, h2, _⟩
      · show ts.length ≤ maxLen; omega
      · exact Nat.le_trans h1 h2
    clear hown hown2 hown3 hown4
    go_wp2_with fail
    refine (same_true ts ts g1 0 c1 g2 0 c2 _ rfl hlen.out hrow1 hrow2 (fun i t u h1 h2 => by rw [h1] at h2; cases h2; exact ⟨rfl, rfl, rfl⟩)).mono ?_
    rintro e w4 ⟨rfl, n, rfl⟩
    go_wp2
    go_ret
    exact ⟨rfl, below_drewN hbel _⟩

theorem scans_own : ownKnob Try.prog.godebug = none := by kernel_rfl
theorem scans_laidOut : laidOutB Try.prog = true := by kernel_rfl
set_option maxRecDepth 100000 in
theorem scans_lifted (os : Os) (started : os.Started) (H : Type) (enc : TypeId × Value → H) :
    ReturnsInHanded {} Try.checked os 3 .any (Rows.tokenScansSpec.pre6 enc Try.prog Try.f3 Rows.tokenScansRow.domain false) (Rows.tokenScansSpec.post enc Try.prog Try.f3 false true false false) := by
  refine returnsInHanded_of_change (C := Try.checked) scans_own started (by kernel_rfl) Try.func3
    (ChangeSpec.witness6 (enc := enc) (C := Try.checked) false ⟨#[], #[.string ByteArray.empty], []⟩ 8 (by kernel_rfl) (by kernel_rfl) (by kernel_rfl) (by kernel_rfl)) ?_
  intro W base args ds gs before hval0 hW hcnd _
  have hval : ∀ (j : Nat) t v, Try.f3.params[j]? = some t → args[j]? = some v → Value.okWide Try.prog W .any base t v := hval0
  have hW' := hW
  obtain ⟨p, q, hA0, hV, rfl, hfz, hnd⟩ := hW
  have hA : DataW.TrodAll enc Try.prog W 0 (fun _ => true) true Try.f3.params.toList args.toList ds p := hA0
  rw [Try.params3] at hA hval
  obtain ⟨v0, vs0, d0, ds0, p0, q0, hargs, rfl, rfl, h0, r0⟩ := trodAll_cons hA
  obtain ⟨rfl, rfl, rfl⟩ := trodAll_nil r0
  obtain rfl : args = #[v0] := by cases args; simp_all
  obtain ⟨rfl, rfl⟩ := trodVars_none hV
  obtain ⟨a0, rfl, rfl, rfl, w0⟩ := open_string Try.underlying9 (hval 0 9 v0 rfl rfl) h0
  clear hA0 hval0
  refine (scans_walk a0 w0 W).mono fun e W' ⟨he, bel⟩ => ?_
  subst he
  exact ⟨_, rfl, _, _, _, [], _, [], hW', trodAll_mk1 (shut_bool Try.underlying4 _), (trodAll_cons_mk (shut_string Try.underlying9 w0) trodAll_mk0), rfl, bel.frame _, fun h => by cases h⟩

theorem tokenScans_holds : Rows.TokenScansSaid :=
  OpenClaim.holds_of_wide 3 Try.f3 rfl rfl rfl rfl rfl rfl rfl ⟨rfl, rfl, rfl, rfl, rfl⟩ rfl rfl rfl rfl rfl (by kernel_rfl) Try.func3 (by kernel_rfl)
    (of_decide_eq_true (by kernel_rfl)) (by unfold Func.isWrapper; first | (rw [if_pos (by decide +kernel)]; kernel_rfl) | (rw [if_neg (by decide +kernel)]; exact ⟨rfl, rfl⟩))
    (fun os started H enc _ => scans_lifted os started H enc)
#print axioms tokenScans_holds
end Go.Proofs.Ytjbeggebnededaa
