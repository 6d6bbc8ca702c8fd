/-
  Each token of a text stands where Scan tells it, one behind the other: the statement TokenPlaces, for every text, without a condition.
-/
import Derived.Test.YtjbeggebnededaaTokK
import Derived.ProofKit
import Derived.OpenShut
import Derived.ShutString
import Derived.ChangeOld
import Derived.Below
namespace Go.Proofs.Ytjbeggebnededaa
open Go.ChangeShapes Go.WideShapes Go.ChangeAt Go.RowKit
open Go.ChangeMaps (open_string shut_string)
set_option linter.unusedVariables false

/-- The tokens stand one behind the other, from a place on. -/
def inPlace (s : ByteArray) : Nat → List Tok → Prop
  | _, [] => True
  | k, t :: r => ∃ a n : Nat, t.place = a ∧ t.text = s.extract a (a + n) ∧ 0 < n ∧ a + n ≤ s.size ∧ k ≤ a ∧ inPlace s (a + n) r

theorem scanF_inPlace (f : Nat) (s : ByteArray) : ∀ (k : Nat) (acc : List Tok), k ≤ s.size → (scanF f s k acc).2.2 = 0 → ∃ r, (scanF f s k acc).1 = acc ++ r ∧ inPlace s k r := by
  induction f with
  | zero => intro k acc _ _; exact ⟨[], by simp [scanF], trivial⟩
  | succ f ih =>
    intro k acc hk h
    by_cases h1 : skipTo false s.data.toList k < s.size
    · by_cases h2 : errOf (tokAt s (skipTo false s.data.toList k)).kind (tokAt s (skipTo false s.data.toList k)).text = 0
      · rw [scanF_next f s k _ acc rfl h1 h2] at h ⊢
        have hkd := kind_of_ok s _ h2
        have hl : skipTo false s.data.toList k < s.data.toList.length := by rw [len_size]; exact h1
        have hgt := endOf_gt _ _ hl hkd
        have hle := (endOf_le _ _ hl).2
        rw [len_size] at hle
        have hsk := (skipTo_le false s.data.toList k (by rw [len_size]; exact hk)).1
        obtain ⟨r, hr, hp⟩ := ih _ _ hle h
        refine ⟨tokAt s (skipTo false s.data.toList k) :: r, by rw [hr]; simp, skipTo false s.data.toList k, endOf s.data.toList (skipTo false s.data.toList k) - skipTo false s.data.toList k, ?_, ?_, by omega, by omega, hsk, ?_⟩
        · unfold tokAt; rw [if_neg hkd]
        · unfold tokAt; rw [if_neg hkd]; rw [Nat.add_sub_cancel' (Nat.le_of_lt hgt)]
        · rw [Nat.add_sub_cancel' (Nat.le_of_lt hgt)]; exact hp
      · rw [scanF_err f s k _ acc rfl h1 h2] at h; exact absurd h h2
    · exact ⟨[], by rw [scanF_end _ s k acc h1]; simp, trivial⟩
theorem scan_inPlace (s : ByteArray) (h : (scanOf s).2.2 = 0) : inPlace s 0 (scanOf s).1 := by
  unfold scanOf at h ⊢
  by_cases hb : 4000 < s.size
  · rw [if_pos hb] at h ⊢; exact trivial
  · rw [if_neg hb] at h ⊢
    obtain ⟨r, hr, hp⟩ := scanF_inPlace _ s 0 [] (Nat.zero_le _) h
    rw [hr]; exact hp
theorem scan_err_nil (s : ByteArray) (h : (scanOf s).2.2 ≠ 0) : (scanOf s).1 = [] := by
  have hF : ∀ f k acc, (scanF f s k acc).2.2 ≠ 0 → (scanF f s k acc).1 = [] := by
    intro f
    induction f with
    | zero => intro k acc h; exact absurd rfl h
    | succ f ih =>
      intro k acc h
      by_cases h1 : skipTo false s.data.toList k < s.size
      · by_cases h2 : errOf (tokAt s (skipTo false s.data.toList k)).kind (tokAt s (skipTo false s.data.toList k)).text = 0
        · rw [scanF_next f s k _ acc rfl h1 h2] at h ⊢; exact ih _ _ h
        · rw [scanF_err f s k _ acc rfl h1 h2]
      · rw [scanF_end _ s k acc h1] at h; exact absurd rfl h
  unfold scanOf at h ⊢
  by_cases hb : 4000 < s.size
  · rw [if_pos hb]
  · rw [if_neg hb] at h ⊢; exact hF _ _ _ h

set_option maxHeartbeats 800000 in
set_option maxRecDepth 100000 in
theorem places_walk (s : ByteArray) (hs : s.size ≤ maxLen) (w : World) :
    Calls Try.prog 6 #[.string s] w fun e w' => e = .returned (.bool true) ∧ Below w.heap.size w w' := by
  have HS : Hid (s.size ≤ maxLen) := hs
  have hno := scan_err_nil s
  have hin := scan_inPlace s
  rcases hR : scanOf s with ⟨ts, pl, er⟩
  rw [hR] at hno hin
  have HR : Hid (scanOf s = (ts, pl, er)) := hR
  clear hR
  unfold maxLen at hs
  by_cases her : er = 0
  · subst her
    have HIN : Hid (inPlace s 0 ts) := hin rfl
    clear hno hin
    by_cases h0 : ts = []
    · subst h0
      go_enter Try.func6, Try.ntmps6
      go_wp2_with fail
      refine (scan_all s HS.out _).mono ?_
      rintro e w1 ⟨v, rfl, hown, hb1⟩
      rw [HR.out] at hown ⊢
      obtain ⟨a1, c1, rfl⟩ := own_form hown
      clear hown
      go_wp2_with fail
      refine (begun_any _).mono ?_
      rintro e w3 ⟨rfl, hb3⟩
      have hbel : Below w.heap.size w w3 := hb1.trans (hb3.mono hb1.size)
      go_wp2
      go_loopw [6, 7] (fun a i wr => i = .int .i64 0 ∧ wr = w3) (fun _ _ _ => 0)
      case atStart => exact ⟨rfl, rfl⟩
      case round =>
        obtain ⟨rfl, rfl⟩ := hrel
        go_wp2
        go_ret
        exact ⟨rfl, hbel⟩
    · go_enter Try.func6, Try.ntmps6
      go_wp2_with fail
      refine (scan_all s HS.out _).mono ?_
      rintro e w1 ⟨v, rfl, hown, hb1⟩
      rw [HR.out] at hown ⊢
      go_wp2_with fail
      refine (begun_any _).mono ?_
      rintro e w3 ⟨rfl, hb3⟩
      have hown3 := own_below hown hb3
      obtain ⟨g, c1, rfl, _, hg, hrow⟩ := own_row hown3 h0
      have hlen : ts.length ≤ maxLen := by
        rcases hown3.2 with ⟨_, h⟩ | ⟨_, cap, _, hv, _, _, h1, h2, _⟩
        · omega
        · exact Nat.le_trans h1 h2
      unfold maxLen at hlen
      have hbel : Below w.heap.size w w3 := hb1.trans (hb3.mono hb1.size)
      have HROW : Hid (tokRow w3 g 0 ts) := hrow
      clear hown hown3 hrow
      go_wp2
      go_loopw [6, 7] (fun a i wr => ∃ m A : Nat, m ≤ ts.length ∧ A ≤ s.size ∧ i = .int .i64 m ∧ a = .int .i64 A ∧ Hid (inPlace s A (ts.drop m)) ∧ ∃ n, wr = w3.drewN n) (fun _ i _ => ts.length - (intOf i).toNat)
      case atStart => exact ⟨0, 0, by omega, by omega, rfl, rfl, HIN, 0, rfl⟩
      case round =>
        obtain ⟨m, A, hm, hA, rfl, rfl, hip, nq, rfl⟩ := hrel
        by_cases hlt : m < ts.length
        · have hdrop : ts.drop m = ts[m] :: ts.drop (m + 1) := List.drop_eq_getElem_cons hlt
          have hip2 := hip.out
          rw [hdrop] at hip2
          obtain ⟨a, n, hpl, htx, hn0, hle, hAa, hnext⟩ := hip2
          obtain ⟨c0, c1', c2⟩ := HROW.out m ts[m] (by simp [hlt])
          rw [hpl] at c1'
          rw [htx] at c2
          simp only [Nat.zero_add] at c0 c1' c2
          have hsz : (s.extract a (a + n)).size = n := by rw [size_extract _ _ _ hle]; omega
          have hd1 : decide ((a : Int) < (A : Int)) = false := decide_eq_false (by omega)
          have hd2 : ((n : Int) == 0) = false := by simpa using (show ¬ (n : Int) = 0 by omega)
          have hd3 : decide ((s.size : Int) < (a : Int)) = false := decide_eq_false (by omega)
          have hd4 : decide ((s.size : Int) - (a : Int) < (n : Int)) = false := decide_eq_false (by omega)
          have hd5 : decide (a < A) = false := decide_eq_false (by omega)
          have hd6 : decide (s.size < a) = false := decide_eq_false (by omega)
          have HNX : Hid (inPlace s (a + n) (ts.drop (m + 1))) := hnext
          clear hip hdrop hpl htx hnext
          go_wp2
          go_quiet (fail)
          go_wp2
          go_roundw
          case rel => exact ⟨m + 1, a + n, by omega, hle, by go_num, by go_num, HNX, _, rfl⟩
          case measure => simp [intOf]; omega
        · go_wp2
          go_ret
          exact ⟨rfl, below_drewN hbel _⟩
  · obtain rfl : ts = [] := hno her
    have hne : (er != 0) = true := by simpa using her
    clear hno hin her
    go_enter Try.func6, Try.ntmps6
    go_wp2_with fail
    refine (scan_all s HS.out _).mono ?_
    rintro e w1 ⟨v, rfl, hown, hb1⟩
    rw [HR.out] at hown ⊢
    obtain ⟨a1, c1, rfl⟩ := own_form hown
    clear hown
    go_wp2_with fail
    refine (begun_any _).mono ?_
    rintro e w3 ⟨rfl, hb3⟩
    have hbel : Below w.heap.size w w3 := hb1.trans (hb3.mono hb1.size)
    go_wp2
    go_ret
    exact ⟨rfl, hbel⟩

theorem places_own : ownKnob Try.prog.godebug = none := by kernel_rfl
theorem places_laidOut : laidOutB Try.prog = true := by kernel_rfl
set_option maxRecDepth 100000 in
theorem places_lifted (os : Os) (started : os.Started) (H : Type) (enc : TypeId × Value → H) :
    ReturnsInHanded {} Try.checked os 6 .any (Rows.tokenPlacesSpec.pre6 enc Try.prog Try.f6 Rows.tokenPlacesRow.domain false) (Rows.tokenPlacesSpec.post enc Try.prog Try.f6 false true false false) := by
  refine returnsInHanded_of_change (C := Try.checked) places_own started (by kernel_rfl) Try.func6
    (ChangeSpec.witness6 (enc := enc) (C := Try.checked) false ⟨#[], #[.string ByteArray.empty], []⟩ 8 (by kernel_rfl) (by kernel_rfl) (by kernel_rfl) (by kernel_rfl)) ?_
  intro W base args ds gs before hval0 hW hcnd _
  have hval : ∀ (j : Nat) t v, Try.f6.params[j]? = some t → args[j]? = some v → Value.okWide Try.prog W .any base t v := hval0
  have hW' := hW
  obtain ⟨p, q, hA0, hV, rfl, hfz, hnd⟩ := hW
  have hA : DataW.TrodAll enc Try.prog W 0 (fun _ => true) true Try.f6.params.toList args.toList ds p := hA0
  rw [Try.params6] at hA hval
  obtain ⟨v0, vs0, d0, ds0, p0, q0, hargs, rfl, rfl, h0, r0⟩ := trodAll_cons hA
  obtain ⟨rfl, rfl, rfl⟩ := trodAll_nil r0
  obtain rfl : args = #[v0] := by cases args; simp_all
  obtain ⟨rfl, rfl⟩ := trodVars_none hV
  obtain ⟨a0, rfl, rfl, rfl, w0⟩ := open_string Try.underlying9 (hval 0 9 v0 rfl rfl) h0
  clear hA0 hval0
  refine (places_walk a0 w0 W).mono fun e W' ⟨he, bel⟩ => ?_
  subst he
  exact ⟨_, rfl, _, _, _, [], _, [], hW', trodAll_mk1 (shut_bool Try.underlying4 _), (trodAll_cons_mk (shut_string Try.underlying9 w0) trodAll_mk0), rfl, bel.frame _, fun h => by cases h⟩

theorem tokenPlaces_holds : Rows.TokenPlacesSaid :=
  OpenClaim.holds_of_wide 6 Try.f6 rfl rfl rfl rfl rfl rfl rfl ⟨rfl, rfl, rfl, rfl, rfl⟩ rfl rfl rfl rfl rfl (by kernel_rfl) Try.func6 (by kernel_rfl)
    (of_decide_eq_true (by kernel_rfl)) (by unfold Func.isWrapper; first | (rw [if_pos (by decide +kernel)]; kernel_rfl) | (rw [if_neg (by decide +kernel)]; exact ⟨rfl, rfl⟩))
    (fun os started H enc _ => places_lifted os started H enc)
#print axioms tokenPlaces_holds
end Go.Proofs.Ytjbeggebnededaa
