/-
  WALKS: Scan and ScanOf at every text; SameTokens where it must say yes.
-/
import Derived.Test.YtjbeggebnededaaTokF
import Derived.Deep.QuietTactic
import Derived.BigQuiet
namespace Go.Proofs.Ytjbeggebnededaa
open Go.RowKit

set_option maxHeartbeats 400000 in
set_option maxRecDepth 100000 in
theorem scan_all (s : ByteArray) (hs : s.size ≤ maxLen) (w : World) :
    Calls Try.prog 9 #[.string s] w fun e w' => ∃ v, e = .returned (.tuple #[v, .int .i64 (scanOf s).2.1, .int .i64 (scanOf s).2.2]) ∧
      w'.ownsRow w.heap.size 34 3 v (scanOf s).1.length (toksCells (scanOf s).1) ∧ Below w.heap.size w w' := by
  by_cases h : s.size ≤ 4000
  · exact scan_any s h w
  · unfold maxLen at hs
    have hR : scanOf s = ([], 0, 2) := by unfold scanOf; rw [if_pos (by omega)]
    rw [hR]
    clear hR
    go_enter Try.func9, Try.ntmps9
    go_wp2
    go_ret3
    exact ⟨_, rfl, World.ownsRow_nil _ _ _ _, Below.refl _ _⟩
set_option maxHeartbeats 400000 in
set_option maxRecDepth 100000 in
theorem rscan_all (s : ByteArray) (hs : s.size ≤ maxLen) (w : World) :
    Calls Try.prog 10 #[.string s] w fun e w' => ∃ v, e = .returned (.tuple #[v, .int .i64 (scanOf s).2.1, .int .i64 (scanOf s).2.2]) ∧
      w'.ownsRow w.heap.size 34 3 v (scanOf s).1.length (toksCells (scanOf s).1) ∧ Below w.heap.size w w' := by
  by_cases h : s.size ≤ 4000
  · exact rscan_any s h w
  · unfold maxLen at hs
    have hR : scanOf s = ([], 0, 2) := by unfold scanOf; rw [if_pos (by omega)]
    rw [hR]
    clear hR
    go_enter Try.func10, Try.ntmps10
    go_wp2
    go_ret3
    exact ⟨_, rfl, World.ownsRow_nil _ _ _ _, Below.refl _ _⟩

theorem drewN_drewN (w : World) (a b : Nat) : (w.drewN a).drewN b = w.drewN (a + b) := by
  unfold World.drewN; simp only [Nat.add_assoc]

/-- The tokens that lie from a place on, three cells each. -/
def tokRow (w : World) (b off : Nat) (ts : List Tok) : Prop :=
  ∀ (i : Nat) (t : Tok), ts[i]? = some t → w.cell? ⟨b, off + i * 3, none⟩ = some (.int .i64 t.kind) ∧ w.cell? ⟨b, off + i * 3 + 1, none⟩ = some (.int .i64 t.place) ∧ w.cell? ⟨b, off + i * 3 + 2, none⟩ = some (.string t.text)

set_option maxHeartbeats 800000 in
set_option maxRecDepth 100000 in
theorem same_true (ts us : List Tok) (b off c b' off' c' : Nat) (w : World) (hlen : ts.length = us.length) (hmax : ts.length ≤ maxLen)
    (h1 : tokRow w b off ts) (h2 : tokRow w b' off' us)
    (hk : ∀ (i : Nat) (t u : Tok), ts[i]? = some t → us[i]? = some u → t.kind = u.kind ∧ t.text = u.text ∧ t.place = u.place) :
    Calls Try.prog 12 #[.slice (some ⟨b, off, none⟩) ts.length c, .slice (some ⟨b', off', none⟩) us.length c', .bool true] w fun e w' => e = .returned (.bool true) ∧ ∃ n, w' = w.drewN n := by
  unfold maxLen at hmax
  rw [← hlen]
  have HLEN : Hid (ts.length = us.length) := hlen
  clear hlen
  go_enter Try.func12, Try.ntmps12
  go_wp2_with fail
  go_loopw [7] (fun i wr => ∃ m : Nat, m ≤ ts.length ∧ i = .int .i64 m ∧ ∃ n, wr = w.drewN n) (fun i _ => ts.length - (intOf i).toNat)
  case atStart => exact ⟨0, by omega, rfl, 0, rfl⟩
  case round =>
    obtain ⟨m, hm, rfl, nq, rfl⟩ := hrel
    by_cases hlt : m < ts.length
    · obtain ⟨t, ht⟩ : ∃ t, ts[m]? = some t := ⟨ts[m], by simp [hlt]⟩
      obtain ⟨u, hu⟩ : ∃ u, us[m]? = some u := ⟨us[m]'(by rw [← HLEN.out]; exact hlt), by simp⟩
      obtain ⟨c0, c1, c2⟩ := h1 m t ht
      obtain ⟨d0, d1, d2⟩ := h2 m u hu
      obtain ⟨e0, e2, e1⟩ := hk m t u ht hu
      rw [← e0] at d0; rw [← e1] at d1; rw [← e2] at d2
      clear h1 h2 hk ht hu e0 e1 e2
      go_wp2
      go_quiet (fail)
      go_wp2
      go_roundw
      case rel => exact ⟨m + 1, by omega, by go_num, _, rfl⟩
      case measure => simp [intOf]; omega
    · go_wp2
      go_ret
      exact ⟨rfl, _, rfl⟩
set_option maxHeartbeats 800000 in
set_option maxRecDepth 100000 in
theorem same_but (ts us : List Tok) (b off c b' off' c' : Nat) (w : World) (hlen : ts.length = us.length) (hmax : ts.length ≤ maxLen)
    (h1 : tokRow w b off ts) (h2 : tokRow w b' off' us)
    (hk : ∀ (i : Nat) (t u : Tok), ts[i]? = some t → us[i]? = some u → t.kind = u.kind ∧ t.text = u.text) :
    Calls Try.prog 12 #[.slice (some ⟨b, off, none⟩) ts.length c, .slice (some ⟨b', off', none⟩) us.length c', .bool false] w fun e w' => e = .returned (.bool true) ∧ ∃ n, w' = w.drewN n := by
  unfold maxLen at hmax
  rw [← hlen]
  have HLEN : Hid (ts.length = us.length) := hlen
  clear hlen
  go_enter Try.func12, Try.ntmps12
  go_wp2_with fail
  go_loopw [7] (fun i wr => ∃ m : Nat, m ≤ ts.length ∧ i = .int .i64 m ∧ ∃ n, wr = w.drewN n) (fun i _ => ts.length - (intOf i).toNat)
  case atStart => exact ⟨0, by omega, rfl, 0, rfl⟩
  case round =>
    obtain ⟨m, hm, rfl, nq, rfl⟩ := hrel
    by_cases hlt : m < ts.length
    · obtain ⟨t, ht⟩ : ∃ t, ts[m]? = some t := ⟨ts[m], by simp [hlt]⟩
      obtain ⟨u, hu⟩ : ∃ u, us[m]? = some u := ⟨us[m]'(by rw [← HLEN.out]; exact hlt), by simp⟩
      obtain ⟨c0, c1, c2⟩ := h1 m t ht
      obtain ⟨d0, d1, d2⟩ := h2 m u hu
      obtain ⟨e0, e2⟩ := hk m t u ht hu
      rw [← e0] at d0; rw [← e2] at d2
      clear h1 h2 hk ht hu e0 e2
      go_wp2
      go_quiet (fail)
      go_wp2
      go_roundw
      case rel => exact ⟨m + 1, by omega, by go_num, _, rfl⟩
      case measure => simp [intOf]; omega
    · go_wp2
      go_ret
      exact ⟨rfl, _, rfl⟩
set_option maxHeartbeats 400000 in
theorem same_nil (a a' : Option Addr) (c c' : Nat) (q : Bool) (w : World) :
    Calls Try.prog 12 #[.slice a 0 c, .slice a' 0 c', .bool q] w fun e w' => e = .returned (.bool true) ∧ ∃ n, w' = w.drewN n := by
  go_enter Try.func12, Try.ntmps12
  go_wp2_with fail
  go_loopw [7] (fun i wr => i = .int .i64 0 ∧ wr = w) (fun _ _ => 0)
  case atStart => exact ⟨rfl, rfl⟩
  case round =>
    obtain ⟨rfl, rfl⟩ := hrel
    go_wp2
    go_ret
    exact ⟨rfl, 0, rfl⟩
end Go.Proofs.Ytjbeggebnededaa
