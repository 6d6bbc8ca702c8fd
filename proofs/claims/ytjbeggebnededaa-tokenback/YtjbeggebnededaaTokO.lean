/-
  A list of tokens that came in, opened; Join and JoinOf at a list without elements.
-/
import Derived.Test.YtjbeggebnededaaTokN
import Derived.Test.YtjbeggebnededaaTokK
import Derived.ProofKit
import Derived.OpenShut
import Derived.ShutString
import Derived.ChangeOld
import Derived.Below
import Derived.SizedLaws
import Derived.Deep.Slices
import Derived.Deep.Strs
namespace Go.Proofs.Ytjbeggebnededaa
open Go.ChangeShapes Go.WideShapes Go.ChangeAt Go.RowKit Go.Deep
open Go.ChangeMaps (open_string shut_string)

theorem row_below {w w' : World} {b off : Nat} {ts : List Tok} (h : tokRow w b off ts) (hb : b < w.heap.size) (hbel : Below w.heap.size w w') : tokRow w' b off ts := by
  intro i t ht
  obtain ⟨c0, c1, c2⟩ := h i t ht
  exact ⟨(hbel.cell (p := ⟨b, off + i * 3, none⟩) hb).trans c0, (hbel.cell (p := ⟨b, off + i * 3 + 1, none⟩) hb).trans c1, (hbel.cell (p := ⟨b, off + i * 3 + 2, none⟩) hb).trans c2⟩

/-- What a walk is told of a list of tokens that came in. -/
def TokArg (w : World) (v : Value) (ts : List Tok) : Prop :=
  (ts = [] ∧ ∃ a c, v = .slice a 0 c) ∨ ∃ b off c, v = .slice (some ⟨b, off, none⟩) ts.length c ∧ b < w.heap.size ∧ tokRow w b off ts ∧ (∀ t ∈ ts, t.text.size ≤ maxLen)

theorem Try.cellsTok : Try.prog.cellsOf 34 = 3 := by kernel_rfl
theorem Try.cellsInt : Try.prog.cellsOf 3 = 1 := by kernel_rfl
theorem Try.cellsStr : Try.prog.cellsOf 9 = 1 := by kernel_rfl

section
variable {H : Type} {enc : TypeId × Value → H} {w : World} {base : Nat} {spare : Nat → Bool} {held : Bool}

set_option maxRecDepth 100000 in
theorem one_tok {n : Nat} {cs : List Value} {x : DataW H × List MemPlace} (h : DataW.trod enc Try.prog w base spare held n 34 cs = some x) :
    ∃ t : Tok, cs = tokCells t ∧ t.text.size ≤ maxLen := by
  obtain ⟨y0, y1, y2, m, _, hl, h0, h1, h2⟩ := trod_struct3 Try.underlying34 h
  rw [Try.cellsTok] at hl
  obtain ⟨k, hk, _, _⟩ := DataW.trod_int Try.underlying3 h0
  obtain ⟨p, hp, _, _⟩ := DataW.trod_int Try.underlying3 h1
  obtain ⟨s, hs, _, hsz⟩ := DataW.trod_string Try.underlying9 h2
  match cs, hl with
  | [c0, c1, c2], _ =>
    change List.take (Try.prog.cellsOf 3) [c0, c1, c2] = _ at hk
    change List.take (Try.prog.cellsOf 3) [c1, c2] = _ at hp
    change List.take (Try.prog.cellsOf 9) [c2] = _ at hs
    rw [Try.cellsInt] at hk hp
    rw [Try.cellsStr] at hs
    simp at hk hp hs
    exact ⟨⟨k, p, s⟩, by rw [hk, hp, hs]; rfl, hsz⟩

theorem open_toks {fuel : Nat} {cs : List Value} {x : DataW H × List MemPlace} (h : DataW.trod enc Try.prog w base spare held fuel 22 cs = some x) :
    ∃ v ts, cs = [v] ∧ TokArg w v ts ∧ ((ts = []) ∨ ∃ els sp, x.1 = .slice els sp ∧ els.length = ts.length) := by
  rcases open_slice Try.underlying22 h with ⟨hcs, _⟩ | ⟨a, len, cap, m, n, D, Pl, hcs, _, hl, _, hmm, hx, hel⟩
  · exact ⟨_, [], hcs, Or.inl ⟨rfl, _, _, rfl⟩, Or.inl rfl⟩
  · have hlm : len ≤ m := by rw [hmm]; split <;> omega
    have each : ∀ i, i < len → ∃ t : Tok, t.text.size ≤ maxLen ∧ ∀ j u, (tokCells t)[j]? = some u → w.cell? (a.add (i * 3 + j)) = some u := by
      intro i hi
      obtain ⟨cs', hc, ht⟩ := hel i (by omega)
      obtain ⟨t, rfl, hsz⟩ := one_tok ht
      refine ⟨t, hsz, fun j u hj => ?_⟩
      obtain ⟨_, hlen, hcell⟩ := World.cells?_some hc
      have hj3 : j < (tokCells t).length := (List.getElem?_eq_some_iff.1 hj).1
      have := hcell j (by rw [hlen] at hj3; exact hj3)
      rw [Try.cellsTok, add_add] at this
      rw [this]; exact hj
    have hinh : Inhabited Tok := ⟨⟨0, 0, ByteArray.empty⟩⟩
    obtain ⟨f, hf⟩ := choose_lt each
    refine ⟨_, (List.range len).map f, hcs, ?_, Or.inr ⟨_, _, by rw [hx], by simp⟩⟩
    have hget : ∀ (i : Nat) (t : Tok), ((List.range len).map f)[i]? = some t → i < len ∧ t = f i := by
      intro i t ht
      have hi : i < len := by have := (List.getElem?_eq_some_iff.1 ht).1; simpa using this
      simp [hi] at ht
      exact ⟨hi, ht.symm⟩
    by_cases h0 : len = 0
    · subst h0; exact Or.inl ⟨by simp, _, _, rfl⟩
    · right
      have h00 := (hf 0 (by omega)).2 0 _ rfl
      have hspot : a.spot = none := by simpa [Addr.add] using World.cell?_spot h00
      have hblk : a.block < w.heap.size := by simpa [Addr.add] using World.block_lt_of_cell? w _ h00
      obtain ⟨b, off, spot⟩ := a
      simp only at hspot hblk
      subst hspot
      refine ⟨b, off, cap, by simp, hblk, ?_, ?_⟩
      · intro i t ht
        obtain ⟨hi, rfl⟩ := hget i t ht
        have hc := (hf i hi).2
        refine ⟨?_, ?_, ?_⟩
        · have := hc 0 _ rfl; rwa [add_plain] at this
        · have := hc 1 _ rfl; rwa [add_plain, ← Nat.add_assoc] at this
        · have := hc 2 _ rfl; rwa [add_plain, ← Nat.add_assoc] at this
      · intro t ht
        obtain ⟨i, hi, rfl⟩ := List.mem_map.1 ht
        exact (hf i (List.mem_range.1 hi)).1
end

set_option maxHeartbeats 400000 in
set_option maxRecDepth 100000 in
theorem join_nil (a : Option Addr) (c : Nat) (w : World) :
    Calls Try.prog 13 #[.slice a 0 c] w fun e w' => e = .returned (.tuple #[.string (joinOf []).1, .int .i64 (joinOf []).2]) ∧ Below w.heap.size w w' := by
  have HR : Hid (joinOf [] = (⟨#[]⟩, 0)) := by show _ = _; rfl
  rw [HR.out]
  go_enter Try.func13, Try.ntmps13
  go_wp2_with fail
  go_loopw [4, 12] (fun z i wr => z = .int .i64 0 ∧ i = .int .i64 0 ∧ wr = w) (fun _ _ _ => 0)
  case atStart => exact ⟨rfl, rfl, rfl⟩
  case round =>
    obtain ⟨rfl, rfl, rfl⟩ := hrel
    go_wp2
    go_loopw [34] (fun i wq => i = .int .i64 0 ∧ wq = wr.alloc (.cells #[.pointer none, .slice none 0 0] 66)) (fun _ _ => 0)
    case atStart => exact ⟨rfl, rfl⟩
    case round =>
      obtain ⟨rfl, rfl⟩ := hrel
      go_wp2_with fail
      refine (bld_string wr.heap.size wr.heap.size [] _ (fresh_bld wr) (by simp)).mono ?_
      rintro e w1 ⟨rfl, h1, hb1, hk1⟩
      go_wp2
      go_ret2
      exact ⟨rfl, ((Below.refl _ _).alloc (Nat.le_refl _) _).trans hb1⟩

set_option maxHeartbeats 400000 in
set_option maxRecDepth 100000 in
theorem rjoin_nil (a : Option Addr) (c : Nat) (w : World) :
    Calls Try.prog 14 #[.slice a 0 c] w fun e w' => e = .returned (.tuple #[.string (joinOf []).1, .int .i64 (joinOf []).2]) ∧ ∃ n, w' = w.drewN n := by
  have HR : Hid (joinOf [] = (⟨#[]⟩, 0)) := by show _ = _; rfl
  rw [HR.out]
  go_enter Try.func14, Try.ntmps14
  go_wp2_with fail
  go_loopw [4, 5, 6] (fun s n i wr => s = .string ⟨#[]⟩ ∧ n = .int .i64 (-1) ∧ i = .int .i64 0 ∧ wr = w) (fun _ _ _ _ => 0)
  case atStart => exact ⟨rfl, rfl, rfl, rfl⟩
  case round =>
    obtain ⟨rfl, rfl, rfl, rfl⟩ := hrel
    go_wp2
    go_ret2
    exact ⟨rfl, 0, rfl⟩
end Go.Proofs.Ytjbeggebnededaa
