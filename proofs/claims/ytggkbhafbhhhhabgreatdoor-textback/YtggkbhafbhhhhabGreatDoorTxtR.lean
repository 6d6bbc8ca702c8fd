/-
  WALK: package text: the reader: model.
-/
import Derived.Test.YtggkbhafbhhhhabGreatDoorTxtQ
namespace Go.Proofs.YtggkbhafbhhhhabGreatDoor
open Go.RowKit

theorem bytes_empty {s : ByteArray} (h : s.data.toList = []) : s = ByteArray.empty := by
  cases s with
  | mk d =>
    have : d = #[] := by simpa using h
    rw [this]; rfl
theorem newvar_ne {en : Int} {l r : List Tok} {x : MVar} (h : newVarP en l = .ok x r) : x.name.data.toList ≠ [] := by
  unfold newVarP at h
  obtain ⟨_, q1, _, h2⟩ := PR.bind_ok h
  obtain ⟨n, q2, h3, h4⟩ := PR.bind_ok h2
  obtain ⟨_, _, _, h5⟩ := PR.bind_ok h4
  obtain ⟨_, _, _, h6⟩ := PR.bind_ok h5
  obtain ⟨_, _, _, h7⟩ := PR.bind_ok h6
  obtain ⟨_, _, _, h8⟩ := PR.bind_ok h7
  obtain ⟨_, _, _, h9⟩ := PR.bind_ok h8
  cases h9
  unfold newNameP at h3
  obtain ⟨t, q, h10, h11⟩ := PR.bind_ok h3
  cases h11
  unfold passP at h10
  split at h10
  · rename_i hb
    cases h10
    intro he
    have he2 : (headT en q1).text.data.toList = [] := he
    rw [bytes_empty he2, name_empty] at hb
    cases hb
  · cases h10
theorem eats_newName (en : Int) : Eats (newNameP en) := eats_pass en (fun l => nameB (headT en l).text) (fun t _ => t.text)
theorem newvar_len {en : Int} {l r : List Tok} {x : MVar} (h : newVarP en l = .ok x r) : r.length + 1 ≤ l.length := by
  unfold newVarP at h
  obtain ⟨_, q1, e1, h2⟩ := PR.bind_ok h
  obtain ⟨n, q2, e2, h4⟩ := PR.bind_ok h2
  obtain ⟨_, q3, e3, h5⟩ := PR.bind_ok h4
  obtain ⟨_, q4, e4, h6⟩ := PR.bind_ok h5
  obtain ⟨_, q5, e5, h7⟩ := PR.bind_ok h6
  obtain ⟨_, q6, e6, h8⟩ := PR.bind_ok h7
  obtain ⟨_, q7, e7, h9⟩ := PR.bind_ok h8
  cases h9
  have f1 := skip_len solid_var e1
  have f2 := eats_newName en _ _ _ e2
  have f3 := skip_len solid_col e3
  have f4 := eats_number en _ _ _ e4
  have f5 := skip_len solid_dots e5
  have f6 := eats_number en _ _ _ e6
  have f7 := skip_len solid_semi e7
  omega
theorem eats_bind {α β : Type} {p : List Tok → PR α} {f : α → List Tok → PR β} (hp : Eats p) (hf : ∀ a, Eats (f a)) : Eats fun l => (p l).bind f := by
  intro l x r h
  obtain ⟨a, q, h1, h2⟩ := PR.bind_ok h
  have e1 := hp l a q h1
  have e2 := hf a q x r h2
  omega
theorem eats_ok {α : Type} (a : α) : Eats fun l => .ok a l := by
  intro l x r h
  cases h
  exact Nat.le_refl _
theorem eats_body (en : Int) (names : List ByteArray) (k : Int) : Eats (bodyP en names k) := by
  have en1 := eats_read en _ (eats_number en)
  have en2 := eats_read en _ (eats_name en names)
  have en3 := eats_number en
  have en4 := eats_name en names
  unfold bodyP
  intro l
  split
  · exact eats_bind en1 (fun cs => eats_bind en2 fun vs => eats_bind en3 fun n => eats_ok _) l
  split
  · exact eats_bind en2 (fun vs => eats_ok _) l
  split
  · exact eats_bind en1 (fun cs => eats_bind en4 fun a => eats_bind en4 fun b => eats_ok _) l
  split
  · exact eats_bind en2 (fun cs => eats_bind (eats_read en _ en1) fun a => eats_ok _) l
  split
  · exact eats_bind en4 (fun cs => eats_bind en4 fun a => eats_bind en4 fun b => eats_ok _) l
  split
  · exact eats_bind en4 (fun cs => eats_bind en2 fun a => eats_ok _) l
  split
  · exact eats_bind (eats_read en _ (eats_lit en names)) (fun cs => eats_ok _) l
  split
  · exact eats_bind en4 (fun cs => eats_bind (eats_lit en names) fun a => eats_ok _) l
  · exact eats_ok _ l
theorem con_len {en : Int} {names : List ByteArray} {l r : List Tok} {x : MCon} (h : conP en names l = .ok x r) : r.length + 1 ≤ l.length := by
  unfold conP at h
  obtain ⟨_, q1, e1, h2⟩ := PR.bind_ok h
  obtain ⟨n, q2, e2, h4⟩ := PR.bind_ok h2
  obtain ⟨_, q3, e3, h5⟩ := PR.bind_ok h4
  obtain ⟨_, q4, e4, h6⟩ := PR.bind_ok h5
  cases h6
  have f1 := skip_len solid_con e1
  have f2 := eats_oneOf en _ _ _ _ e2
  have f3 := eats_body en names _ _ _ _ e3
  have f4 := skip_len solid_semi e4
  omega
theorem Tryz.infoVar5 : (Tryz.prog.info? 47).map (fun i => (i.zero, i.size, i.bytes)) = some (some (.agg #[.string ⟨#[]⟩, .int .i64 0, .int .i64 0]), 3, 32) := by kernel_rfl
theorem Tryz.underVars5 : Tryz.prog.underlying 22 = some (.slice 47) := by kernel_rfl
theorem Tryz.infoCon5 : (Tryz.prog.info? 54).map (fun i => (i.zero, i.size, i.bytes)) = some (some (.agg #[.int .i64 0, .slice none 0 0, .slice none 0 0, .int .i64 0, .slice none 0 0, .slice none 0 0]), 6, 112) := by kernel_rfl
theorem Tryz.underCons5 : Tryz.prog.underlying 23 = some (.slice 54) := by kernel_rfl
theorem one_laidV (w : World) (z : MVar) : ∀ (j : Nat) (u : Value), (varC z)[j]? = some u → (w.alloc (.cells #[.string z.name, .int .i64 z.lo, .int .i64 z.hi] 47)).cell? ((⟨w.heap.size, 0, none⟩ : Addr).add j) = some u := by
  intro j u hj
  match j, hj with
  | 0, hj => simp [varC] at hj; subst hj; simp [Addr.add]
  | 1, hj => simp [varC] at hj; subst hj; simp [Addr.add]
  | 2, hj => simp [varC] at hj; subst hj; simp [Addr.add]
theorem one_laidC (w : World) (vv vc vr vl : Value) (z : MCon) : ∀ (j : Nat) (u : Value), (conC vv vc vr vl z)[j]? = some u → (w.alloc (.cells #[.int .i64 z.kind, vv, vc, .int .i64 z.n, vr, vl] 54)).cell? ((⟨w.heap.size, 0, none⟩ : Addr).add j) = some u := by
  intro j u hj
  match j, hj with
  | 0, hj => simp [conC] at hj; subst hj; simp [Addr.add]
  | 1, hj => simp [conC] at hj; subst hj; simp [Addr.add]
  | 2, hj => simp [conC] at hj; subst hj; simp [Addr.add]
  | 3, hj => simp [conC] at hj; subst hj; simp [Addr.add]
  | 4, hj => simp [conC] at hj; subst hj; simp [Addr.add]
  | 5, hj => simp [conC] at hj; subst hj; simp [Addr.add]
end Go.Proofs.YtggkbhafbhhhhabGreatDoor
