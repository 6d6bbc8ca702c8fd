/-
  PART 4 of what the proof leans on (TxtG, TxtH, TxtI, TxtJ, RefI, RfPlain, RfA, TokD, TokE).
-/
import Derived.Test.YtdjbejlbmaiocabGreatDoorPartC
import Derived.Deep.QuietTactic
import Derived.BigQuiet
/-
  WALK: package text: readList of literals.
-/
namespace Go.Proofs.YtdjbejlbmaiocabGreatDoor
open Go.RowKit

def litA (l : MLit) : Value := .agg #[.int .i64 l.var, .int .i64 l.op, .int .i64 l.n]
def litC (l : MLit) : List Value := [.int .i64 l.var, .int .i64 l.op, .int .i64 l.n]
theorem litC_one (l : MLit) : ∀ u ∈ litC l, u.oneCell' = true := by
  intro u hu
  simp only [litC, List.mem_cons, List.not_mem_nil, or_false] at hu
  rcases hu with rfl | rfl | rfl <;> rfl
theorem one_laidL (w : World) (z : MLit) : ∀ (j : Nat) (u : Value), (litC z)[j]? = some u → (w.alloc (.cells #[.int .i64 z.var, .int .i64 z.op, .int .i64 z.n] 76)).cell? ((⟨w.heap.size, 0, none⟩ : Addr).add j) = some u := by
  intro j u hj
  match j, hj with
  | 0, hj => simp [litC] at hj; subst hj; simp [Addr.add]
  | 1, hj => simp [litC] at hj; subst hj; simp [Addr.add]
  | 2, hj => simp [litC] at hj; subst hj; simp [Addr.add]
theorem Tryz.infoLit5 : (Tryz.prog.info? 76).map (fun i => (i.zero, i.size, i.bytes)) = some (some (.agg #[.int .i64 0, .int .i64 0, .int .i64 0]), 3, 24) := by kernel_rfl
theorem Tryz.underLits5 : Tryz.prog.underlying 52 = some (.slice 76) := by kernel_rfl
set_option maxHeartbeats 3200000 in
set_option maxRecDepth 100000 in
theorem readlits_any (N R M : Nat) (en : Int) (F : Nat) (item : List Tok → PR MLit) (I : World → Prop) (hE : Eats item) (B : Nat) (hI : Item B N R M en F item (fun i v _ => v = litA i) I) (w : World) (hBw : B ≤ w.heap.size) (l : List Tok) (h : Rd N R M en w l) (hi0 : I w) (hl : l.length ≤ 4000) :
    Calls Tryz.prog 120 #[.pointer (some ⟨R, 0, none⟩), .func (.func F) #[.pointer (some ⟨R, 0, none⟩)] #[]] w
      (PostR (readP en item l) (fun xs v w' => w'.ownsRow w.heap.size 76 3 v xs.length (xs.flatMap litC) ∧ I w') N R M en (fun k => k = R) w) := by
  have HB : Hid (Rd N R M en w l) := h
  have HI0 : Hid (I w) := hi0
  have HIT : Hid (Item B N R M en F item (fun i v _ => v = litA i) I) := hI
  have HE : Hid (Eats item) := hE
  have hRw : R < w.heap.size := by obtain ⟨_, _, hR, _⟩ := h; exact (Array.getElem?_eq_some_iff.1 hR).1
  have HX : Hid (∀ k, (fun k => k = R) k → k < w.heap.size) := fun k hk => by subst hk; exact hRw
  obtain ⟨i0, hi, hz0, hz1, hz2⟩ := info_parts Tryz.infoLit5
  obtain ⟨P, hP⟩ : ∃ P, readP en item l = P := ⟨_, rfl⟩
  have HP : Hid (readP en item l = P) := hP
  rw [hP]
  clear hP h hi0 hI hE
  go_enter Tryz.func120, Tryz.ntmps120
  go_wp2_with fail
  refine (rskip_any N R M en ⟨#[91]⟩ solid_open w l HB.out).mono ?_
  intro e w1 hp
  cases hs : skipP en ⟨#[91]⟩ l with
  | bad x er =>
    rw [hs] at hp
    obtain ⟨rfl, hfr⟩ := hp
    have HPB : Hid (P = .bad x er) := by show _ = _; rw [← HP.out]; unfold readP; rw [hs]; rfl
    clear hs
    go_wp2
    exact ⟨rfl, by rw [HPB.out]; exact ⟨rfl, hfr⟩⟩
  | ok t q =>
    rw [hs] at hp
    obtain ⟨v, rfl, rfl, hrd, hfr⟩ := hp
    have HRD : Hid (Rd N R M en w1 q) := hrd
    have HFR : Hid (Fr (fun k => k = R) w w1) := hfr
    have hql : q.length + 1 = l.length := skip_len solid_open hs
    have HQL : Hid (q.length + 1 = l.length) := hql
    have HP1 : Hid (P = if (headT en q).text.toList == [93] then (skipP en ⟨#[93]⟩ q).bind fun _ l => .ok [] l else (item q).bind fun x l => moreP en item (l.length + 1) [x] l) := by
      show _ = _; rw [← HP.out]; unfold readP; rw [hs]; rfl
    have hf2 := tokF2 (headT en q)
    clear hs hrd hfr HP hql
    go_wp2_with fail
    refine (ahead_any N R M en _ q HRD.out).mono ?_
    rintro e w2 ⟨rfl, hb2⟩
    have HR2 : Hid (Rd N R M en w2 q) := HRD.out.below hb2
    have HF2 : Hid (Fr (fun k => k = R) w w2) := HFR.out.trans (Fr.below hb2)
    unfold tokA
    clear hb2
    cases hq : ((headT en q).text.toList == [93])
    · have HP2 : Hid (P = (item q).bind fun x l => moreP en item (l.length + 1) [x] l) := by show _ = _; rw [HP1.out, hq]; rfl
      have HI2 : Hid (I w2) := HIT.out.2.1 _ _ HI0.out (HF2.out.weak fun k hk => Or.inl hk)
      clear HP1
      go_wp2_with fail
      rw [HIT.out.1, Oper.upon_enter]
      refine (HIT.out.2.2 w2 q HR2.out HI2.out).mono ?_
      intro e w3 hp
      cases hit : item q with
      | bad x er =>
        rw [hit] at hp
        obtain ⟨rfl, hfr⟩ := hp
        have hfr2 := HF2.out.trans hfr
        have HPB : Hid (P = .bad x er) := by show _ = _; rw [HP2.out, hit]; rfl
        clear hit hq hfr
        go_wp2
        exact ⟨rfl, by rw [HPB.out]; exact ⟨rfl, hfr2⟩⟩
      | ok x r =>
        rw [hit] at hp
        obtain ⟨v, rfl, rfl, hrd, hfr⟩ := hp
        unfold litA
        have HR3 : Hid (Rd N R M en w3 r) := hrd
        have HF3 : Hid (Fr (fun k => k = R) w w3) := HF2.out.trans hfr
        have HI3 : Hid (I w3) := HIT.out.2.1 _ _ HI2.out (hfr.weak fun k hk => Or.inl hk)
        have HRL : Hid (r.length ≤ q.length) := HE.out q x r hit
        have HP3 : Hid (P = moreP en item (r.length + 1) [x] r) := by show _ = _; rw [HP2.out, hit]; rfl
        have hsz3 : w.heap.size ≤ w3.heap.size := HF3.out.size
        clear hit hrd hfr hq hf2 HP2
        go_wp2_with (at_builtin; refine wpList_append_own _ rfl _ _ 52 rfl w.heap.size 76 i0 (.agg #[.int .i64 0, .int .i64 0, .int .i64 0]) 3 24 Tryz.underLits5 hi hz0 hz1 hz2 rfl (by decide) _ _ _ rfl (World.ownsRow_nil _ _ _ _) ⟨w3.heap.size, 0, none⟩ 1 1 (litC x) rfl rfl ?c1 ?c2 ?c3 ?c4 ?c5 ?_)
        case c1 => exact one_laidL w3 x
        case c2 => exact litC_one x
        case c3 => unfold maxLen; omega
        case c4 => omega
        case c5 => simp; omega
        intro v5 w5 hown5 hg5 _
        have HR5 : Hid (Rd N R M en w5 r) := (HR3.out.below (below_alloc _ _)).grown hg5 (fun k hk => by cases hk)
        have HF5 : Hid (Fr (fun k => k = R) w w5) := (HF3.out.alloc _).grown hg5 (fun k hk => by cases hk)
        have HI5 : Hid (I w5) := HIT.out.2.1 _ _ HI3.out (((Fr.refl _ _).alloc _).grown hg5 (fun k hk => by cases hk))
        have HO5 : Hid (w5.ownsRow w.heap.size 76 3 v5 [x].length ([x].flatMap litC)) := by unfold Hid; simpa using hown5
        clear hown5 hg5
        go_wp2_with fail
        go_loopw [5] (fun v wr => ∃ (f : Nat) (acc : List MLit) (q : List Tok), Hid (P = moreP en item f acc q) ∧ Hid (Rd N R M en wr q) ∧ Hid (I wr) ∧ Hid (wr.ownsRow w.heap.size 76 3 v acc.length (acc.flatMap litC)) ∧ Hid (Fr (fun k => k = R) w wr) ∧ q.length + 1 ≤ f ∧ acc.length + q.length ≤ 4000) (fun _ wr => leftT R wr)
        case atStart => exact ⟨_, [x], r, HP3, HR5, HI5, HO5, HF5, by omega, by have := HRL.out; have := HQL.out; simp; omega⟩
        case round =>
          obtain ⟨f, acc, q, HPM, HRM, HIM, HOM, HFM, hf, hlen⟩ := hrel
          obtain ⟨g, rfl⟩ : ∃ g, f = g + 1 := ⟨f - 1, by omega⟩
          have hf2 := tokF2 (headT en q)
          obtain ⟨av, cv, hv⟩ := own_form HOM.out
          subst hv
          have HCM : Hid ((⟨#[44]⟩ : ByteArray).toList = [44]) := by show _ = _; simp [go_sem]
          cases hc : ((headT en q).text.toList == [44])
          · have HPE : Hid (P = (skipP en ⟨#[93]⟩ q).bind fun _ l => .ok acc l) := by show _ = _; rw [HPM.out]; unfold moreP; rw [hc]; rfl
            go_wp2_with fail
            refine (ahead_any N R M en _ q HRM.out).mono ?_
            rintro e w6 ⟨rfl, hb6⟩
            have HR6 : Hid (Rd N R M en w6 q) := HRM.out.below hb6
            have HF6 : Hid (Fr (fun k => k = R) w w6) := HFM.out.trans (Fr.below hb6)
            have HI6 : Hid (I w6) := HIT.out.2.1 _ _ HIM.out (Fr.below hb6)
            have HO6 : Hid (w6.ownsRow w.heap.size 76 3 (.slice av acc.length cv) acc.length (acc.flatMap litC)) := own_below HOM.out hb6
            unfold tokA
            clear hb6
            go_wp2_with fail
            refine (rskip_any N R M en ⟨#[93]⟩ solid_close w6 q HR6.out).mono ?_
            intro e w7 hp
            cases hs : skipP en ⟨#[93]⟩ q with
            | bad x er =>
              rw [hs] at hp
              obtain ⟨rfl, hfr⟩ := hp
              have hfr2 := HF6.out.trans hfr
              have HPB : Hid (P = .bad x er) := by show _ = _; rw [HPE.out, hs]; rfl
              clear hs hc hfr
              go_wp2
              exact ⟨rfl, by rw [HPB.out]; exact ⟨rfl, hfr2⟩⟩
            | ok t q2 =>
              rw [hs] at hp
              obtain ⟨v, rfl, rfl, hrd, hfr⟩ := hp
              have hfr2 := HF6.out.trans hfr
              have HI7 : Hid (I w7) := HIT.out.2.1 _ _ HI6.out (hfr.weak fun k hk => Or.inl hk)
              have HO7 : Hid (w7.ownsRow w.heap.size 76 3 (.slice av acc.length cv) acc.length (acc.flatMap litC)) := own_fr HO6.out hfr HX.out
              have HPB : Hid (P = .ok acc q2) := by show _ = _; rw [HPE.out, hs]; rfl
              clear hs hc hfr
              go_wp2
              go_ret
              rw [HPB.out]
              exact ⟨_, rfl, ⟨HO7.out, HI7.out⟩, hrd, hfr2⟩
          · have hne := head_some en q ⟨#[44]⟩ solid_comma (by rw [HCM.out]; exact hc)
            have HSK : Hid (skipP en ⟨#[44]⟩ q = .ok (headT en q) q.tail) := by show _ = _; unfold skipP passP; rw [HCM.out, hc]; rfl
            obtain ⟨q2, hq2⟩ : ∃ q2, q.tail = q2 := ⟨_, rfl⟩
            have HQ2 : Hid (q.tail = q2) := hq2
            have hql2 : q2.length + 1 = q.length := by
              rw [← hq2]
              cases q with
              | nil => exact absurd rfl hne
              | cons a q => simp
            have HPE : Hid (P = (item q2).bind fun x l => moreP en item g (acc ++ [x]) l) := by show _ = _; rw [HPM.out, moreP, hc, if_pos rfl, HSK.out, ← hq2]; rfl
            clear hne hq2
            go_wp2_with fail
            refine (ahead_any N R M en _ q HRM.out).mono ?_
            rintro e w6 ⟨rfl, hb6⟩
            have HR6 : Hid (Rd N R M en w6 q) := HRM.out.below hb6
            have HF6 : Hid (Fr (fun k => k = R) w w6) := HFM.out.trans (Fr.below hb6)
            have HI6 : Hid (I w6) := HIT.out.2.1 _ _ HIM.out (Fr.below hb6)
            have HO6 : Hid (w6.ownsRow w.heap.size 76 3 (.slice av acc.length cv) acc.length (acc.flatMap litC)) := own_below HOM.out hb6
            unfold tokA
            clear hb6
            go_wp2_with fail
            refine (rskip_any N R M en ⟨#[44]⟩ solid_comma w6 q HR6.out).mono ?_
            intro e w7 hp
            rw [HSK.out] at hp
            obtain ⟨v, rfl, rfl, hrd, hfr⟩ := hp
            have HR7 : Hid (Rd N R M en w7 q2) := by rw [← HQ2.out]; exact hrd
            have HF7 : Hid (Fr (fun k => k = R) w w7) := HF6.out.trans hfr
            have HI7 : Hid (I w7) := HIT.out.2.1 _ _ HI6.out (hfr.weak fun k hk => Or.inl hk)
            have HO7 : Hid (w7.ownsRow w.heap.size 76 3 (.slice av acc.length cv) acc.length (acc.flatMap litC)) := own_fr HO6.out hfr HX.out
            clear hrd hfr hc hf2
            go_wp2_with fail
            rw [HIT.out.1, Oper.upon_enter]
            refine (HIT.out.2.2 w7 q2 HR7.out HI7.out).mono ?_
            intro e w8 hp
            cases hit : item q2 with
            | bad x er =>
              rw [hit] at hp
              obtain ⟨rfl, hfr⟩ := hp
              have hfr2 := HF7.out.trans hfr
              have HPB : Hid (P = .bad x er) := by show _ = _; rw [HPE.out, hit]; rfl
              clear hit hfr
              go_wp2
              exact ⟨rfl, by rw [HPB.out]; exact ⟨rfl, hfr2⟩⟩
            | ok x r =>
              rw [hit] at hp
              obtain ⟨v, rfl, rfl, hrd, hfr⟩ := hp
              unfold litA
              have HR8 : Hid (Rd N R M en w8 r) := hrd
              have HF8 : Hid (Fr (fun k => k = R) w w8) := HF7.out.trans hfr
              have HI8 : Hid (I w8) := HIT.out.2.1 _ _ HI7.out (hfr.weak fun k hk => Or.inl hk)
              have HO8 : Hid (w8.ownsRow w.heap.size 76 3 (.slice av acc.length cv) acc.length (acc.flatMap litC)) := own_fr HO7.out hfr HX.out
              have hrl : r.length ≤ q2.length := HE.out q2 x r hit
              have HPN : Hid (P = moreP en item g (acc ++ [x]) r) := by show _ = _; rw [HPE.out, hit]; rfl
              have hsz8 : w.heap.size ≤ w8.heap.size := HF8.out.size
              have hox := HO8.out.alloc (.cells #[.int .i64 x.var, .int .i64 x.op, .int .i64 x.n] 76)
              clear hit hrd hfr
              go_wp2_with (at_builtin; refine wpList_append_own _ rfl _ _ 52 rfl w.heap.size 76 i0 (.agg #[.int .i64 0, .int .i64 0, .int .i64 0]) 3 24 Tryz.underLits5 hi hz0 hz1 hz2 rfl (by decide) _ _ _ rfl hox ⟨w8.heap.size, 0, none⟩ 1 1 (litC x) rfl rfl ?c1 ?c2 ?c3 ?c4 ?c5 ?_)
              case c1 => exact one_laidL w8 x
              case c2 => exact litC_one x
              case c3 => unfold maxLen; omega
              case c4 => omega
              case c5 => simp; omega
              intro v9 w9 hown9 hg9 _
              have hrow : ∀ k, (Value.slice av acc.length cv).ownBlock = some k → w.heap.size ≤ k := fun k hk => (HO8.out.lt k hk).1
              have HR9 : Hid (Rd N R M en w9 r) := (HR8.out.below (below_alloc _ _)).grown hg9 (fun k hk => ⟨by have := hrow k hk; omega, by have := hrow k hk; have := HB.out.1.2.1; omega⟩)
              have HF9 : Hid (Fr (fun k => k = R) w w9) := (HF8.out.alloc _).grown hg9 (fun k hk => Or.inr (hrow k hk))
              have HI9 : Hid (I w9) := HIT.out.2.1 _ _ HI8.out (((Fr.refl _ _).alloc _).grown hg9 (fun k hk => Or.inl (Or.inr (by have := hrow k hk; omega))))
              have HO9 : Hid (w9.ownsRow w.heap.size 76 3 v9 (acc ++ [x]).length ((acc ++ [x]).flatMap litC)) := by
                unfold Hid; rw [List.length_append, List.flatMap_append]; simpa using hown9
              have HM9 : Hid (leftT R w9 < leftT R wr) := by show _ < _; rw [leftT_rd HR9.out, leftT_rd HRM.out]; omega
              clear hown9 hg9 hrow hox
              go_wp2
              go_roundw
              case rel => exact ⟨g, acc ++ [x], r, HPN, HR9, HI9, HO9, HF9, by omega, by simp; omega⟩
              case measure => exact HM9.out
    · have HP2 : Hid (P = (skipP en ⟨#[93]⟩ q).bind fun _ l => .ok [] l) := by show _ = _; rw [HP1.out, hq]; rfl
      have HI2 : Hid (I w2) := HIT.out.2.1 _ _ HI0.out (HF2.out.weak fun k hk => Or.inl hk)
      clear HP1
      go_wp2_with fail
      refine (rskip_any N R M en ⟨#[93]⟩ solid_close w2 q HR2.out).mono ?_
      intro e w7 hp
      cases hs : skipP en ⟨#[93]⟩ q with
      | bad x er =>
        rw [hs] at hp
        obtain ⟨rfl, hfr⟩ := hp
        have hfr2 := HF2.out.trans hfr
        have HPB : Hid (P = .bad x er) := by show _ = _; rw [HP2.out, hs]; rfl
        clear hs hq hfr
        go_wp2
        exact ⟨rfl, by rw [HPB.out]; exact ⟨rfl, hfr2⟩⟩
      | ok t q2 =>
        rw [hs] at hp
        obtain ⟨v, rfl, rfl, hrd, hfr⟩ := hp
        have hfr2 := HF2.out.trans hfr
        have HI7 : Hid (I w7) := HIT.out.2.1 _ _ HI2.out (hfr.weak fun k hk => Or.inl hk)
        have HPB : Hid (P = .ok [] q2) := by show _ = _; rw [HP2.out, hs]; rfl
        clear hs hq hfr
        go_wp2
        go_ret
        rw [HPB.out]
        exact ⟨_, rfl, ⟨World.ownsRow_nil _ _ _ _, HI7.out⟩, hrd, hfr2⟩
end Go.Proofs.YtdjbejlbmaiocabGreatDoor
/-
  WALK: package text: readList of rows of numbers.
-/
namespace Go.Proofs.YtdjbejlbmaiocabGreatDoor
open Go.RowKit

theorem one_laidR (w : World) (z : Value) : ∀ (j : Nat) (u : Value), [z][j]? = some u → (w.alloc (.cells #[z] 50)).cell? ((⟨w.heap.size, 0, none⟩ : Addr).add j) = some u := by
  intro j u hj
  match j, hj with
  | 0, hj => simp at hj; subst hj; simp [Addr.add]
theorem Tryz.infoRow5 : (Tryz.prog.info? 50).map (fun i => (i.zero, i.size, i.bytes)) = some (some (.slice none 0 0), 1, 24) := by kernel_rfl
theorem Tryz.underRows5 : Tryz.prog.underlying 51 = some (.slice 50) := by kernel_rfl
/-- Two lists of other things lie apart. -/
theorem row_apart {w : World} {b1 b2 n1 n2 : Nat} {x v : Value} {xs vs : List Value} (h : w.ownsRow b1 3 1 x n1 xs) (k : w.ownsRow b2 50 1 v n2 vs) : x.ownBlock = none ∨ x.ownBlock ≠ v.ownBlock := by
  rcases h.2 with ⟨rfl, _⟩ | ⟨g, cap, cur, rfl, _, hg, _⟩
  · exact Or.inl rfl
  · refine Or.inr fun e => ?_
    rcases k.2 with ⟨rfl, _⟩ | ⟨g', cap', cur', rfl, _, hg', _⟩
    · cases e
    · have : g = g' := Option.some.inj e
      subst this
      rw [hg] at hg'
      have h1 : (3 : TypeId) = 50 := by injection hg' with h2; injection h2
      exact absurd h1 (by decide)
/-- Rows that are being gathered. -/
def LSr (B base : Nat) (w : World) (v : Value) (acc : List (List Int)) : Prop :=
  ∃ cells, w.ownsRow base 50 1 v acc.length cells ∧ ∀ (i : Nat) (r : List Int), acc[i]? = some r → ∃ x, cells[i]? = some x ∧ w.ownsRow B 3 1 x r.length (r.map (Value.int .i64))
theorem LSr.none (B base : Nat) (w : World) : LSr B base w (.slice Option.none 0 0) [] := ⟨[], World.ownsRow_nil _ _ _ _, fun i r h => by simp at h⟩
theorem LSr.form {B base : Nat} {w : World} {v : Value} {acc : List (List Int)} (h : LSr B base w v acc) : ∃ a c, v = .slice a acc.length c := by
  obtain ⟨cells, h1, _⟩ := h
  exact own_form h1
theorem LSr.below {B base : Nat} {w w' : World} {v : Value} {acc : List (List Int)} (h : LSr B base w v acc) (hb : Below w.heap.size w w') : LSr B base w' v acc := by
  obtain ⟨cells, h1, h2⟩ := h
  refine ⟨cells, own_below h1 hb, fun i r hr => ?_⟩
  obtain ⟨x, hx, ho⟩ := h2 i r hr
  exact ⟨x, hx, own_below ho hb⟩
theorem LSr.fr {X : Nat → Prop} {B base : Nat} {w w' : World} {v : Value} {acc : List (List Int)} (h : LSr B base w v acc) (hf : Fr X w w') (hX : ∀ k, X k → k < base) (hXB : ∀ k, X k → k < B) : LSr B base w' v acc := by
  obtain ⟨cells, h1, h2⟩ := h
  refine ⟨cells, own_fr h1 hf hX, fun i r hr => ?_⟩
  obtain ⟨x, hx, ho⟩ := h2 i r hr
  exact ⟨x, hx, own_fr ho hf hXB⟩
theorem LSr.first {B base : Nat} {w : World} {v xv : Value} {x : List Int} (h : w.ownsRow base 50 1 v (0 + 1) ([] ++ [xv])) (hx : w.ownsRow B 3 1 xv x.length (x.map (Value.int .i64))) : LSr B base w v [x] := by
  refine ⟨[xv], h, fun i r hr => ?_⟩
  match i, hr with
  | 0, hr => cases hr; exact ⟨xv, rfl, hx⟩
theorem LSr.push {B base : Nat} {w w' : World} {v v' xv : Value} {x : List Int} {acc : List (List Int)} {cells : List Value} {o : Obj} (h : w.ownsRow base 50 1 v acc.length cells)
    (hc : ∀ (i : Nat) (r : List Int), acc[i]? = some r → ∃ x, cells[i]? = some x ∧ w.ownsRow B 3 1 x r.length (r.map (Value.int .i64))) (hx : w.ownsRow B 3 1 xv x.length (x.map (Value.int .i64)))
    (h' : w'.ownsRow base 50 1 v' (acc.length + 1) (cells ++ [xv])) (hg : (w.alloc o).grownBy w' v.ownBlock) : LSr B base w' v' (acc ++ [x]) := by
  have hlen : cells.length = acc.length := by have := h.1; omega
  refine ⟨cells ++ [xv], by rw [List.length_append]; exact h', fun i r hr => ?_⟩
  by_cases hi : i < acc.length
  · rw [List.getElem?_append_left hi] at hr
    obtain ⟨y, hy, ho⟩ := hc i r hr
    exact ⟨y, by rw [List.getElem?_append_left (by omega)]; exact hy, (ho.alloc _).kept hg (row_apart ho h)⟩
  · rw [List.getElem?_append_right (by omega)] at hr
    have hi0 : i - acc.length = 0 := by
      have := (List.getElem?_eq_some_iff.1 hr).1
      simp at this; omega
    rw [hi0] at hr
    cases hr
    refine ⟨xv, ?_, (hx.alloc _).kept hg (row_apart hx h)⟩
    rw [List.getElem?_append_right (by omega), show i - cells.length = 0 by omega]; rfl
set_option maxHeartbeats 3200000 in
set_option maxRecDepth 100000 in
theorem readrows_any (N R M : Nat) (en : Int) (F : Nat) (item : List Tok → PR (List Int)) (I : World → Prop) (hE : Eats item) (B : Nat) (hI : Item B N R M en F item (fun xs v w' => w'.ownsRow B 3 1 v xs.length (xs.map (Value.int .i64))) I) (w : World) (hBw : B ≤ w.heap.size) (hRB : R < B) (l : List Tok) (h : Rd N R M en w l) (hi0 : I w) (hl : l.length ≤ 4000) :
    Calls Tryz.prog 119 #[.pointer (some ⟨R, 0, none⟩), .func (.func F) #[.pointer (some ⟨R, 0, none⟩)] #[]] w
      (PostR (readP en item l) (fun xs v w' => LSr B w.heap.size w' v xs ∧ I w') N R M en (fun k => k = R) w) := by
  have HB : Hid (Rd N R M en w l) := h
  have HI0 : Hid (I w) := hi0
  have HIT : Hid (Item B N R M en F item (fun xs v w' => w'.ownsRow B 3 1 v xs.length (xs.map (Value.int .i64))) I) := hI
  have HE : Hid (Eats item) := hE
  have hRw : R < w.heap.size := by obtain ⟨_, _, hR, _⟩ := h; exact (Array.getElem?_eq_some_iff.1 hR).1
  have HX : Hid (∀ k, (fun k => k = R) k → k < w.heap.size) := fun k hk => by subst hk; exact hRw
  have HXB : Hid (∀ k, (fun k => k = R) k → k < B) := fun k hk => by subst hk; exact hRB
  obtain ⟨i0, hi, hz0, hz1, hz2⟩ := info_parts Tryz.infoRow5
  obtain ⟨P, hP⟩ : ∃ P, readP en item l = P := ⟨_, rfl⟩
  have HP : Hid (readP en item l = P) := hP
  rw [hP]
  clear hP h hi0 hI hE
  go_enter Tryz.func119, Tryz.ntmps119
  go_wp2_with fail
  refine (rskip_any N R M en ⟨#[91]⟩ solid_open w l HB.out).mono ?_
  intro e w1 hp
  cases hs : skipP en ⟨#[91]⟩ l with
  | bad x er =>
    rw [hs] at hp
    obtain ⟨rfl, hfr⟩ := hp
    have HPB : Hid (P = .bad x er) := by show _ = _; rw [← HP.out]; unfold readP; rw [hs]; rfl
    clear hs
    go_wp2
    exact ⟨rfl, by rw [HPB.out]; exact ⟨rfl, hfr⟩⟩
  | ok t q =>
    rw [hs] at hp
    obtain ⟨v, rfl, rfl, hrd, hfr⟩ := hp
    have HRD : Hid (Rd N R M en w1 q) := hrd
    have HFR : Hid (Fr (fun k => k = R) w w1) := hfr
    have hql : q.length + 1 = l.length := skip_len solid_open hs
    have HQL : Hid (q.length + 1 = l.length) := hql
    have HP1 : Hid (P = if (headT en q).text.toList == [93] then (skipP en ⟨#[93]⟩ q).bind fun _ l => .ok [] l else (item q).bind fun x l => moreP en item (l.length + 1) [x] l) := by
      show _ = _; rw [← HP.out]; unfold readP; rw [hs]; rfl
    have hf2 := tokF2 (headT en q)
    clear hs hrd hfr HP hql
    go_wp2_with fail
    refine (ahead_any N R M en _ q HRD.out).mono ?_
    rintro e w2 ⟨rfl, hb2⟩
    have HR2 : Hid (Rd N R M en w2 q) := HRD.out.below hb2
    have HF2 : Hid (Fr (fun k => k = R) w w2) := HFR.out.trans (Fr.below hb2)
    unfold tokA
    clear hb2
    cases hq : ((headT en q).text.toList == [93])
    · have HP2 : Hid (P = (item q).bind fun x l => moreP en item (l.length + 1) [x] l) := by show _ = _; rw [HP1.out, hq]; rfl
      have HI2 : Hid (I w2) := HIT.out.2.1 _ _ HI0.out (HF2.out.weak fun k hk => Or.inl hk)
      clear HP1
      go_wp2_with fail
      rw [HIT.out.1, Oper.upon_enter]
      refine (HIT.out.2.2 w2 q HR2.out HI2.out).mono ?_
      intro e w3 hp
      cases hit : item q with
      | bad x er =>
        rw [hit] at hp
        obtain ⟨rfl, hfr⟩ := hp
        have hfr2 := HF2.out.trans hfr
        have HPB : Hid (P = .bad x er) := by show _ = _; rw [HP2.out, hit]; rfl
        clear hit hq hfr
        go_wp2
        exact ⟨rfl, by rw [HPB.out]; exact ⟨rfl, hfr2⟩⟩
      | ok x r =>
        rw [hit] at hp
        obtain ⟨v, rfl, hvo, hrd, hfr⟩ := hp
        obtain ⟨ax, cx, hvf⟩ := own_form hvo
        subst hvf
        have HVO : Hid (w3.ownsRow B 3 1 (.slice ax x.length cx) x.length (x.map (Value.int .i64))) := hvo
        clear hvo
        have HR3 : Hid (Rd N R M en w3 r) := hrd
        have HF3 : Hid (Fr (fun k => k = R) w w3) := HF2.out.trans hfr
        have HI3 : Hid (I w3) := HIT.out.2.1 _ _ HI2.out (hfr.weak fun k hk => Or.inl hk)
        have HRL : Hid (r.length ≤ q.length) := HE.out q x r hit
        have HP3 : Hid (P = moreP en item (r.length + 1) [x] r) := by show _ = _; rw [HP2.out, hit]; rfl
        have hsz3 : w.heap.size ≤ w3.heap.size := HF3.out.size
        clear hit hrd hfr hq hf2 HP2
        go_wp2_with (at_builtin; refine wpList_append_own _ rfl _ _ 51 rfl w.heap.size 50 i0 (.slice none 0 0) 1 24 Tryz.underRows5 hi hz0 hz1 hz2 rfl (by decide) _ _ _ rfl (World.ownsRow_nil _ _ _ _) ⟨w3.heap.size, 0, none⟩ 1 1 [.slice ax x.length cx] rfl rfl ?c1 ?c2 ?c3 ?c4 ?c5 ?_)
        case c1 => exact one_laidR w3 (.slice ax x.length cx)
        case c2 => intro u hu; rcases List.mem_singleton.1 hu with rfl; rfl
        case c3 => unfold maxLen; omega
        case c4 => omega
        case c5 => simp; omega
        intro v5 w5 hown5 hg5 _
        have HR5 : Hid (Rd N R M en w5 r) := (HR3.out.below (below_alloc _ _)).grown hg5 (fun k hk => by cases hk)
        have HF5 : Hid (Fr (fun k => k = R) w w5) := (HF3.out.alloc _).grown hg5 (fun k hk => by cases hk)
        have HI5 : Hid (I w5) := HIT.out.2.1 _ _ HI3.out (((Fr.refl _ _).alloc _).grown hg5 (fun k hk => by cases hk))
        have HO5 : Hid (LSr B w.heap.size w5 v5 [x]) := LSr.first hown5 ((HVO.out.alloc _).kept hg5 (row_apart HVO.out (World.ownsRow_nil w3 w.heap.size 50 1)))
        clear hown5 hg5
        go_wp2_with fail
        go_loopw [5] (fun v wr => ∃ (f : Nat) (acc : List (List Int)) (q : List Tok), Hid (P = moreP en item f acc q) ∧ Hid (Rd N R M en wr q) ∧ Hid (I wr) ∧ Hid (LSr B w.heap.size wr v acc) ∧ Hid (Fr (fun k => k = R) w wr) ∧ q.length + 1 ≤ f ∧ acc.length + q.length ≤ 4000) (fun _ wr => leftT R wr)
        case atStart => exact ⟨_, [x], r, HP3, HR5, HI5, HO5, HF5, by omega, by have := HRL.out; have := HQL.out; simp; omega⟩
        case round =>
          obtain ⟨f, acc, q, HPM, HRM, HIM, HOM, HFM, hf, hlen⟩ := hrel
          obtain ⟨g, rfl⟩ : ∃ g, f = g + 1 := ⟨f - 1, by omega⟩
          have hf2 := tokF2 (headT en q)
          obtain ⟨av, cv, hv⟩ := HOM.out.form
          subst hv
          have HCM : Hid ((⟨#[44]⟩ : ByteArray).toList = [44]) := by show _ = _; simp [go_sem]
          cases hc : ((headT en q).text.toList == [44])
          · have HPE : Hid (P = (skipP en ⟨#[93]⟩ q).bind fun _ l => .ok acc l) := by show _ = _; rw [HPM.out]; unfold moreP; rw [hc]; rfl
            go_wp2_with fail
            refine (ahead_any N R M en _ q HRM.out).mono ?_
            rintro e w6 ⟨rfl, hb6⟩
            have HR6 : Hid (Rd N R M en w6 q) := HRM.out.below hb6
            have HF6 : Hid (Fr (fun k => k = R) w w6) := HFM.out.trans (Fr.below hb6)
            have HI6 : Hid (I w6) := HIT.out.2.1 _ _ HIM.out (Fr.below hb6)
            have HO6 : Hid (LSr B w.heap.size w6 (.slice av acc.length cv) acc) := HOM.out.below hb6
            unfold tokA
            clear hb6
            go_wp2_with fail
            refine (rskip_any N R M en ⟨#[93]⟩ solid_close w6 q HR6.out).mono ?_
            intro e w7 hp
            cases hs : skipP en ⟨#[93]⟩ q with
            | bad x er =>
              rw [hs] at hp
              obtain ⟨rfl, hfr⟩ := hp
              have hfr2 := HF6.out.trans hfr
              have HPB : Hid (P = .bad x er) := by show _ = _; rw [HPE.out, hs]; rfl
              clear hs hc hfr
              go_wp2
              exact ⟨rfl, by rw [HPB.out]; exact ⟨rfl, hfr2⟩⟩
            | ok t q2 =>
              rw [hs] at hp
              obtain ⟨v, rfl, rfl, hrd, hfr⟩ := hp
              have hfr2 := HF6.out.trans hfr
              have HI7 : Hid (I w7) := HIT.out.2.1 _ _ HI6.out (hfr.weak fun k hk => Or.inl hk)
              have HO7 : Hid (LSr B w.heap.size w7 (.slice av acc.length cv) acc) := HO6.out.fr hfr HX.out HXB.out
              have HPB : Hid (P = .ok acc q2) := by show _ = _; rw [HPE.out, hs]; rfl
              clear hs hc hfr
              go_wp2
              go_ret
              rw [HPB.out]
              exact ⟨_, rfl, ⟨HO7.out, HI7.out⟩, hrd, hfr2⟩
          · have hne := head_some en q ⟨#[44]⟩ solid_comma (by rw [HCM.out]; exact hc)
            have HSK : Hid (skipP en ⟨#[44]⟩ q = .ok (headT en q) q.tail) := by show _ = _; unfold skipP passP; rw [HCM.out, hc]; rfl
            obtain ⟨q2, hq2⟩ : ∃ q2, q.tail = q2 := ⟨_, rfl⟩
            have HQ2 : Hid (q.tail = q2) := hq2
            have hql2 : q2.length + 1 = q.length := by
              rw [← hq2]
              cases q with
              | nil => exact absurd rfl hne
              | cons a q => simp
            have HPE : Hid (P = (item q2).bind fun x l => moreP en item g (acc ++ [x]) l) := by show _ = _; rw [HPM.out, moreP, hc, if_pos rfl, HSK.out, ← hq2]; rfl
            clear hne hq2
            go_wp2_with fail
            refine (ahead_any N R M en _ q HRM.out).mono ?_
            rintro e w6 ⟨rfl, hb6⟩
            have HR6 : Hid (Rd N R M en w6 q) := HRM.out.below hb6
            have HF6 : Hid (Fr (fun k => k = R) w w6) := HFM.out.trans (Fr.below hb6)
            have HI6 : Hid (I w6) := HIT.out.2.1 _ _ HIM.out (Fr.below hb6)
            have HO6 : Hid (LSr B w.heap.size w6 (.slice av acc.length cv) acc) := HOM.out.below hb6
            unfold tokA
            clear hb6
            go_wp2_with fail
            refine (rskip_any N R M en ⟨#[44]⟩ solid_comma w6 q HR6.out).mono ?_
            intro e w7 hp
            rw [HSK.out] at hp
            obtain ⟨v, rfl, rfl, hrd, hfr⟩ := hp
            have HR7 : Hid (Rd N R M en w7 q2) := by rw [← HQ2.out]; exact hrd
            have HF7 : Hid (Fr (fun k => k = R) w w7) := HF6.out.trans hfr
            have HI7 : Hid (I w7) := HIT.out.2.1 _ _ HI6.out (hfr.weak fun k hk => Or.inl hk)
            have HO7 : Hid (LSr B w.heap.size w7 (.slice av acc.length cv) acc) := HO6.out.fr hfr HX.out HXB.out
            clear hrd hfr hc hf2
            go_wp2_with fail
            rw [HIT.out.1, Oper.upon_enter]
            refine (HIT.out.2.2 w7 q2 HR7.out HI7.out).mono ?_
            intro e w8 hp
            cases hit : item q2 with
            | bad x er =>
              rw [hit] at hp
              obtain ⟨rfl, hfr⟩ := hp
              have hfr2 := HF7.out.trans hfr
              have HPB : Hid (P = .bad x er) := by show _ = _; rw [HPE.out, hit]; rfl
              clear hit hfr
              go_wp2
              exact ⟨rfl, by rw [HPB.out]; exact ⟨rfl, hfr2⟩⟩
            | ok x r =>
              rw [hit] at hp
              obtain ⟨v, rfl, hvo, hrd, hfr⟩ := hp
              obtain ⟨ax, cx, hvf⟩ := own_form hvo
              subst hvf
              have HVO : Hid (w8.ownsRow B 3 1 (.slice ax x.length cx) x.length (x.map (Value.int .i64))) := hvo
              clear hvo
              have HR8 : Hid (Rd N R M en w8 r) := hrd
              have HF8 : Hid (Fr (fun k => k = R) w w8) := HF7.out.trans hfr
              have HI8 : Hid (I w8) := HIT.out.2.1 _ _ HI7.out (hfr.weak fun k hk => Or.inl hk)
              have HO8 : Hid (LSr B w.heap.size w8 (.slice av acc.length cv) acc) := HO7.out.fr hfr HX.out HXB.out
              have hrl : r.length ≤ q2.length := HE.out q2 x r hit
              have HPN : Hid (P = moreP en item g (acc ++ [x]) r) := by show _ = _; rw [HPE.out, hit]; rfl
              have hsz8 : w.heap.size ≤ w8.heap.size := HF8.out.size
              obtain ⟨cells, hco, hci⟩ := HO8.out
              have HCI : Hid (∀ (i : Nat) (r : List Int), acc[i]? = some r → ∃ x, cells[i]? = some x ∧ w8.ownsRow B 3 1 x r.length (r.map (Value.int .i64))) := hci
              have HCO : Hid (w8.ownsRow w.heap.size 50 1 (.slice av acc.length cv) acc.length cells) := hco
              have hox := hco.alloc (.cells #[.slice ax x.length cx] 50)
              clear hci hco
              clear hit hrd hfr
              go_wp2_with (at_builtin; refine wpList_append_own _ rfl _ _ 51 rfl w.heap.size 50 i0 (.slice none 0 0) 1 24 Tryz.underRows5 hi hz0 hz1 hz2 rfl (by decide) _ _ _ rfl hox ⟨w8.heap.size, 0, none⟩ 1 1 [.slice ax x.length cx] rfl rfl ?c1 ?c2 ?c3 ?c4 ?c5 ?_)
              case c1 => exact one_laidR w8 (.slice ax x.length cx)
              case c2 => intro u hu; rcases List.mem_singleton.1 hu with rfl; rfl
              case c3 => unfold maxLen; omega
              case c4 => omega
              case c5 => simp; omega
              intro v9 w9 hown9 hg9 _
              have hrow : ∀ k, (Value.slice av acc.length cv).ownBlock = some k → w.heap.size ≤ k := fun k hk => (HCO.out.lt k hk).1
              have HR9 : Hid (Rd N R M en w9 r) := (HR8.out.below (below_alloc _ _)).grown hg9 (fun k hk => ⟨by have := hrow k hk; omega, by have := hrow k hk; have := HB.out.1.2.1; omega⟩)
              have HF9 : Hid (Fr (fun k => k = R) w w9) := (HF8.out.alloc _).grown hg9 (fun k hk => Or.inr (hrow k hk))
              have HI9 : Hid (I w9) := HIT.out.2.1 _ _ HI8.out (((Fr.refl _ _).alloc _).grown hg9 (fun k hk => Or.inl (Or.inr (by have := hrow k hk; omega))))
              have HO9 : Hid (LSr B w.heap.size w9 v9 (acc ++ [x])) := LSr.push HCO.out HCI.out HVO.out hown9 hg9
              have HM9 : Hid (leftT R w9 < leftT R wr) := by show _ < _; rw [leftT_rd HR9.out, leftT_rd HRM.out]; omega
              clear hown9 hg9 hrow hox
              go_wp2
              go_roundw
              case rel => exact ⟨g, acc ++ [x], r, HPN, HR9, HI9, HO9, HF9, by omega, by simp; omega⟩
              case measure => exact HM9.out
    · have HP2 : Hid (P = (skipP en ⟨#[93]⟩ q).bind fun _ l => .ok [] l) := by show _ = _; rw [HP1.out, hq]; rfl
      have HI2 : Hid (I w2) := HIT.out.2.1 _ _ HI0.out (HF2.out.weak fun k hk => Or.inl hk)
      clear HP1
      go_wp2_with fail
      refine (rskip_any N R M en ⟨#[93]⟩ solid_close w2 q HR2.out).mono ?_
      intro e w7 hp
      cases hs : skipP en ⟨#[93]⟩ q with
      | bad x er =>
        rw [hs] at hp
        obtain ⟨rfl, hfr⟩ := hp
        have hfr2 := HF2.out.trans hfr
        have HPB : Hid (P = .bad x er) := by show _ = _; rw [HP2.out, hs]; rfl
        clear hs hq hfr
        go_wp2
        exact ⟨rfl, by rw [HPB.out]; exact ⟨rfl, hfr2⟩⟩
      | ok t q2 =>
        rw [hs] at hp
        obtain ⟨v, rfl, rfl, hrd, hfr⟩ := hp
        have hfr2 := HF2.out.trans hfr
        have HI7 : Hid (I w7) := HIT.out.2.1 _ _ HI2.out (hfr.weak fun k hk => Or.inl hk)
        have HPB : Hid (P = .ok [] q2) := by show _ = _; rw [HP2.out, hs]; rfl
        clear hs hq hfr
        go_wp2
        go_ret
        rw [HPB.out]
        exact ⟨_, rfl, ⟨LSr.none _ _ _, HI7.out⟩, hrd, hfr2⟩
end Go.Proofs.YtdjbejlbmaiocabGreatDoor
/-
  WALKS: package text: the words; the reader: numbers, variables, rows, lit, lits.
-/
namespace Go.Proofs.YtdjbejlbmaiocabGreatDoor
open Go.RowKit

theorem PostR.mono {α : Type} {p : PR α} {G G' : α → Value → World → Prop} {N R M : Nat} {en : Int} {X : Nat → Prop} {w w' : World} {e : Ending} (hG : ∀ a v w', G a v w' → G' a v w') (h : PostR p G N R M en X w e w') : PostR p G' N R M en X w e w' := by
  unfold PostR at *
  cases p with
  | ok a r => obtain ⟨v, h1, h2, h3, h4⟩ := h; exact ⟨v, h1, hG _ _ _ h2, h3, h4⟩
  | bad x er => exact h
theorem strs_new (w : World) (l : List ByteArray) (hl : l.length ≤ 100) : SArg (w.alloc (.cells (l.map Value.string).toArray 9)) (.slice (some ⟨w.heap.size, 0, none⟩) l.length l.length) l := by
  refine ⟨_, _, rfl, ⟨Nat.le_refl _, by unfold maxLen; omega⟩, fun i z hz => ⟨_, 0, rfl, by simp, ?_⟩⟩
  rw [World.cell?_alloc_at _ _ _ _ rfl]
  simp [hz]
set_option maxHeartbeats 400000 in
set_option maxRecDepth 100000 in
theorem words_ops (w : World) : Calls Tryz.prog 113 #[] w fun e w' => ∃ v, e = .returned v ∧ SArg w' v opWL ∧ Below w.heap.size w w' := by
  go_enter Tryz.func113, Tryz.ntmps113
  go_wp2
  go_ret
  exact ⟨_, rfl, strs_new w opWL (by decide), below_alloc _ _⟩
set_option maxHeartbeats 400000 in
set_option maxRecDepth 100000 in
theorem words_goals (w : World) : Calls Tryz.prog 59 #[] w fun e w' => ∃ v, e = .returned v ∧ SArg w' v goalWL ∧ Below w.heap.size w w' := by
  go_enter Tryz.func59, Tryz.ntmps59
  go_wp2
  go_ret
  exact ⟨_, rfl, strs_new w goalWL (by decide), below_alloc _ _⟩
set_option maxHeartbeats 400000 in
set_option maxRecDepth 100000 in
theorem words_cons (w : World) : Calls Tryz.prog 94 #[] w fun e w' => ∃ v, e = .returned v ∧ SArg w' v conWL ∧ Below w.heap.size w w' := by
  go_enter Tryz.func94, Tryz.ntmps94
  go_wp2
  go_ret
  exact ⟨_, rfl, strs_new w conWL (by decide), below_alloc _ _⟩

theorem own_mono9 {w : World} {base base' : Nat} {e : TypeId} {size : Nat} {v : Value} {n : Nat} {xs : List Value} (h : w.ownsRow base e size v n xs) (hb : base' ≤ base) : w.ownsRow base' e size v n xs := by
  refine ⟨h.1, ?_⟩
  rcases h.2 with hn | ⟨g, cap, cur, hv, hg, r⟩
  · exact .inl hn
  · exact .inr ⟨g, cap, cur, hv, Nat.le_trans hb hg, r⟩
theorem enters_number (args : Array Value) (w' : World) : Sem.run Tryz.prog (callFunc 97 args) w' = .ok (.enter 97 args) w' := by
  simp [callFunc, go_sem, Tryz.func97, Tryz.f97]
theorem enters_name9 (args : Array Value) (w' : World) : Sem.run Tryz.prog (callFunc 101 args) w' = .ok (.enter 101 args) w' := by
  simp [callFunc, go_sem, Tryz.func101, Tryz.f101]
theorem enters_numbers (args : Array Value) (w' : World) : Sem.run Tryz.prog (callFunc 99 args) w' = .ok (.enter 99 args) w' := by
  simp [callFunc, go_sem, Tryz.func99, Tryz.f99]
theorem enters_lit9 (args : Array Value) (w' : World) : Sem.run Tryz.prog (callFunc 104 args) w' = .ok (.enter 104 args) w' := by
  simp [callFunc, go_sem, Tryz.func104, Tryz.f104]
theorem item_number (B N R M : Nat) (en : Int) : Item B N R M en 97 (numberP en) (fun i v _ => v = .int .i64 i) (fun _ => True) :=
  ⟨enters_number, fun _ _ _ _ => trivial, fun w l h _ => (number_any N R M en w l h).mono fun _ _ hp => hp.mono fun _ _ _ h => h.1⟩
/-- The names, as what must be of the world besides. -/
theorem names_stay (B R M : Nat) (names : List ByteArray) (hM : M < B) (hMR : M ≠ R) (w w' : World) (h : NmS w M names) (hf : Fr (fun k => k = R ∨ B ≤ k) w w') : NmS w' M names :=
  h.old (hf.block M h.lt (fun hx => hx.elim hMR (fun h => by omega)))
theorem item_name (B N R M : Nat) (en : Int) (names : List ByteArray) (hM : M < B) (hMR : M ≠ R) (hne : ∀ n ∈ names, n.data.toList ≠ []) : Item B N R M en 101 (nameP en names) (fun i v _ => v = .int .i64 i) (fun w => NmS w M names) :=
  ⟨enters_name9, names_stay B R M names hM hMR, fun w l h hn => name_any N R M en names w l h hn hne⟩

set_option maxHeartbeats 400000 in
set_option maxRecDepth 100000 in
theorem numbers_any (N R M : Nat) (en : Int) (w : World) (l : List Tok) (h : Rd N R M en w l) :
    Calls Tryz.prog 99 #[.pointer (some ⟨R, 0, none⟩)] w (PostR (readP en (numberP en) l) (fun xs v w' => w'.ownsRow w.heap.size 3 1 v xs.length (xs.map (Value.int .i64))) N R M en (fun k => k = R) w) := by
  have HB : Hid (Rd N R M en w l) := h
  obtain ⟨P, hP⟩ : ∃ P, readP en (numberP en) l = P := ⟨_, rfl⟩
  have HP : Hid (readP en (numberP en) l = P) := hP
  rw [hP]
  clear h hP
  go_enter Tryz.func99, Tryz.ntmps99
  go_wp2_with fail
  refine (readints_any N R M en 97 (numberP en) (fun _ => True) (eats_number en) w.heap.size (item_number _ _ _ _ _) w (Nat.le_refl _) l HB.out trivial HB.out.len).mono ?_
  intro e w1 hp
  rw [HP.out] at hp
  cases P with
  | bad x er =>
    obtain ⟨rfl, hfr⟩ := hp
    go_wp2
    exact ⟨rfl, rfl, hfr⟩
  | ok xs r =>
    obtain ⟨v, rfl, ⟨ho, _⟩, hrd, hfr⟩ := hp
    have HO : Hid (w1.ownsRow w.heap.size 3 1 v xs.length (xs.map (Value.int .i64))) := ho
    obtain ⟨av, cv, hv⟩ := own_form ho
    subst hv
    clear ho
    go_wp2
    go_ret
    exact ⟨_, rfl, HO.out, hrd, hfr⟩
theorem item_numbers (B N R M : Nat) (en : Int) : Item B N R M en 99 (readP en (numberP en)) (fun xs v w' => w'.ownsRow B 3 1 v xs.length (xs.map (Value.int .i64))) (fun w => B ≤ w.heap.size) :=
  ⟨enters_numbers, fun _ _ h hf => Nat.le_trans h hf.size, fun w l h hB => (numbers_any N R M en w l h).mono fun _ _ hp => hp.mono fun _ _ _ h => own_mono9 h hB⟩

set_option maxHeartbeats 400000 in
set_option maxRecDepth 100000 in
theorem variables_any (N R M : Nat) (en : Int) (names : List ByteArray) (w : World) (l : List Tok) (h : Rd N R M en w l) (hn : NmS w M names) (hne : ∀ n ∈ names, n.data.toList ≠ []) :
    Calls Tryz.prog 100 #[.pointer (some ⟨R, 0, none⟩)] w (PostR (readP en (nameP en names) l) (fun xs v w' => w'.ownsRow w.heap.size 3 1 v xs.length (xs.map (Value.int .i64)) ∧ NmS w' M names) N R M en (fun k => k = R) w) := by
  have HB : Hid (Rd N R M en w l) := h
  have HN : Hid (NmS w M names) := hn
  have HNE : Hid (∀ n ∈ names, n.data.toList ≠ []) := hne
  have hMR : M ≠ R := h.1.2.2
  obtain ⟨P, hP⟩ : ∃ P, readP en (nameP en names) l = P := ⟨_, rfl⟩
  have HP : Hid (readP en (nameP en names) l = P) := hP
  rw [hP]
  clear h hP hn hne
  go_enter Tryz.func100, Tryz.ntmps100
  go_wp2_with fail
  refine (readints_any N R M en 101 (nameP en names) (fun w => NmS w M names) (eats_name en names) w.heap.size (item_name _ _ _ _ _ names HN.out.lt hMR HNE.out) w (Nat.le_refl _) l HB.out HN.out HB.out.len).mono ?_
  intro e w1 hp
  rw [HP.out] at hp
  cases P with
  | bad x er =>
    obtain ⟨rfl, hfr⟩ := hp
    go_wp2
    exact ⟨rfl, rfl, hfr⟩
  | ok xs r =>
    obtain ⟨v, rfl, ⟨ho, hn1⟩, hrd, hfr⟩ := hp
    have HO : Hid (w1.ownsRow w.heap.size 3 1 v xs.length (xs.map (Value.int .i64)) ∧ NmS w1 M names) := ⟨ho, hn1⟩
    obtain ⟨av, cv, hv⟩ := own_form ho
    subst hv
    clear ho hn1
    go_wp2
    go_ret
    exact ⟨_, rfl, HO.out, hrd, hfr⟩

set_option maxHeartbeats 400000 in
set_option maxRecDepth 100000 in
theorem rows_any (B N R M : Nat) (en : Int) (w : World) (l : List Tok) (h : Rd N R M en w l) (hB : B ≤ w.heap.size) (hRB : R < B) :
    Calls Tryz.prog 102 #[.pointer (some ⟨R, 0, none⟩)] w (PostR (readP en (readP en (numberP en)) l) (fun xs v w' => LSr B w.heap.size w' v xs) N R M en (fun k => k = R) w) := by
  have HB : Hid (Rd N R M en w l) := h
  obtain ⟨P, hP⟩ : ∃ P, readP en (readP en (numberP en)) l = P := ⟨_, rfl⟩
  have HP : Hid (readP en (readP en (numberP en)) l = P) := hP
  rw [hP]
  clear h hP
  go_enter Tryz.func102, Tryz.ntmps102
  go_wp2_with fail
  refine (readrows_any N R M en 99 (readP en (numberP en)) (fun w => B ≤ w.heap.size) (eats_read en _ (eats_number en)) B (item_numbers B _ _ _ _) w hB hRB l HB.out hB HB.out.len).mono ?_
  intro e w1 hp
  rw [HP.out] at hp
  cases P with
  | bad x er =>
    obtain ⟨rfl, hfr⟩ := hp
    go_wp2
    exact ⟨rfl, rfl, hfr⟩
  | ok xs r =>
    obtain ⟨v, rfl, ⟨ho, _⟩, hrd, hfr⟩ := hp
    have HO : Hid (LSr B w.heap.size w1 v xs) := ho
    obtain ⟨av, cv, hv⟩ := ho.form
    subst hv
    clear ho
    go_wp2
    go_ret
    exact ⟨_, rfl, HO.out, hrd, hfr⟩
end Go.Proofs.YtdjbejlbmaiocabGreatDoor
/-
  WALKS: package text: the reader: lit, lits.
-/
namespace Go.Proofs.YtdjbejlbmaiocabGreatDoor
open Go.RowKit

set_option maxHeartbeats 1600000 in
set_option maxRecDepth 100000 in
theorem rlit_any (N R M : Nat) (en : Int) (names : List ByteArray) (w : World) (l : List Tok) (h : Rd N R M en w l) (hn : NmS w M names) (hne : ∀ n ∈ names, n.data.toList ≠ []) :
    Calls Tryz.prog 104 #[.pointer (some ⟨R, 0, none⟩)] w (PostR (litP en names l) (fun i v _ => v = litA i) N R M en (fun k => k = R) w) := by
  have HB : Hid (Rd N R M en w l) := h
  have HN : Hid (NmS w M names) := hn
  have HNE : Hid (∀ n ∈ names, n.data.toList ≠ []) := hne
  have hRw : R < w.heap.size := by obtain ⟨_, _, hR, _⟩ := h; exact (Array.getElem?_eq_some_iff.1 hR).1
  obtain ⟨P, hP⟩ : ∃ P, litP en names l = P := ⟨_, rfl⟩
  have HP : Hid (P = (nameP en names l).bind fun v l => (oneOfP en opWL l).bind fun op l => (numberP en l).bind fun n l => .ok ⟨v, op, n⟩ l) := by show _ = _; rw [← hP]; rfl
  rw [hP]
  clear h hP hn hne
  go_enter Tryz.func104, Tryz.ntmps104
  go_wp2_with fail
  have HR0 := HB.out.below (below_alloc w (.cells #[.int .i64 0, .int .i64 0, .int .i64 0] 76))
  have HN0 := HN.out.old ((below_alloc w (.cells #[.int .i64 0, .int .i64 0, .int .i64 0] 76)).block M HN.out.lt)
  have HF0 : Fr (fun k => k = R) w (w.alloc (.cells #[.int .i64 0, .int .i64 0, .int .i64 0] 76)) := Fr.below (below_alloc _ _)
  have HQ0 : (w.alloc (.cells #[.int .i64 0, .int .i64 0, .int .i64 0] 76)).heap[w.heap.size]? = some (.cells #[.int .i64 0, .int .i64 0, .int .i64 0] 76) := by show (w.heap.push _)[w.heap.size]? = _; simp
  refine (name_any N R M en names _ l HR0 HN0 HNE.out).mono ?_
  intro e w1 hp
  cases h1 : nameP en names l with
  | bad x er =>
    rw [h1] at hp
    obtain ⟨rfl, hfr⟩ := hp
    have hfr2 := HF0.trans hfr
    have HPB : Hid (P = .bad x er) := by show _ = _; rw [HP.out, h1]; rfl
    clear h1 hfr HR0 HN0 HF0 HQ0
    go_wp2
    exact ⟨rfl, by rw [HPB.out]; exact ⟨rfl, hfr2⟩⟩
  | ok a q =>
    rw [h1] at hp
    obtain ⟨v, rfl, rfl, hrd, hfr⟩ := hp
    have HR1 : Hid (Rd N R M en w1 q) := hrd
    have HF1 : Hid (Fr (fun k => k = R) w w1) := HF0.trans hfr
    have HQ1 : Hid (w1.heap[w.heap.size]? = some (.cells #[.int .i64 0, .int .i64 0, .int .i64 0] 76)) := (hfr.block _ (by simp) (by omega)).trans HQ0
    have HP1 : Hid (P = (oneOfP en opWL q).bind fun op l => (numberP en l).bind fun n l => .ok ⟨a, op, n⟩ l) := by show _ = _; rw [HP.out, h1]; rfl
    clear h1 hrd hfr HR0 HN0 HF0 HQ0 HP
    go_wp2_with fail
    refine (words_ops w1).mono ?_
    rintro e w2 ⟨sv, rfl, hsv, hb2⟩
    have HSV : Hid (SArg w2 sv opWL) := hsv
    obtain ⟨as_, cs_, rfl, _, _⟩ := hsv
    have HR2 : Hid (Rd N R M en w2 q) := HR1.out.below hb2
    have HF2 : Hid (Fr (fun k => k = R) w w2) := HF1.out.trans (Fr.below hb2)
    have HQ2 : Hid (w2.heap[w.heap.size]? = some (.cells #[.int .i64 0, .int .i64 0, .int .i64 0] 76)) := (hb2.block _ (Array.getElem?_eq_some_iff.1 HQ1.out).1).trans HQ1.out
    clear hb2
    go_wp2_with fail
    refine (oneof_any N R M en opWL _ w2 q HR2.out HSV.out).mono ?_
    intro e w3 hp
    cases h2 : oneOfP en opWL q with
    | bad x er =>
      rw [h2] at hp
      obtain ⟨rfl, hfr⟩ := hp
      have hfr2 := HF2.out.trans hfr
      have HPB : Hid (P = .bad x er) := by show _ = _; rw [HP1.out, h2]; rfl
      clear h2 hfr
      go_wp2
      exact ⟨rfl, by rw [HPB.out]; exact ⟨rfl, hfr2⟩⟩
    | ok op q2 =>
      rw [h2] at hp
      obtain ⟨v, rfl, rfl, hrd, hfr⟩ := hp
      have HR3 : Hid (Rd N R M en w3 q2) := hrd
      have HF3 : Hid (Fr (fun k => k = R) w w3) := HF2.out.trans hfr
      have HQ3 : Hid (w3.heap[w.heap.size]? = some (.cells #[.int .i64 0, .int .i64 0, .int .i64 0] 76)) := (hfr.block _ (Array.getElem?_eq_some_iff.1 HQ2.out).1 (by omega)).trans HQ2.out
      have HP2 : Hid (P = (numberP en q2).bind fun n l => .ok ⟨a, op, n⟩ l) := by show _ = _; rw [HP1.out, h2]; rfl
      clear h2 hrd hfr HP1
      go_wp2_with fail
      refine (number_any N R M en w3 q2 HR3.out).mono ?_
      intro e w4 hp
      cases h3 : numberP en q2 with
      | bad x er =>
        rw [h3] at hp
        obtain ⟨rfl, hfr⟩ := hp
        have hfr2 := HF3.out.trans hfr
        have HPB : Hid (P = .bad x er) := by show _ = _; rw [HP2.out, h3]; rfl
        clear h3 hfr
        go_wp2
        exact ⟨rfl, by rw [HPB.out]; exact ⟨rfl, hfr2⟩⟩
      | ok n q3 =>
        rw [h3] at hp
        obtain ⟨v, rfl, ⟨rfl, _, _⟩, hrd, hfr⟩ := hp
        have HR4 : Hid (Rd N R M en w4 q3) := hrd
        have HF4 : Hid (Fr (fun k => k = R) w w4) := HF3.out.trans hfr
        have HQ4 : w4.heap[w.heap.size]? = some (.cells #[.int .i64 0, .int .i64 0, .int .i64 0] 76) := (hfr.block _ (Array.getElem?_eq_some_iff.1 HQ3.out).1 (by omega)).trans HQ3.out
        have HP3 : Hid (P = .ok ⟨a, op, n⟩ q3) := by show _ = _; rw [HP2.out, h3]; rfl
        have r0 := blk9 HQ4 0 _ rfl
        have r1 := blk9 HQ4 1 _ rfl
        have r2 := blk9 HQ4 2 _ rfl
        have z0 := frz9 HQ4 0
        have z1 := frz9 HQ4 1
        have z2 := frz9 HQ4 2
        have hN0 : N ≤ w.heap.size := HB.out.1.2.1
        have hne2 : w.heap.size ≠ R := by omega
        clear h3 hrd hfr HP2 HQ4
        go_wp2
        refine bodyPost_ret (by simp [results, Tryz.results104, go_sem, *]; try rfl) rfl ?_
        rw [HP3.out]
        refine ⟨_, rfl, rfl, ?_, ?_⟩
        · exact ((HR4.out.set (p := ⟨w.heap.size, 0, none⟩) hne2 hN0 _).set (p := ⟨w.heap.size, 1, none⟩) hne2 hN0 _).set (p := ⟨w.heap.size, 2, none⟩) hne2 hN0 _
        · exact ((HF4.out.setNew (p := ⟨w.heap.size, 0, none⟩) (Nat.le_refl _) _).setNew (p := ⟨w.heap.size, 1, none⟩) (Nat.le_refl _) _).setNew (p := ⟨w.heap.size, 2, none⟩) (Nat.le_refl _) _

theorem item_lit (B N R M : Nat) (en : Int) (names : List ByteArray) (hM : M < B) (hMR : M ≠ R) (hne : ∀ n ∈ names, n.data.toList ≠ []) : Item B N R M en 104 (litP en names) (fun i v _ => v = litA i) (fun w => NmS w M names) :=
  ⟨enters_lit9, names_stay B R M names hM hMR, fun w l h hn => rlit_any N R M en names w l h hn hne⟩

set_option maxHeartbeats 400000 in
set_option maxRecDepth 100000 in
theorem lits_read (N R M : Nat) (en : Int) (names : List ByteArray) (w : World) (l : List Tok) (h : Rd N R M en w l) (hn : NmS w M names) (hne : ∀ n ∈ names, n.data.toList ≠ []) :
    Calls Tryz.prog 103 #[.pointer (some ⟨R, 0, none⟩)] w (PostR (readP en (litP en names) l) (fun xs v w' => w'.ownsRow w.heap.size 76 3 v xs.length (xs.flatMap litC)) N R M en (fun k => k = R) w) := by
  have HB : Hid (Rd N R M en w l) := h
  have HN : Hid (NmS w M names) := hn
  have HNE : Hid (∀ n ∈ names, n.data.toList ≠ []) := hne
  have hMR : M ≠ R := h.1.2.2
  obtain ⟨P, hP⟩ : ∃ P, readP en (litP en names) l = P := ⟨_, rfl⟩
  have HP : Hid (readP en (litP en names) l = P) := hP
  rw [hP]
  clear h hP hn hne
  go_enter Tryz.func103, Tryz.ntmps103
  go_wp2_with fail
  refine (readlits_any N R M en 104 (litP en names) (fun w => NmS w M names) (eats_lit en names) w.heap.size (item_lit _ _ _ _ _ names HN.out.lt hMR HNE.out) w (Nat.le_refl _) l HB.out HN.out HB.out.len).mono ?_
  intro e w1 hp
  rw [HP.out] at hp
  cases P with
  | bad x er =>
    obtain ⟨rfl, hfr⟩ := hp
    go_wp2
    exact ⟨rfl, rfl, hfr⟩
  | ok xs r =>
    obtain ⟨v, rfl, ⟨ho, _⟩, hrd, hfr⟩ := hp
    have HO : Hid (w1.ownsRow w.heap.size 76 3 v xs.length (xs.flatMap litC)) := ho
    obtain ⟨av, cv, hv⟩ := own_form ho
    subst hv
    clear ho
    go_wp2
    go_ret
    exact ⟨_, rfl, HO.out, hrd, hfr⟩
end Go.Proofs.YtdjbejlbmaiocabGreatDoor
/-
  WALK: the reference's SameInts.
-/
namespace Go.Proofs.YtdjbejlbmaiocabGreatDoor
open Go.RowKit

theorem take_same {α : Type} (a b : List α) (m : Nat) (x : α) (h : a.take m = b.take m) (ha : a[m]? = some x) (hb : b[m]? = some x) : a.take (m + 1) = b.take (m + 1) := by
  rw [List.take_add_one, List.take_add_one, h, ha, hb]
theorem same_end {α : Type} (a b : List α) (m : Nat) (h : a.take m = b.take m) (ha : ¬ m < a.length) (hl : a.length = b.length) : a = b := by
  rwa [List.take_of_length_le (by omega), List.take_of_length_le (by omega)] at h
theorem not_same {α : Type} (a b : List α) (m : Nat) (x y : α) (ha : a[m]? = some x) (hb : b[m]? = some y) (h : x ≠ y) : a ≠ b := by
  intro e; subst e; rw [ha] at hb; cases hb; exact h rfl

set_option maxHeartbeats 800000 in
set_option maxRecDepth 100000 in
theorem sameints_any (l k : List Int) (v u : Value) (w : World) (hv : IArg w v l) (hu : IArg w u k) :
    Calls Tryz.prog 53 #[v, u] w fun e w' => e = .returned (.bool (decide (l = k))) ∧ ∃ n, w' = w.drewN n := by
  obtain ⟨a, c, rfl, hm, hr⟩ := hv
  obtain ⟨a', c', rfl, hm', hr'⟩ := hu
  have HV : Hid (∀ (i : Nat) (z : Int), l[i]? = some z → ∃ b off, a = some ⟨b, off, none⟩ ∧ b < w.heap.size ∧ w.cell? ⟨b, off + i, none⟩ = some (.int .i64 z)) := hr
  have HV' : Hid (∀ (i : Nat) (z : Int), k[i]? = some z → ∃ b off, a' = some ⟨b, off, none⟩ ∧ b < w.heap.size ∧ w.cell? ⟨b, off + i, none⟩ = some (.int .i64 z)) := hr'
  obtain ⟨R, hR⟩ : ∃ R, decide (l = k) = R := ⟨_, rfl⟩
  rw [hR]
  have HR : Hid (decide (l = k) = R) := hR
  unfold maxLen at hm hm'
  obtain ⟨hm1, hm⟩ := hm
  obtain ⟨hm1', hm'⟩ := hm'
  clear hr hr' hR
  by_cases hl : l.length = k.length
  · have HL : Hid (l.length = k.length) := hl
    have g0 : ((l.length : Int) != (k.length : Int)) = false := by simp [hl]
    clear hl
    go_enter Tryz.func53, Tryz.ntmps53
    go_wp2_with fail
    go_loopw [5] (fun i wr => ∃ m : Nat, m ≤ l.length ∧ i = .int .i64 m ∧ Hid (l.take m = k.take m) ∧ ∃ n, wr = w.drewN n) (fun i _ => l.length - (intOf i).toNat)
    case atStart => exact ⟨0, by omega, rfl, rfl, 0, rfl⟩
    case round =>
      obtain ⟨m, hml, rfl, hall, nq, rfl⟩ := hrel
      by_cases hlt : m < l.length
      · have hlt' : m < k.length := by rw [← HL.out]; exact hlt
        obtain ⟨x, hx⟩ : ∃ x, l[m]? = some x := ⟨l[m], by simp [hlt]⟩
        obtain ⟨y, hy⟩ : ∃ y, k[m]? = some y := ⟨k[m], by simp [hlt']⟩
        obtain ⟨b, off, ha, hb, hc⟩ := HV.out m x hx
        obtain ⟨b', off', ha', hb', hd⟩ := HV'.out m y hy
        have HX : Hid (l[m]? = some x) := hx
        have HY : Hid (k[m]? = some y) := hy
        subst ha; subst ha'
        clear hx hy
        by_cases hq : x = y
        · subst hq
          have HN : Hid (l.take (m + 1) = k.take (m + 1)) := take_same l k m x hall.out HX.out HY.out
          go_wp2
          go_quiet (fail)
          go_wp2
          go_roundw
          case rel => exact ⟨m + 1, by omega, by go_num, HN, _, rfl⟩
          case measure => simp [intOf]; omega
        · have HN : Hid (R = false) := by rw [← HR.out]; exact decide_eq_false (not_same l k m x y HX.out HY.out hq)
          have hq2 : (x != y) = true := by simpa using hq
          clear hq
          go_wp2
          go_quiet (fail)
          go_wp2
          go_ret
          exact ⟨ret_bool HN.out.symm, _, drewN_drewN _ _ _⟩
      · have HN : Hid (R = true) := by rw [← HR.out]; exact decide_eq_true (same_end l k m hall.out hlt HL.out)
        go_wp2
        go_ret
        exact ⟨ret_bool HN.out.symm, _, rfl⟩
  · have HN : Hid (R = false) := by rw [← HR.out]; exact decide_eq_false (fun h => hl (by rw [h]))
    have g0 : ((l.length : Int) != (k.length : Int)) = true := by simp; omega
    clear hl
    go_enter Tryz.func53, Tryz.ntmps53
    go_wp2
    go_ret
    exact ⟨ret_bool HN.out.symm, 0, rfl⟩

end Go.Proofs.YtdjbejlbmaiocabGreatDoor
/-
  PLAIN: what the reference's reader of texts does, step by step: where it is (k tokens are taken), what is wrong (er; then nothing goes on).
-/
namespace Go.Proofs.YtdjbejlbmaiocabGreatDoor

structure RP where
  k : Nat
  er : Int
def txR (en : Int) (T : List Tok) (p : RP) : ByteArray := if p.er = 0 then (headT en (T.drop p.k)).text else ByteArray.empty
def wrongR (e : Int) (p : RP) : RP := if p.er = 0 then ⟨p.k, e⟩ else p
def stepR (p : RP) : RP := ⟨p.k + 1, p.er⟩
def needR (en : Int) (T : List Tok) (s : ByteArray) (p : RP) : RP := if p.er = 0 then (if ((txR en T p).toList == s.toList) = true then stepR p else wrongR 1 p) else p
def wordR (en : Int) (T : List Tok) (p : RP) : List ByteArray → Nat → Int × RP
  | [], _ => (0, wrongR 1 p)
  | s :: r, i => if p.er = 0 ∧ ((txR en T p).toList == s.toList) = true then ((i : Int), stepR p) else wordR en T p r (i + 1)
def vAtR (s : ByteArray) (p : RP) : List ByteArray → Nat → Int × RP
  | [], _ => (0, wrongR 5 p)
  | n :: r, i => if (n.toList == s.toList) = true then ((i : Int), stepR p) else vAtR s p r (i + 1)
def vR (en : Int) (T : List Tok) (nm : List ByteArray) (p : RP) : Int × RP := if isNameB (txR en T p) then vAtR (txR en T p) p nm 0 else (0, wrongR 1 p)
def dig0 (s : ByteArray) : Bool := match s.data.toList with | [] => false | c :: _ => isD c
def noNumR (neg : Bool) (s : ByteArray) : Bool := !dig0 s || (neg && (s.toList == [48]))
def kEndR (en : Int) (T : List Tok) (neg : Bool) (p : RP) : Int × RP :=
  if noNumR neg (txR en T p) = true then (0, wrongR 1 p) else ((if neg then -1 else 1) * digV (txR en T p).data.toList, stepR p)
def kR (en : Int) (T : List Tok) (p : RP) : Int × RP :=
  if ((txR en T p).toList == [45]) = true then kEndR en T true (needR en T ⟨#[45]⟩ p) else kEndR en T false p
def more1R (en : Int) (T : List Tok) (p : RP) : Bool × RP :=
  if ((txR en T (needR en T ⟨#[91]⟩ p)).toList == [93]) = true then (false, needR en T ⟨#[93]⟩ (needR en T ⟨#[91]⟩ p)) else (decide ((needR en T ⟨#[91]⟩ p).er = 0), needR en T ⟨#[91]⟩ p)
def more2R (en : Int) (T : List Tok) (p : RP) : Bool × RP :=
  if ((txR en T p).toList == [44]) = true then (true, needR en T ⟨#[44]⟩ p) else (false, needR en T ⟨#[93]⟩ p)
def loopR {α : Type} (en : Int) (T : List Tok) (item : RP → α × RP) : Nat → List α → Bool × RP → List α × RP
  | 0, acc, q => (acc, q.2)
  | f + 1, acc, q => if q.1 = true then loopR en T item f (acc ++ [(item q.2).1]) (more2R en T (item q.2).2) else (acc, q.2)
def listR {α : Type} (en : Int) (T : List Tok) (item : RP → α × RP) (p : RP) : List α × RP := loopR en T item (T.length + 2) [] (more1R en T p)
def litR (en : Int) (T : List Tok) (nm : List ByteArray) (p : RP) : MLit × RP :=
  (⟨(vR en T nm p).1, 1 + (wordR en T (vR en T nm p).2 opWL.tail 0).1, (kR en T (wordR en T (vR en T nm p).2 opWL.tail 0).2).1⟩, (kR en T (wordR en T (vR en T nm p).2 opWL.tail 0).2).2)

/-- How a step of the reference's stands to one of the program's. -/
def Agrees {α : Type} (en : Int) (T : List Tok) (q : α × RP) (r : PR α) : Prop :=
  match r with
  | .ok x l => q.2.er = 0 ∧ T.drop q.2.k = l ∧ q.2.k ≤ T.length ∧ q.1 = x
  | .bad pl e => q.2.er = e ∧ e ≠ 0 ∧ (headT en (T.drop q.2.k)).place = pl ∧ q.2.k ≤ T.length
/-- A reader's part that stays where something is wrong. -/
def Still {α : Type} (f : RP → α × RP) : Prop := ∀ p, p.er ≠ 0 → (f p).2 = p
theorem wrong_still (e : Int) (p : RP) (h : p.er ≠ 0) : wrongR e p = p := by unfold wrongR; rw [if_neg h]
theorem need_still (en : Int) (T : List Tok) (s : ByteArray) (p : RP) (h : p.er ≠ 0) : needR en T s p = p := by unfold needR; rw [if_neg h]
theorem tx_still (en : Int) (T : List Tok) (p : RP) (h : p.er ≠ 0) : txR en T p = ByteArray.empty := by unfold txR; rw [if_neg h]
theorem word_still (en : Int) (T : List Tok) (p : RP) (h : p.er ≠ 0) : ∀ (ws : List ByteArray) (i : Nat), (wordR en T p ws i).2 = p
  | [], i => by unfold wordR; exact wrong_still 1 p h
  | s :: r, i => by unfold wordR; rw [if_neg (fun hq => h hq.1)]; exact word_still en T p h r (i + 1)
theorem namex_empty : isNameB ByteArray.empty = false := by decide +kernel
theorem v_still (en : Int) (T : List Tok) (nm : List ByteArray) : Still (vR en T nm) := fun p h => by
  unfold vR
  rw [tx_still en T p h, namex_empty]
  exact wrong_still 1 p h
theorem kEnd_still (en : Int) (T : List Tok) (neg : Bool) : Still (kEndR en T neg) := fun p h => by
  unfold kEndR
  rw [tx_still en T p h, if_pos (by unfold noNumR; rfl)]
  exact wrong_still 1 p h
theorem k_still (en : Int) (T : List Tok) : Still (kR en T) := fun p h => by
  unfold kR
  rw [tx_still en T p h, if_neg (by decide +kernel)]
  exact kEnd_still en T false p h
theorem more1_still (en : Int) (T : List Tok) (p : RP) (h : p.er ≠ 0) : more1R en T p = (false, p) := by
  unfold more1R
  rw [need_still en T _ p h, tx_still en T p h, if_neg (by decide +kernel)]
  simp [h]
theorem more2_still (en : Int) (T : List Tok) (p : RP) (h : p.er ≠ 0) : more2R en T p = (false, p) := by
  unfold more2R
  rw [tx_still en T p h, if_neg (by decide +kernel), need_still en T _ p h]
theorem list_still {α : Type} (en : Int) (T : List Tok) (item : RP → α × RP) : Still (listR en T item) := fun p h => by
  unfold listR
  rw [more1_still en T p h]
  unfold loopR
  rfl
theorem lit_still (en : Int) (T : List Tok) (nm : List ByteArray) : Still (litR en T nm) := fun p h => by
  unfold litR
  dsimp only
  rw [v_still en T nm p h, word_still en T p h]
  exact k_still en T p h
end Go.Proofs.YtdjbejlbmaiocabGreatDoor
/-
  WALKS: the reference's reader of tokens: Text, Wrong, Need, Here, Word.
-/
namespace Go.Proofs.YtdjbejlbmaiocabGreatDoor
open Go.RowKit

/-- What stays as it is while it reads: below N lie the tokens T; R is its block; names, by the value that leads to the variables; the rest of its model. -/
structure RC where
  N : Nat
  NB : Nat
  R : Nat
  en : Int
  T : List Tok
  nm : List ByteArray
  vv : Value
  vc : Value
  g : Int
  x : Int
/-- Names in memory, outside a block. -/
def NArg (R NB : Nat) (w : World) (v : Value) (l : List ByteArray) : Prop :=
  ∃ a c, v = .slice a l.length c ∧ (l.length ≤ c ∧ c ≤ maxLen) ∧ ∀ (i : Nat) (t : ByteArray), l[i]? = some t → ∃ b off, a = some ⟨b, off, none⟩ ∧ b ≠ R ∧ b < NB ∧ w.cell? ⟨b, off + i * 3, none⟩ = some (.string t)
abbrev XR9 (R : Nat) : Nat → Prop := fun k => k = R
theorem NArg.fr {R NB : Nat} {w w' : World} {v : Value} {l : List ByteArray} (h : NArg R NB w v l) (hn : NB ≤ w.heap.size) (hf : Fr (XR9 R) w w') : NArg R NB w' v l := by
  obtain ⟨a, c, hv, hm, hr⟩ := h
  refine ⟨a, c, hv, hm, fun i t ht => ?_⟩
  obtain ⟨b, off, ha, hb, hlt, hc⟩ := hr i t ht
  exact ⟨b, off, ha, hb, hlt, (hf.cell (p := ⟨b, off + i * 3, none⟩) (Nat.lt_of_lt_of_le hlt hn) hb).trans hc⟩
/-- The reference's reader in memory. -/
structure RSt (c : RC) (p : RP) (w : World) : Prop where
  le : c.N ≤ c.R
  Nw : c.N ≤ w.heap.size
  nb : c.NB ≤ w.heap.size
  kT : p.k ≤ c.T.length
  dg : ∀ t ∈ c.T, dig0 t.text = true → t.kind = 2
  nms : NArg c.R c.NB w c.vv c.nm
  blk : ∃ v, w.heap[c.R]? = some (.cells #[v, .int .i64 p.k, .int .i64 c.en, .int .i64 p.er, c.vv, c.vc, .int .i64 c.g, .int .i64 c.x] 43) ∧ TArg c.N w v c.T
theorem RSt.lt {c : RC} {p : RP} {w : World} (h : RSt c p w) : c.R < w.heap.size := by
  obtain ⟨v, hb, _⟩ := h.blk
  exact (Array.getElem?_eq_some_iff.1 hb).1
theorem RSt.below {c : RC} {p : RP} {w w' : World} (h : RSt c p w) (hb : Below w.heap.size w w') : RSt c p w' := by
  have hlt := h.lt
  obtain ⟨h1, h2, hn, h3, hd, h4, v, hR, hT⟩ := h
  exact ⟨h1, Nat.le_trans h2 hb.size, Nat.le_trans hn hb.size, h3, hd, h4.fr hn (Fr.below hb), v, (hb.block _ hlt).trans hR, hT.old fun q hq => hb.cell (Nat.lt_of_lt_of_le hq h2)⟩
theorem RSt.grown {c : RC} {p : RP} {w w' : World} {row : Option Nat} (h : RSt c p w) (hg : w.grownBy w' row) (hr : ∀ k, row = some k → k ≠ c.R ∧ c.N ≤ k ∧ c.NB ≤ k) : RSt c p w' := by
  have hlt := h.lt
  obtain ⟨h1, h2, hn, h3, hd, h4, v, hR, hT⟩ := h
  refine ⟨h1, Nat.le_trans h2 hg.size, Nat.le_trans hn hg.size, h3, hd, ?_, v, (hg.block c.R hlt (fun e => (hr _ e.symm).1 rfl)).trans hR, hT.old fun q hq => World.cell?_of_block (hg.block _ (by omega) (fun e => by have := (hr _ e.symm).2.1; omega))⟩
  obtain ⟨a, cc, hv, hm, hrr⟩ := h4
  refine ⟨a, cc, hv, hm, fun i t ht => ?_⟩
  obtain ⟨b, off, ha, hb, hlt, hc⟩ := hrr i t ht
  exact ⟨b, off, ha, hb, hlt, (World.cell?_of_block (hg.block _ (by show b < _; omega) (fun e => by have := (hr _ e.symm).2.2; simp only at this; omega))).trans hc⟩
theorem fr_set (R i : Nat) (w : World) (u : Value) : Fr (XR9 R) w (w.setCell ⟨R, i, none⟩ u) := Fr.setX (X := XR9 R) (Fr.refl (XR9 R) w) (p := ⟨R, i, none⟩) rfl _
theorem RSt.setAt {c : RC} {p : RP} {w : World} (h : RSt c p w) (k' : Nat) (hk : k' ≤ c.T.length) : RSt c ⟨k', p.er⟩ (w.setCell ⟨c.R, 1, none⟩ (.int .i64 (k' : Int))) := by
  obtain ⟨h1, h2, hn, h3, hd, h4, v, hb, hT⟩ := h
  refine ⟨h1, by simpa using h2, by simpa using hn, hk, hd, h4.fr hn (fr_set _ _ _ _), v, ?_, hT.old fun q hq => World.cell?_of_block (Below.heap_setCell _ _ _ _ (by simp only; omega))⟩
  rw [heap_setCell_same w c.R 1 _ _ _ hb]
  rfl
theorem RSt.setE {c : RC} {p : RP} {w : World} (h : RSt c p w) (e' : Int) : RSt c ⟨p.k, e'⟩ (w.setCell ⟨c.R, 3, none⟩ (.int .i64 e')) := by
  obtain ⟨h1, h2, hn, h3, hd, h4, v, hb, hT⟩ := h
  refine ⟨h1, by simpa using h2, by simpa using hn, h3, hd, h4.fr hn (fr_set _ _ _ _), v, ?_, hT.old fun q hq => World.cell?_of_block (Below.heap_setCell _ _ _ _ (by simp only; omega))⟩
  rw [heap_setCell_same w c.R 3 _ _ _ hb]
  rfl
theorem drew9_below {w w' : World} {n : Nat} (h : w' = w.drewN n) : Below w.heap.size w w' := by rw [h]; exact below_drewN (Below.refl _ _) _
theorem drop_head (en : Int) (T : List Tok) (k : Nat) (t : Tok) (h : T[k]? = some t) : headT en (T.drop k) = t := by
  obtain ⟨hk, rfl⟩ := List.getElem?_eq_some_iff.1 h
  rw [List.drop_eq_getElem_cons hk]; rfl
theorem drop_end (en : Int) (T : List Tok) (k : Nat) (h : T.length ≤ k) : headT en (T.drop k) = ⟨0, en, ByteArray.empty⟩ := by
  rw [List.drop_eq_nil_of_le h]; rfl

set_option maxHeartbeats 1600000 in
set_option maxRecDepth 100000 in
theorem rtext_any (c : RC) (p : RP) (w : World) (h : RSt c p w) :
    Calls Tryz.prog 17 #[.pointer (some ⟨c.R, 0, none⟩)] w fun e w' => e = .returned (.string (txR c.en c.T p)) ∧ ∃ n, w' = w.drewN n := by
  obtain ⟨N, NB, R, en, T, nm, vv, vc, g, x⟩ := c
  obtain ⟨k, er⟩ := p
  obtain ⟨h1, h2, hn, h3, hd, h4, v, hR, hT⟩ := h
  dsimp only at *
  obtain ⟨a, c, rfl, hm, ht, hr⟩ := hT
  have k0 : w.cell? ⟨R, 0, none⟩ = some (.slice a T.length c) := blk9 hR 0 _ rfl
  have k1 : w.cell? ⟨R, 1, none⟩ = some (.int .i64 (k : Int)) := blk9 hR 1 _ rfl
  have k3 : w.cell? ⟨R, 3, none⟩ = some (.int .i64 er) := blk9 hR 3 _ rfl
  unfold maxLen at hm
  clear hR hd h4
  by_cases he : er = 0
  · subst he
    by_cases hk : k < T.length
    · obtain ⟨t, htk⟩ : ∃ t, T[k]? = some t := ⟨T[k], List.getElem?_eq_getElem hk⟩
      obtain ⟨b, off, rfl, hb, c0, c1, c2⟩ := hr k t htk
      have HE : Hid (txR en T ⟨k, 0⟩ = t.text) := by
        show _ = _; unfold txR; rw [if_pos rfl, drop_head en T k t htk]
      rw [HE.out]
      have q1 : decide ((T.length : Int) ≤ (k : Int)) = false := by simp; omega
      have q2 : ¬ ((T.length : Int) ≤ (k : Int)) := by omega
      have q3 : (k : Int) < (T.length : Int) := by omega
      have q4 : decide (T.length ≤ k) = false := by simp; omega
      clear hr htk
      go_enter Tryz.func17, Tryz.ntmps17
      go_wp2
      go_quiet (fail)
      go_wp2
      go_quiet (fail)
      go_wp2
      go_ret
      exact ⟨rfl, _, drewN_drewN _ _ _⟩
    · have HE : Hid (txR en T ⟨k, 0⟩ = ByteArray.empty) := by
        show _ = _; unfold txR; rw [if_pos rfl, drop_end en T k (by omega)]
      rw [HE.out]
      have q1 : decide ((T.length : Int) ≤ (k : Int)) = true := by simp; omega
      have q2 : (T.length : Int) ≤ (k : Int) := by omega
      have q4 : decide (T.length ≤ k) = true := by simp; omega
      clear hr
      go_enter Tryz.func17, Tryz.ntmps17
      go_wp2
      go_quiet (fail)
      go_wp2
      go_ret
      exact ⟨rfl, _, rfl⟩
  · have HE : Hid (txR en T ⟨k, er⟩ = ByteArray.empty) := by show _ = _; unfold txR; rw [if_neg he]
    rw [HE.out]
    have q0 : (er != 0) = true := by simpa using he
    clear hr he
    go_enter Tryz.func17, Tryz.ntmps17
    go_wp2
    go_quiet (fail)
    go_wp2
    go_ret
    exact ⟨rfl, _, rfl⟩
set_option maxHeartbeats 1600000 in
set_option maxRecDepth 100000 in
theorem rhere_any (c : RC) (p : RP) (w : World) (h : RSt c p w) :
    Calls Tryz.prog 25 #[.pointer (some ⟨c.R, 0, none⟩)] w fun e w' => e = .returned (.int .i64 (headT c.en (c.T.drop p.k)).place) ∧ ∃ n, w' = w.drewN n := by
  obtain ⟨N, NB, R, en, T, nm, vv, vc, g, x⟩ := c
  obtain ⟨k, er⟩ := p
  obtain ⟨h1, h2, hn, h3, hd, h4, v, hR, hT⟩ := h
  dsimp only at *
  obtain ⟨a, c, rfl, hm, ht, hr⟩ := hT
  have k0 : w.cell? ⟨R, 0, none⟩ = some (.slice a T.length c) := blk9 hR 0 _ rfl
  have k1 : w.cell? ⟨R, 1, none⟩ = some (.int .i64 (k : Int)) := blk9 hR 1 _ rfl
  have k2 : w.cell? ⟨R, 2, none⟩ = some (.int .i64 en) := blk9 hR 2 _ rfl
  unfold maxLen at hm
  clear hR hd h4
  by_cases hk : k < T.length
  · obtain ⟨t, htk⟩ : ∃ t, T[k]? = some t := ⟨T[k], List.getElem?_eq_getElem hk⟩
    obtain ⟨b, off, rfl, hb, c0, c1, c2⟩ := hr k t htk
    rw [drop_head en T k t htk]
    have q3 : (k : Int) < (T.length : Int) := by omega
    have q4 : decide (k < T.length) = true := by simp; omega
    have q5 : decide ((k : Int) < (T.length : Int)) = true := by simp; omega
    clear hr htk
    go_enter Tryz.func25, Tryz.ntmps25
    go_wp2
    go_quiet (fail)
    go_wp2
    go_quiet (fail)
    go_wp2
    go_ret
    exact ⟨rfl, _, drewN_drewN _ _ _⟩
  · rw [drop_end en T k (by omega)]
    have q2 : ¬ (k : Int) < (T.length : Int) := by omega
    have q4 : decide (k < T.length) = false := by simp; omega
    have q5 : decide ((k : Int) < (T.length : Int)) = false := by simp; omega
    clear hr
    go_enter Tryz.func25, Tryz.ntmps25
    go_wp2
    go_quiet (fail)
    go_wp2
    go_ret
    exact ⟨rfl, _, rfl⟩
set_option maxHeartbeats 800000 in
set_option maxRecDepth 100000 in
theorem rwrong_any (c : RC) (p : RP) (e' : Int) (w : World) (h : RSt c p w) :
    Calls Tryz.prog 20 #[.pointer (some ⟨c.R, 0, none⟩), .int .i64 e'] w fun e w' => e = .returned (.tuple #[]) ∧ RSt c (wrongR e' p) w' ∧ Fr (XR9 c.R) w w' := by
  have HS : Hid (RSt c p w) := h
  obtain ⟨N, NB, R, en, T, nm, vv, vc, g, x⟩ := c
  obtain ⟨k, er⟩ := p
  obtain ⟨h1, h2, hn, h3, hd, h4, v, hR, hT⟩ := h
  dsimp only at *
  have k3 : w.cell? ⟨R, 3, none⟩ = some (.int .i64 er) := blk9 hR 3 _ rfl
  have z3 := frz9 hR 3
  clear hR hT hd h4
  by_cases he : er = 0
  · subst he
    have HE : Hid (RSt ⟨N, NB, R, en, T, nm, vv, vc, g, x⟩ (wrongR e' ⟨k, 0⟩) (w.setCell ⟨R, 3, none⟩ (.int .i64 e'))) := by
      have h := HS.out.setE e'
      unfold wrongR
      rw [if_pos rfl]
      exact h
    have HF : Hid (Fr (XR9 R) w (w.setCell ⟨R, 3, none⟩ (.int .i64 e'))) := fr_set _ _ _ _
    go_enter Tryz.func20, Tryz.ntmps20
    go_wp2
    go_end0
    exact ⟨rfl, HE.out, HF.out⟩
  · have HE : Hid (RSt ⟨N, NB, R, en, T, nm, vv, vc, g, x⟩ (wrongR e' ⟨k, er⟩) w) := by rw [wrong_still _ _ he]; exact HS.out
    have q0 : (er == 0) = false := by simpa using he
    clear he
    go_enter Tryz.func20, Tryz.ntmps20
    go_wp2
    go_end0
    exact ⟨rfl, HE.out, Fr.refl _ _⟩
theorem tx_here (en : Int) (T : List Tok) (p : RP) (h : (ByteArray.empty.toList == (txR en T p).toList) = false) : p.er = 0 ∧ p.k < T.length := by
  unfold txR at h
  by_cases he : p.er = 0
  · rw [if_pos he] at h
    refine ⟨he, ?_⟩
    apply Classical.byContradiction
    intro hk
    rw [drop_end en T p.k (by omega)] at h
    simp at h
  · rw [if_neg he] at h
    simp at h
theorem RSt.step {c : RC} {p : RP} {w : World} (h : RSt c p w) (hk : p.k < c.T.length) : RSt c (stepR p) (w.setCell ⟨c.R, 1, none⟩ (.int .i64 ((p.k : Int) + 1))) := by
  have := h.setAt (p.k + 1) (by omega)
  rw [Int.natCast_add] at this
  exact this
set_option maxHeartbeats 800000 in
set_option maxRecDepth 100000 in
theorem rneed_any (c : RC) (p : RP) (s : ByteArray) (hs : solid s) (w : World) (h : RSt c p w) :
    Calls Tryz.prog 18 #[.pointer (some ⟨c.R, 0, none⟩), .string s] w fun e w' => e = .returned (.tuple #[]) ∧ RSt c (needR c.en c.T s p) w' ∧ Fr (XR9 c.R) w w' := by
  have HS : Hid (RSt c p w) := h
  obtain ⟨B, hB⟩ : ∃ B, ((txR c.en c.T p).toList == s.toList) = B := ⟨_, rfl⟩
  have HBB : Hid (((txR c.en c.T p).toList == s.toList) = B) := hB
  have hk3 := h.kT
  obtain ⟨v, hR, hT⟩ := h.blk
  have hT4 : c.T.length ≤ 4000 := by obtain ⟨a, c, _, _, ht, _⟩ := hT; exact ht.1
  have k3 : w.cell? ⟨c.R, 3, none⟩ = some (.int .i64 p.er) := blk9 hR 3 _ rfl
  have k1 : w.cell? ⟨c.R, 1, none⟩ = some (.int .i64 (p.k : Int)) := blk9 hR 1 _ rfl
  have z1 := frz9 hR 1
  have hlt := h.lt
  have HSO : Hid (solid s) := hs
  clear hR hT h hs hB
  by_cases he : p.er = 0
  · have HE0 : Hid (p.er = 0) := he
    rw [he] at k3
    clear he
    go_enter Tryz.func18, Tryz.ntmps18
    go_wp2_with fail
    refine (rtext_any c p _ HS.out).mono ?_
    rintro e w1 ⟨rfl, n1, h1⟩
    have hb := drew9_below h1
    have HS1 : Hid (RSt c p w1) := HS.out.below hb
    have HF1 : Hid (Fr (XR9 c.R) w w1) := Fr.below hb
    have j1 := (hb.cell (p := ⟨c.R, 1, none⟩) hlt).trans k1
    obtain ⟨v, hR, _⟩ := HS1.out.blk
    have y1 := frz9 hR 1
    clear hR h1 hb k1 k3 z1 hlt
    cases B
    · have HN : Hid (needR c.en c.T s p = wrongR 1 p) := by show _ = _; unfold needR; rw [if_pos HE0.out, HBB.out, if_neg (by simp)]
      have hq := HBB.out
      go_wp2_with fail
      refine (rwrong_any c p 1 _ HS1.out).mono ?_
      rintro e w2 ⟨rfl, h2, hf2⟩
      have HS2 : Hid (RSt c (wrongR 1 p) w2) := h2
      have HF2 : Hid (Fr (XR9 c.R) w w2) := HF1.out.trans hf2
      clear h2 hf2 j1 y1
      go_wp2
      go_end0
      exact ⟨rfl, by rw [HN.out]; exact HS2.out, HF2.out⟩
    · have HN : Hid (needR c.en c.T s p = stepR p) := by show _ = _; unfold needR; rw [if_pos HE0.out, HBB.out, if_pos rfl]
      have hk : p.k < c.T.length := (tx_here c.en c.T p (by have h1 := HSO.out; unfold solid at h1; have h2 := HBB.out; rw [beq_iff_eq] at h2; rw [h2]; exact h1)).2
      have HS2 : Hid (RSt c (stepR p) (w1.setCell ⟨c.R, 1, none⟩ (.int .i64 ((p.k : Int) + 1)))) := HS1.out.step hk
      have HF2 : Hid (Fr (XR9 c.R) w (w1.setCell ⟨c.R, 1, none⟩ (.int .i64 ((p.k : Int) + 1)))) := HF1.out.trans (fr_set _ _ _ _)
      have hq := HBB.out
      go_wp2
      go_end0
      exact ⟨rfl, by rw [HN.out]; exact HS2.out, HF2.out⟩
  · have HN : Hid (needR c.en c.T s p = p) := need_still _ _ _ _ he
    have HW : Hid (wrongR 1 p = p) := wrong_still _ _ he
    have q0 : (p.er == 0) = false := by simpa using he
    clear he
    go_enter Tryz.func18, Tryz.ntmps18
    go_wp2_with fail
    refine (rwrong_any c p 1 _ HS.out).mono ?_
    rintro e w2 ⟨rfl, h2, hf2⟩
    have HS2 : Hid (RSt c p w2) := by rw [HW.out] at h2; exact h2
    have HF2 : Hid (Fr (XR9 c.R) w w2) := hf2
    clear h2 hf2 k1 k3 z1
    go_wp2
    go_end0
    exact ⟨rfl, by rw [HN.out]; exact HS2.out, HF2.out⟩
end Go.Proofs.YtdjbejlbmaiocabGreatDoor
/-
  WALKS: the reference's TokenAt, and what it calls.
-/
namespace Go.Proofs.YtdjbejlbmaiocabGreatDoor
open Go.RowKit

theorem ret_two {v : Value} {k : IntKind} {a b : Int} (h : a = b) : Ending.returned (.tuple #[v, .int k a]) = .returned (.tuple #[v, .int k b]) := by rw [h]

set_option maxHeartbeats 400000 in
theorem between_any (n a b : Int) (w : World) :
    Calls Tryz.prog 30 #[.int .i64 n, .int .i64 a, .int .i64 b] w fun e w' => e = .returned (.bool (decide (a ≤ n) && decide (n ≤ b))) ∧ w' = w := by
  go_enter Tryz.func30, Tryz.ntmps30
  go_wp2
  · go_ret; exact ⟨ret_bool (by simp [*]), rfl⟩
  · go_ret; exact ⟨ret_bool (by rw [decide_eq_false (p := a ≤ n) (by omega)]; rfl), rfl⟩

set_option maxHeartbeats 400000 in
theorem rletter_any (c : UInt8) (w : World) :
    Calls Tryz.prog 85 #[.int .u8 c.toNat] w fun e w' => e = .returned (.bool (isL c)) ∧ w' = w := by
  have hc : c.toNat < 256 := c.toNat_lt
  unfold isL
  go_enter Tryz.func85, Tryz.ntmps85
  go_wp2_with fail
  refine (between_any _ _ _ _).mono ?_
  rintro e w ⟨rfl, rfl⟩
  go_wp2
  go_ret
  exact ⟨ret_bool (by simp), rfl⟩
set_option maxHeartbeats 400000 in
theorem rdigit_any (c : UInt8) (w : World) :
    Calls Tryz.prog 48 #[.int .u8 c.toNat] w fun e w' => e = .returned (.bool (isD c)) ∧ w' = w := by
  have hc : c.toNat < 256 := c.toNat_lt
  unfold isD
  go_enter Tryz.func48, Tryz.ntmps48
  go_wp2_with fail
  refine (between_any _ _ _ _).mono ?_
  rintro e w ⟨rfl, rfl⟩
  go_wp2
  go_ret
  exact ⟨ret_bool (by simp), rfl⟩

set_option maxHeartbeats 800000 in
set_option maxRecDepth 100000 in
theorem at_letter (s : ByteArray) (k : Nat) (hk : k < s.size) (hs : s.size ≤ maxLen) (w : World) (hL : isL s[k] = true) :
    Calls Tryz.prog 45 #[.string s, .int .i64 k] w fun e w' => e = .returned (.tuple #[.int .i64 1, .int .i64 (runTo isW s.data.toList k - k : Nat)]) ∧ w' = w := by
  unfold maxLen at hs
  have hl : k < s.data.toList.length := by simpa using hk
  have hgo : Hid (runTo isW s.data.toList (k + 1) = runTo isW s.data.toList k) := (runTo_go isW _ k hl (by rw [list_get s k hk hl]; simp [isW, hL])).symm
  have HL : Hid (isL s[k] = true) := hL
  clear hL
  go_enter Tryz.func45, Tryz.ntmps45
  go_wp2_with fail
  refine (rletter_any _ _).mono ?_
  rintro e w ⟨rfl, rfl⟩
  rw [HL.out]
  go_wp2_with fail
  go_loop [7] (fun i => ∃ m : Nat, 1 ≤ m ∧ k + m ≤ s.size ∧ i = .int .i64 m ∧ Hid (runTo isW s.data.toList (k + m) = runTo isW s.data.toList k)) (fun i => s.size - k - (intOf i).toNat)
  case atStart => exact ⟨1, by omega, by omega, rfl, hgo⟩
  case round =>
    obtain ⟨m, hm1, hm, rfl, hr⟩ := hrel
    have hto : ((k : Int) + (m : Int)).toNat = k + m := by omega
    by_cases hlt : k + m < s.size
    · have hl2 : k + m < s.data.toList.length := by simpa using hlt
      have hget := list_get s (k + m) hlt hl2
      cases hp : isL s[k + m]
      · cases hq : isD s[k + m]
        · have HE : Hid (runTo isW s.data.toList (k + m) = k + m) := runTo_stop isW _ _ (fun h => by rw [hget]; simp [isW, hp, hq])
          have HP : Hid (isL s[k + m] = false) := hp
          have HQ : Hid (isD s[k + m] = false) := hq
          clear hp hq hget
          go_wp2_with fail
          refine (rletter_any _ _).mono ?_
          rintro e w ⟨rfl, rfl⟩
          rw [HP.out]
          go_wp2_with fail
          refine (rdigit_any _ _).mono ?_
          rintro e w ⟨rfl, rfl⟩
          rw [HQ.out]
          go_wp2
          go_ret2
          exact ⟨ret_two (by rw [← hr.out, HE.out, Nat.add_sub_cancel_left]), rfl⟩
        · have HE : Hid (runTo isW s.data.toList (k + m) = runTo isW s.data.toList (k + m + 1)) := runTo_go isW _ _ hl2 (by rw [hget]; simp [isW, hq])
          have HP : Hid (isL s[k + m] = false) := hp
          have HQ : Hid (isD s[k + m] = true) := hq
          clear hp hq hget
          go_wp2_with fail
          refine (rletter_any _ _).mono ?_
          rintro e w ⟨rfl, rfl⟩
          rw [HP.out]
          go_wp2_with fail
          refine (rdigit_any _ _).mono ?_
          rintro e w ⟨rfl, rfl⟩
          rw [HQ.out]
          go_wp2
          go_round
          case rel => exact ⟨m+1, by omega, by omega, by go_num, HE.out ▸ hr.out⟩
          case measure => simp [intOf]; omega
      · have HE : Hid (runTo isW s.data.toList (k + m) = runTo isW s.data.toList (k + m + 1)) := runTo_go isW _ _ hl2 (by rw [hget]; simp [isW, hp])
        have HP : Hid (isL s[k + m] = true) := hp
        clear hp hget
        go_wp2_with fail
        refine (rletter_any _ _).mono ?_
        rintro e w ⟨rfl, rfl⟩
        rw [HP.out]
        go_wp2
        go_round
        case rel => exact ⟨m+1, by omega, by omega, by go_num, HE.out ▸ hr.out⟩
        case measure => simp [intOf]; omega
    · have HE : Hid (runTo isW s.data.toList (k + m) = k + m) := runTo_stop isW _ _ (fun h => by simp at h; omega)
      go_wp2
      go_ret2
      exact ⟨ret_two (by rw [← hr.out, HE.out, Nat.add_sub_cancel_left]), rfl⟩

set_option maxHeartbeats 800000 in
set_option maxRecDepth 100000 in
theorem at_digit (s : ByteArray) (k : Nat) (hk : k < s.size) (hs : s.size ≤ maxLen) (w : World) (hL : isL s[k] = false) (hD : isD s[k] = true) :
    Calls Tryz.prog 45 #[.string s, .int .i64 k] w fun e w' => e = .returned (.tuple #[.int .i64 2, .int .i64 (runTo isD s.data.toList k - k : Nat)]) ∧ w' = w := by
  unfold maxLen at hs
  have hl : k < s.data.toList.length := by simpa using hk
  have hgo : Hid (runTo isD s.data.toList (k + 1) = runTo isD s.data.toList k) := (runTo_go isD _ k hl (by rw [list_get s k hk hl]; exact hD)).symm
  have HL : Hid (isL s[k] = false) := hL
  have HD : Hid (isD s[k] = true) := hD
  clear hL hD
  go_enter Tryz.func45, Tryz.ntmps45
  go_wp2_with fail
  refine (rletter_any _ _).mono ?_
  rintro e w ⟨rfl, rfl⟩
  rw [HL.out]
  go_wp2_with fail
  refine (rdigit_any _ _).mono ?_
  rintro e w ⟨rfl, rfl⟩
  rw [HD.out]
  go_wp2_with fail
  go_loop [7] (fun i => ∃ m : Nat, 1 ≤ m ∧ k + m ≤ s.size ∧ i = .int .i64 m ∧ Hid (runTo isD s.data.toList (k + m) = runTo isD s.data.toList k)) (fun i => s.size - k - (intOf i).toNat)
  case atStart => exact ⟨1, by omega, by omega, rfl, hgo⟩
  case round =>
    obtain ⟨m, hm1, hm, rfl, hr⟩ := hrel
    have hto : ((k : Int) + (m : Int)).toNat = k + m := by omega
    by_cases hlt : k + m < s.size
    · have hl2 : k + m < s.data.toList.length := by simpa using hlt
      have hget := list_get s (k + m) hlt hl2
      cases hp : isD s[k + m]
      · have HE : Hid (runTo isD s.data.toList (k + m) = k + m) := runTo_stop isD _ _ (fun h => by rw [hget]; exact hp)
        have HP : Hid (isD s[k + m] = false) := hp
        clear hp hget
        go_wp2_with fail
        refine (rdigit_any _ _).mono ?_
        rintro e w ⟨rfl, rfl⟩
        rw [HP.out]
        go_wp2
        go_ret2
        exact ⟨ret_two (by rw [← hr.out, HE.out, Nat.add_sub_cancel_left]), rfl⟩
      · have HE : Hid (runTo isD s.data.toList (k + m) = runTo isD s.data.toList (k + m + 1)) := runTo_go isD _ _ hl2 (by rw [hget]; exact hp)
        have HP : Hid (isD s[k + m] = true) := hp
        clear hp hget
        go_wp2_with fail
        refine (rdigit_any _ _).mono ?_
        rintro e w ⟨rfl, rfl⟩
        rw [HP.out]
        go_wp2
        go_round
        case rel => exact ⟨m+1, by omega, by omega, by go_num, HE.out ▸ hr.out⟩
        case measure => simp [intOf]; omega
    · have HE : Hid (runTo isD s.data.toList (k + m) = k + m) := runTo_stop isD _ _ (fun h => by simp at h; omega)
      go_wp2
      go_ret2
      exact ⟨ret_two (by rw [← hr.out, HE.out, Nat.add_sub_cancel_left]), rfl⟩

end Go.Proofs.YtdjbejlbmaiocabGreatDoor
/-
  WALKS: the reference's TokenAt at signs; TokenAt whole.
-/
namespace Go.Proofs.YtdjbejlbmaiocabGreatDoor
open Go.RowKit

theorem take2_data (s : ByteArray) (k : Nat) : (s.extract k (k + 2)).toList = (s.data.toList.drop k).take 2 := by
  rw [ByteArray.toList_eq, ByteArray.data_extract, Array.toList_extract, List.extract_eq_take_drop, Nat.add_sub_cancel_left]

set_option maxHeartbeats 800000 in
set_option maxRecDepth 100000 in
theorem at_sign2 (s : ByteArray) (k : Nat) (hk : k < s.size) (hs : s.size ≤ maxLen) (w : World) (hL : isL s[k] = false) (hD : isD s[k] = false) (h2 : sign2 (s.data.toList.drop k) = true) :
    Calls Tryz.prog 45 #[.string s, .int .i64 k] w fun e w' => e = .returned (.tuple #[.int .i64 3, .int .i64 2]) ∧ w' = w := by
  unfold maxLen at hs
  have hk2 : k + 2 ≤ s.size := by have := sign2_len _ h2; simp at this; omega
  have hx := take2_data s k
  have HL : Hid (isL s[k] = false) := hL
  have HD : Hid (isD s[k] = false) := hD
  have HX : Hid (((s.extract k (k + 2)).toList == [46, 46]) = true ∨ ((s.extract k (k + 2)).toList == [60, 61]) = true ∨ ((s.extract k (k + 2)).toList == [62, 61]) = true ∨ ((s.extract k (k + 2)).toList == [61, 61]) = true ∨ ((s.extract k (k + 2)).toList == [33, 61]) = true) := by
    rw [hx]; show _ ∨ _; simpa only [sign2, Bool.or_eq_true] using h2
  clear hL hD h2 hx
  go_enter Tryz.func45, Tryz.ntmps45
  go_wp2_with fail
  refine (rletter_any _ _).mono ?_
  rintro e w ⟨rfl, rfl⟩
  rw [HL.out]
  go_wp2_with fail
  refine (rdigit_any _ _).mono ?_
  rintro e w ⟨rfl, rfl⟩
  rw [HD.out]
  rcases HX.out with h | h | h | h | h
  all_goals
    go_wp2
    all_goals (go_ret2; exact ⟨rfl, rfl⟩)

theorem sign1_of (c : UInt8) (n : Int) (h : (n == (c.toNat : Int)) = true) (hn : n = 91 ∨ n = 93 ∨ n = 59 ∨ n = 58 ∨ n = 44 ∨ n = 45) : sign1 c = true := by
  have h' : n = (c.toNat : Int) := by simpa using h
  unfold sign1
  rw [← h']
  rcases hn with rfl | rfl | rfl | rfl | rfl | rfl <;> decide
def noSign (m : Nat) (c : UInt8) : Prop :=
  (0 < m → ((c.toNat : Int) == 91) = false) ∧ (1 < m → ((c.toNat : Int) == 93) = false) ∧ (2 < m → ((c.toNat : Int) == 59) = false) ∧ (3 < m → ((c.toNat : Int) == 58) = false) ∧ (4 < m → ((c.toNat : Int) == 44) = false) ∧ (5 < m → ((c.toNat : Int) == 45) = false)
theorem noSign0 (c : UInt8) (_h : noSign 0 c) (hq : ((c.toNat : Int) == 91) = false) : noSign 1 c := ⟨fun _ => hq, fun h' => by omega, fun h' => by omega, fun h' => by omega, fun h' => by omega, fun h' => by omega⟩
theorem noSign1 (c : UInt8) (h : noSign 1 c) (hq : ((c.toNat : Int) == 93) = false) : noSign 2 c := ⟨fun _ => h.1 (by omega), fun _ => hq, fun h' => by omega, fun h' => by omega, fun h' => by omega, fun h' => by omega⟩
theorem noSign2 (c : UInt8) (h : noSign 2 c) (hq : ((c.toNat : Int) == 59) = false) : noSign 3 c := ⟨fun _ => h.1 (by omega), fun _ => h.2.1 (by omega), fun _ => hq, fun h' => by omega, fun h' => by omega, fun h' => by omega⟩
theorem noSign3 (c : UInt8) (h : noSign 3 c) (hq : ((c.toNat : Int) == 58) = false) : noSign 4 c := ⟨fun _ => h.1 (by omega), fun _ => h.2.1 (by omega), fun _ => h.2.2.1 (by omega), fun _ => hq, fun h' => by omega, fun h' => by omega⟩
theorem noSign4 (c : UInt8) (h : noSign 4 c) (hq : ((c.toNat : Int) == 44) = false) : noSign 5 c := ⟨fun _ => h.1 (by omega), fun _ => h.2.1 (by omega), fun _ => h.2.2.1 (by omega), fun _ => h.2.2.2.1 (by omega), fun _ => hq, fun h' => by omega⟩
theorem noSign5 (c : UInt8) (h : noSign 5 c) (hq : ((c.toNat : Int) == 45) = false) : noSign 6 c := ⟨fun _ => h.1 (by omega), fun _ => h.2.1 (by omega), fun _ => h.2.2.1 (by omega), fun _ => h.2.2.2.1 (by omega), fun _ => h.2.2.2.2.1 (by omega), fun _ => hq⟩
theorem sign1_not (c : UInt8) (h : noSign 6 c) : sign1 c = false := by
  obtain ⟨g1, g2, g3, g4, g5, g6⟩ := h
  unfold sign1
  rw [g1 (by omega), g2 (by omega), g3 (by omega), g4 (by omega), g5 (by omega), g6 (by omega)]; rfl

set_option maxHeartbeats 1600000 in
set_option maxRecDepth 100000 in
theorem at_sign1 (s : ByteArray) (k : Nat) (hk : k < s.size) (hs : s.size ≤ maxLen) (w : World) (hL : isL s[k] = false) (hD : isD s[k] = false) (h2 : sign2 (s.data.toList.drop k) = false) :
    Calls Tryz.prog 45 #[.string s, .int .i64 k] w fun e w' => e = .returned (.tuple #[.int .i64 (if sign1 s[k] then 3 else 0), .int .i64 (if sign1 s[k] then 1 else 0)]) ∧ w' = w := by
  unfold maxLen at hs
  have hx := take2_data s k
  have HL : Hid (isL s[k] = false) := hL
  have HD : Hid (isD s[k] = false) := hD
  have hx5 : ((s.extract k (k + 2)).toList == [46, 46]) = false ∧ ((s.extract k (k + 2)).toList == [60, 61]) = false ∧ ((s.extract k (k + 2)).toList == [62, 61]) = false ∧ ((s.extract k (k + 2)).toList == [61, 61]) = false ∧ ((s.extract k (k + 2)).toList == [33, 61]) = false := by
    rw [hx]; simpa only [sign2, Bool.or_eq_false_iff] using h2
  obtain ⟨x1, x2, x3, x4, x5⟩ := hx5
  clear hL hD h2 hx
  obtain ⟨r1, hr1⟩ : ∃ r : Int, (if sign1 s[k] then 3 else 0) = r := ⟨_, rfl⟩
  obtain ⟨r2, hr2⟩ : ∃ r : Int, (if sign1 s[k] then 1 else 0) = r := ⟨_, rfl⟩
  have HR1 : Hid (((if sign1 s[k] then 3 else 0) : Int) = r1 ∧ ((if sign1 s[k] then 1 else 0) : Int) = r2) := ⟨hr1, hr2⟩
  rw [hr1, hr2]
  clear hr1 hr2
  go_enter Tryz.func45, Tryz.ntmps45
  go_wp2_with fail
  refine (rletter_any _ _).mono ?_
  rintro e w ⟨rfl, rfl⟩
  rw [HL.out]
  go_wp2_with fail
  refine (rdigit_any _ _).mono ?_
  rintro e w ⟨rfl, rfl⟩
  rw [HD.out]
  by_cases hk2 : k + 2 ≤ s.size
  all_goals
    go_wp2_with fail
    clear x1 x2 x3 x4 x5
    go_loop [10] (fun i => ∃ (m : Nat) (z : Int), m ≤ 6 ∧ z = m ∧ i = .int .i64 z ∧ noSign m s[k]) (fun i => 6 - (intOf i).toNat)
    case atStart => exact ⟨0, 0, by omega, rfl, rfl, by refine ⟨?_, ?_, ?_, ?_, ?_, ?_⟩ <;> (intro h; omega)⟩
    case round =>
      obtain ⟨m, z, hm, hz, rfl, hns⟩ := hrel
      rcases (show m = 0 ∨ m = 1 ∨ m = 2 ∨ m = 3 ∨ m = 4 ∨ m = 5 ∨ m = 6 by omega) with rfl | rfl | rfl | rfl | rfl | rfl | rfl
      · obtain rfl : z = 0 := by omega
        clear hz hm
        cases hq0 : ((((⟨#[91, 93, 59, 58, 44, 45]⟩ : ByteArray)[0]'(by decide)).toNat : Int) == (s[k].toNat : Int))
        · have hq : ((91 : Int) == (s[k].toNat : Int)) = false := hq0
          go_wp2
          go_round
          case rel => exact ⟨1, 1, by omega, rfl, by go_num, noSign0 _ hns (by rw [← hq]; exact BEq.comm)⟩
          case measure => simp [intOf]
        · have hq : ((91 : Int) == (s[k].toNat : Int)) = true := hq0
          have HY : Hid (r1 = 3 ∧ r2 = 1) := by rw [← HR1.out.1, ← HR1.out.2]; rw [sign1_of _ _ hq (by omega)]; exact ⟨rfl, rfl⟩
          obtain ⟨rfl, rfl⟩ := HY.out
          go_wp2
          go_ret2
          exact ⟨rfl, rfl⟩
      · obtain rfl : z = 1 := by omega
        clear hz hm
        cases hq0 : ((((⟨#[91, 93, 59, 58, 44, 45]⟩ : ByteArray)[1]'(by decide)).toNat : Int) == (s[k].toNat : Int))
        · have hq : ((93 : Int) == (s[k].toNat : Int)) = false := hq0
          go_wp2
          go_round
          case rel => exact ⟨2, 2, by omega, rfl, by go_num, noSign1 _ hns (by rw [← hq]; exact BEq.comm)⟩
          case measure => simp [intOf]
        · have hq : ((93 : Int) == (s[k].toNat : Int)) = true := hq0
          have HY : Hid (r1 = 3 ∧ r2 = 1) := by rw [← HR1.out.1, ← HR1.out.2]; rw [sign1_of _ _ hq (by omega)]; exact ⟨rfl, rfl⟩
          obtain ⟨rfl, rfl⟩ := HY.out
          go_wp2
          go_ret2
          exact ⟨rfl, rfl⟩
      · obtain rfl : z = 2 := by omega
        clear hz hm
        cases hq0 : ((((⟨#[91, 93, 59, 58, 44, 45]⟩ : ByteArray)[2]'(by decide)).toNat : Int) == (s[k].toNat : Int))
        · have hq : ((59 : Int) == (s[k].toNat : Int)) = false := hq0
          go_wp2
          go_round
          case rel => exact ⟨3, 3, by omega, rfl, by go_num, noSign2 _ hns (by rw [← hq]; exact BEq.comm)⟩
          case measure => simp [intOf]
        · have hq : ((59 : Int) == (s[k].toNat : Int)) = true := hq0
          have HY : Hid (r1 = 3 ∧ r2 = 1) := by rw [← HR1.out.1, ← HR1.out.2]; rw [sign1_of _ _ hq (by omega)]; exact ⟨rfl, rfl⟩
          obtain ⟨rfl, rfl⟩ := HY.out
          go_wp2
          go_ret2
          exact ⟨rfl, rfl⟩
      · obtain rfl : z = 3 := by omega
        clear hz hm
        cases hq0 : ((((⟨#[91, 93, 59, 58, 44, 45]⟩ : ByteArray)[3]'(by decide)).toNat : Int) == (s[k].toNat : Int))
        · have hq : ((58 : Int) == (s[k].toNat : Int)) = false := hq0
          go_wp2
          go_round
          case rel => exact ⟨4, 4, by omega, rfl, by go_num, noSign3 _ hns (by rw [← hq]; exact BEq.comm)⟩
          case measure => simp [intOf]
        · have hq : ((58 : Int) == (s[k].toNat : Int)) = true := hq0
          have HY : Hid (r1 = 3 ∧ r2 = 1) := by rw [← HR1.out.1, ← HR1.out.2]; rw [sign1_of _ _ hq (by omega)]; exact ⟨rfl, rfl⟩
          obtain ⟨rfl, rfl⟩ := HY.out
          go_wp2
          go_ret2
          exact ⟨rfl, rfl⟩
      · obtain rfl : z = 4 := by omega
        clear hz hm
        cases hq0 : ((((⟨#[91, 93, 59, 58, 44, 45]⟩ : ByteArray)[4]'(by decide)).toNat : Int) == (s[k].toNat : Int))
        · have hq : ((44 : Int) == (s[k].toNat : Int)) = false := hq0
          go_wp2
          go_round
          case rel => exact ⟨5, 5, by omega, rfl, by go_num, noSign4 _ hns (by rw [← hq]; exact BEq.comm)⟩
          case measure => simp [intOf]
        · have hq : ((44 : Int) == (s[k].toNat : Int)) = true := hq0
          have HY : Hid (r1 = 3 ∧ r2 = 1) := by rw [← HR1.out.1, ← HR1.out.2]; rw [sign1_of _ _ hq (by omega)]; exact ⟨rfl, rfl⟩
          obtain ⟨rfl, rfl⟩ := HY.out
          go_wp2
          go_ret2
          exact ⟨rfl, rfl⟩
      · obtain rfl : z = 5 := by omega
        clear hz hm
        cases hq0 : ((((⟨#[91, 93, 59, 58, 44, 45]⟩ : ByteArray)[5]'(by decide)).toNat : Int) == (s[k].toNat : Int))
        · have hq : ((45 : Int) == (s[k].toNat : Int)) = false := hq0
          go_wp2
          go_round
          case rel => exact ⟨6, 6, by omega, rfl, by go_num, noSign5 _ hns (by rw [← hq]; exact BEq.comm)⟩
          case measure => simp [intOf]
        · have hq : ((45 : Int) == (s[k].toNat : Int)) = true := hq0
          have HY : Hid (r1 = 3 ∧ r2 = 1) := by rw [← HR1.out.1, ← HR1.out.2]; rw [sign1_of _ _ hq (by omega)]; exact ⟨rfl, rfl⟩
          obtain ⟨rfl, rfl⟩ := HY.out
          go_wp2
          go_ret2
          exact ⟨rfl, rfl⟩
      · obtain rfl : z = 6 := by omega
        clear hz hm
        have HY : Hid (r1 = 0 ∧ r2 = 0) := by rw [← HR1.out.1, ← HR1.out.2]; rw [sign1_not _ hns]; exact ⟨rfl, rfl⟩
        obtain ⟨rfl, rfl⟩ := HY.out
        go_wp2
        go_ret2
        exact ⟨rfl, rfl⟩

theorem at_any (s : ByteArray) (k : Nat) (hk : k < s.size) (hs : s.size ≤ maxLen) (w : World) :
    Calls Tryz.prog 45 #[.string s, .int .i64 k] w fun e w' => e = .returned (.tuple #[.int .i64 (kindOf s.data.toList k), .int .i64 (endOf s.data.toList k - k : Nat)]) ∧ w' = w := by
  have hl : k < s.data.toList.length := by simpa using hk
  have hb : byteAt s.data.toList k = s[k] := by rw [byteAt_get _ _ hl]; exact list_get s k hk _
  have hb0 : byteAt (s.data.toList.drop k) 0 = s[k] := by rw [← hb]; unfold byteAt; simp
  cases hL : isL s[k]
  · cases hD : isD s[k]
    · cases h2 : sign2 (s.data.toList.drop k)
      · have e1 : ((kindOf s.data.toList k : Nat) : Int) = (if sign1 s[k] then 3 else 0) := by unfold kindOf signN; rw [hb, hb0, hL, hD, h2]; cases sign1 s[k] <;> rfl
        have e2 : ((endOf s.data.toList k - k : Nat) : Int) = (if sign1 s[k] then 1 else 0) := by unfold endOf signN; rw [hb, hb0, hL, hD, h2]; cases sign1 s[k] <;> simp
        rw [e1, e2]; exact at_sign1 s k hk hs w hL hD h2
      · have e1 : ((kindOf s.data.toList k : Nat) : Int) = 3 := by unfold kindOf signN; rw [hb, hL, hD, h2]; rfl
        have e2 : ((endOf s.data.toList k - k : Nat) : Int) = 2 := by unfold endOf signN; rw [hb, hL, hD, h2]; simp
        rw [e1, e2]; exact at_sign2 s k hk hs w hL hD h2
    · have e1 : ((kindOf s.data.toList k : Nat) : Int) = 2 := by unfold kindOf; rw [hb, hL, hD]; rfl
      have e2 : endOf s.data.toList k = runTo isD s.data.toList k := by unfold endOf; rw [hb, hL, hD]; rfl
      rw [e1, e2]; exact at_digit s k hk hs w hL hD
  · have e1 : ((kindOf s.data.toList k : Nat) : Int) = 1 := by unfold kindOf; rw [hb, hL]; rfl
    have e2 : endOf s.data.toList k = runTo isW s.data.toList k := by unfold endOf; rw [hb, hL]; rfl
    rw [e1, e2]; exact at_letter s k hk hs w hL
end Go.Proofs.YtdjbejlbmaiocabGreatDoor
