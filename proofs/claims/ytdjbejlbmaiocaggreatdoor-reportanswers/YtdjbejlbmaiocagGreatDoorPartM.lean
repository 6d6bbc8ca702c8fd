/-
  PART 13 of what the proof leans on (TxtF, TxtG, TxtH, TxtI, TxtJ, TxtK, TxtL, TxtM).
-/
import Derived.Test.YtdjbejlbmaiocagGreatDoorPartL
import Derived.Laws.OwnMore
/-
  MEMORY: lists that are new, above a block, stay while the reader goes on. WALK: package text: readList of numbers.
-/
namespace Go.Proofs.YtdjbejlbmaiocagGreatDoor
open Go.RowKit

theorem own_fr {X : Nat → Prop} {w w' : World} {base : Nat} {e : TypeId} {size n : Nat} {v : Value} {xs : List Value} (h : w.ownsRow base e size v n xs) (hf : Fr X w w') (hX : ∀ k, X k → k < base) : w'.ownsRow base e size v n xs := by
  refine ⟨h.1, ?_⟩
  rcases h.2 with hn | ⟨g, cap, cur, hv, hg, hh, r⟩
  · exact .inl hn
  · exact .inr ⟨g, cap, cur, hv, hg, by rw [hf.block g (Array.getElem?_eq_some_iff.1 hh).1 (fun hx => by have := hX g hx; omega)]; exact hh, r⟩
theorem Rd.grown {N R M : Nat} {en : Int} {w w' : World} {l : List Tok} {row : Option Nat} (h : Rd N R M en w l) (hg : w.grownBy w' row) (hr : ∀ k, row = some k → k ≠ R ∧ N ≤ k) : Rd N R M en w' l := by
  obtain ⟨⟨h1, h2, h3⟩, v, hR, ht⟩ := h
  have hRl : R < w.heap.size := (Array.getElem?_eq_some_iff.1 hR).1
  refine ⟨⟨h1, Nat.le_trans h2 hg.size, h3⟩, v, (hg.block R hRl (fun e => (hr R e.symm).1 rfl)).trans hR, ht.old fun q hq => World.cell?_of_block (hg.block _ (by omega) (fun e => by have := (hr _ e.symm).2; omega))⟩
theorem solid_open : solid ⟨#[91]⟩ := by unfold solid; simp [go_sem]
theorem solid_close : solid ⟨#[93]⟩ := by unfold solid; simp [go_sem]
theorem solid_comma : solid ⟨#[44]⟩ := by unfold solid; simp [go_sem]
/-- How many tokens a reader has. -/
def leftT (R : Nat) (w : World) : Nat := match w.cell? ⟨R, 0, none⟩ with
  | some (.slice _ n _) => n
  | _ => 0
theorem leftT_rd {N R M : Nat} {en : Int} {w : World} {l : List Tok} (h : Rd N R M en w l) : leftT R w = l.length := by
  obtain ⟨_, v, hR, a, c, rfl, _⟩ := h
  unfold leftT
  rw [Lib.cell_of_heap hR]
  rfl
/-- A thing that is read, by a bound method; what must be of the world besides stays. -/
def Item {α : Type} (B N R M : Nat) (en : Int) (F : Nat) (item : List Tok → PR α) (G : α → Value → World → Prop) (I : World → Prop) : Prop :=
  (∀ (args : Array Value) (w' : World), Sem.run Tryz.prog (callFunc F args) w' = .ok (.enter F args) w') ∧ (∀ w w', I w → Fr (fun k => k = R ∨ B ≤ k) w w' → I w') ∧
  ∀ (w : World) (l : List Tok), Rd N R M en w l → I w → Calls Tryz.prog F #[.pointer (some ⟨R, 0, none⟩)] w (PostR (item l) G N R M en (fun k => k = R) w)
theorem Tryz.infoInt5 : (Tryz.prog.info? 3).map (fun i => (i.zero, i.size, i.bytes)) = some (some (.int .i64 0), 1, 8) := by kernel_rfl
theorem Tryz.underInts5 : Tryz.prog.underlying 26 = some (.slice 3) := by kernel_rfl
theorem PR_bad_bind {α β : Type} {p : PR α} {f : α → List Tok → PR β} {x e : Int} (h : p = .bad x e) : p.bind f = .bad x e := by rw [h]; rfl
theorem PR_ok_bind {α β : Type} {p : PR α} {f : α → List Tok → PR β} {a : α} {r : List Tok} (h : p = .ok a r) : p.bind f = f a r := by rw [h]; rfl
theorem skip_len {en : Int} {s : ByteArray} (hs : solid s) {l r : List Tok} {t : Tok} (h : skipP en s l = .ok t r) : r.length + 1 = l.length := by
  have h1 := pass_eats en l _ t r h
  unfold skipP passP at h
  split at h
  · rename_i hb
    have := head_some en l s hs hb
    rw [h1]
    cases l with
    | nil => exact absurd rfl this
    | cons a l => simp
  · cases h

theorem one_laid5 (w : World) (z : Int) : ∀ (j : Nat) (u : Value), [Value.int .i64 z][j]? = some u → (w.alloc (.cells #[.int .i64 z] 3)).cell? ((⟨w.heap.size, 0, none⟩ : Addr).add j) = some u := by
  intro j u hj
  match j, hj with
  | 0, hj => simp at hj; subst hj; simp [Addr.add]
set_option maxHeartbeats 3200000 in
set_option maxRecDepth 100000 in
theorem readints_any (N R M : Nat) (en : Int) (F : Nat) (item : List Tok → PR Int) (I : World → Prop) (hE : Eats item) (B : Nat) (hI : Item B N R M en F item (fun i v _ => v = .int .i64 i) I) (w : World) (hBw : B ≤ w.heap.size) (l : List Tok) (h : Rd N R M en w l) (hi0 : I w) (hl : l.length ≤ 4000) :
    Calls Tryz.prog 276 #[.pointer (some ⟨R, 0, none⟩), .func (.func F) #[.pointer (some ⟨R, 0, none⟩)] #[]] w
      (PostR (readP en item l) (fun xs v w' => w'.ownsRow w.heap.size 3 1 v xs.length (xs.map (Value.int .i64)) ∧ I w') N R M en (fun k => k = R) w) := by
  have HB : Hid (Rd N R M en w l) := h
  have HI0 : Hid (I w) := hi0
  have HIT : Hid (Item B N R M en F item (fun i v _ => v = .int .i64 i) I) := hI
  have HE : Hid (Eats item) := hE
  have hRw : R < w.heap.size := by obtain ⟨_, _, hR, _⟩ := h; exact (Array.getElem?_eq_some_iff.1 hR).1
  have HX : Hid (∀ k, (fun k => k = R) k → k < w.heap.size) := fun k hk => by subst hk; exact hRw
  obtain ⟨i0, hi, hz0, hz1, hz2⟩ := info_parts Tryz.infoInt5
  obtain ⟨P, hP⟩ : ∃ P, readP en item l = P := ⟨_, rfl⟩
  have HP : Hid (readP en item l = P) := hP
  rw [hP]
  clear hP h hi0 hI hE
  go_enter Tryz.func276, Tryz.ntmps276
  go_wp2_with fail
  refine (rskip_any N R M en ⟨#[91]⟩ solid_open w l HB.out).mono ?_
  intro e w1 hp
  cases hs : skipP en ⟨#[91]⟩ l with
  | bad x er =>
    rw [hs] at hp
    obtain ⟨rfl, hfr⟩ := hp
    have HPB : Hid (P = .bad x er) := by show _ = _; rw [← HP.out]; unfold readP; rw [hs]; rfl
    clear hs
    go_wp2
    exact ⟨rfl, by rw [HPB.out]; exact ⟨rfl, hfr⟩⟩
  | ok t q =>
    rw [hs] at hp
    obtain ⟨v, rfl, rfl, hrd, hfr⟩ := hp
    have HRD : Hid (Rd N R M en w1 q) := hrd
    have HFR : Hid (Fr (fun k => k = R) w w1) := hfr
    have hql : q.length + 1 = l.length := skip_len solid_open hs
    have HQL : Hid (q.length + 1 = l.length) := hql
    have HP1 : Hid (P = if (headT en q).text.toList == [93] then (skipP en ⟨#[93]⟩ q).bind fun _ l => .ok [] l else (item q).bind fun x l => moreP en item (l.length + 1) [x] l) := by
      show _ = _; rw [← HP.out]; unfold readP; rw [hs]; rfl
    have hf2 := tokF2 (headT en q)
    clear hs hrd hfr HP hql
    go_wp2_with fail
    refine (ahead_any N R M en _ q HRD.out).mono ?_
    rintro e w2 ⟨rfl, hb2⟩
    have HR2 : Hid (Rd N R M en w2 q) := HRD.out.below hb2
    have HF2 : Hid (Fr (fun k => k = R) w w2) := HFR.out.trans (Fr.below hb2)
    unfold tokA
    clear hb2
    cases hq : ((headT en q).text.toList == [93])
    · have HP2 : Hid (P = (item q).bind fun x l => moreP en item (l.length + 1) [x] l) := by show _ = _; rw [HP1.out, hq]; rfl
      have HI2 : Hid (I w2) := HIT.out.2.1 _ _ HI0.out (HF2.out.weak fun k hk => Or.inl hk)
      clear HP1
      go_wp2_with fail
      rw [HIT.out.1, Oper.upon_enter]
      refine (HIT.out.2.2 w2 q HR2.out HI2.out).mono ?_
      intro e w3 hp
      cases hit : item q with
      | bad x er =>
        rw [hit] at hp
        obtain ⟨rfl, hfr⟩ := hp
        have hfr2 := HF2.out.trans hfr
        have HPB : Hid (P = .bad x er) := by show _ = _; rw [HP2.out, hit]; rfl
        clear hit hq hfr
        go_wp2
        exact ⟨rfl, by rw [HPB.out]; exact ⟨rfl, hfr2⟩⟩
      | ok x r =>
        rw [hit] at hp
        obtain ⟨v, rfl, rfl, hrd, hfr⟩ := hp
        have HR3 : Hid (Rd N R M en w3 r) := hrd
        have HF3 : Hid (Fr (fun k => k = R) w w3) := HF2.out.trans hfr
        have HI3 : Hid (I w3) := HIT.out.2.1 _ _ HI2.out (hfr.weak fun k hk => Or.inl hk)
        have HRL : Hid (r.length ≤ q.length) := HE.out q x r hit
        have HP3 : Hid (P = moreP en item (r.length + 1) [x] r) := by show _ = _; rw [HP2.out, hit]; rfl
        have hsz3 : w.heap.size ≤ w3.heap.size := HF3.out.size
        clear hit hrd hfr hq hf2 HP2
        go_wp2_with (at_builtin; refine wpList_append_own _ rfl _ _ 26 rfl w.heap.size 3 i0 (.int .i64 0) 1 8 Tryz.underInts5 hi hz0 hz1 hz2 rfl (by decide) _ _ _ rfl (World.ownsRow_nil _ _ _ _) ⟨w3.heap.size, 0, none⟩ 1 1 [.int .i64 x] rfl rfl ?c1 ?c2 ?c3 ?c4 ?c5 ?_)
        case c1 => exact one_laid5 w3 x
        case c2 => intro u hu; rcases List.mem_singleton.1 hu with rfl; rfl
        case c3 => unfold maxLen; omega
        case c4 => omega
        case c5 => simp; omega
        intro v5 w5 hown5 hg5 _
        have HR5 : Hid (Rd N R M en w5 r) := (HR3.out.below (below_alloc _ _)).grown hg5 (fun k hk => by cases hk)
        have HF5 : Hid (Fr (fun k => k = R) w w5) := (HF3.out.alloc _).grown hg5 (fun k hk => by cases hk)
        have HI5 : Hid (I w5) := HIT.out.2.1 _ _ HI3.out (((Fr.refl _ _).alloc _).grown hg5 (fun k hk => by cases hk))
        have HO5 : Hid (w5.ownsRow w.heap.size 3 1 v5 [x].length ([x].map (Value.int .i64))) := hown5
        clear hown5 hg5
        go_wp2_with fail
        go_loopw [5] (fun v wr => ∃ (f : Nat) (acc : List Int) (q : List Tok), Hid (P = moreP en item f acc q) ∧ Hid (Rd N R M en wr q) ∧ Hid (I wr) ∧ Hid (wr.ownsRow w.heap.size 3 1 v acc.length (acc.map (Value.int .i64))) ∧ Hid (Fr (fun k => k = R) w wr) ∧ q.length + 1 ≤ f ∧ acc.length + q.length ≤ 4000) (fun _ wr => leftT R wr)
        case atStart => exact ⟨_, [x], r, HP3, HR5, HI5, HO5, HF5, by omega, by have := HRL.out; have := HQL.out; simp; omega⟩
        case round =>
          obtain ⟨f, acc, q, HPM, HRM, HIM, HOM, HFM, hf, hlen⟩ := hrel
          obtain ⟨g, rfl⟩ : ∃ g, f = g + 1 := ⟨f - 1, by omega⟩
          have hf2 := tokF2 (headT en q)
          obtain ⟨av, cv, hv⟩ := own_form HOM.out
          subst hv
          have HCM : Hid ((⟨#[44]⟩ : ByteArray).toList = [44]) := by show _ = _; simp [go_sem]
          cases hc : ((headT en q).text.toList == [44])
          · have HPE : Hid (P = (skipP en ⟨#[93]⟩ q).bind fun _ l => .ok acc l) := by show _ = _; rw [HPM.out]; unfold moreP; rw [hc]; rfl
            go_wp2_with fail
            refine (ahead_any N R M en _ q HRM.out).mono ?_
            rintro e w6 ⟨rfl, hb6⟩
            have HR6 : Hid (Rd N R M en w6 q) := HRM.out.below hb6
            have HF6 : Hid (Fr (fun k => k = R) w w6) := HFM.out.trans (Fr.below hb6)
            have HI6 : Hid (I w6) := HIT.out.2.1 _ _ HIM.out (Fr.below hb6)
            have HO6 : Hid (w6.ownsRow w.heap.size 3 1 (.slice av acc.length cv) acc.length (acc.map (Value.int .i64))) := own_below HOM.out hb6
            unfold tokA
            clear hb6
            go_wp2_with fail
            refine (rskip_any N R M en ⟨#[93]⟩ solid_close w6 q HR6.out).mono ?_
            intro e w7 hp
            cases hs : skipP en ⟨#[93]⟩ q with
            | bad x er =>
              rw [hs] at hp
              obtain ⟨rfl, hfr⟩ := hp
              have hfr2 := HF6.out.trans hfr
              have HPB : Hid (P = .bad x er) := by show _ = _; rw [HPE.out, hs]; rfl
              clear hs hc hfr
              go_wp2
              exact ⟨rfl, by rw [HPB.out]; exact ⟨rfl, hfr2⟩⟩
            | ok t q2 =>
              rw [hs] at hp
              obtain ⟨v, rfl, rfl, hrd, hfr⟩ := hp
              have hfr2 := HF6.out.trans hfr
              have HI7 : Hid (I w7) := HIT.out.2.1 _ _ HI6.out (hfr.weak fun k hk => Or.inl hk)
              have HO7 : Hid (w7.ownsRow w.heap.size 3 1 (.slice av acc.length cv) acc.length (acc.map (Value.int .i64))) := own_fr HO6.out hfr HX.out
              have HPB : Hid (P = .ok acc q2) := by show _ = _; rw [HPE.out, hs]; rfl
              clear hs hc hfr
              go_wp2
              go_ret
              rw [HPB.out]
              exact ⟨_, rfl, ⟨HO7.out, HI7.out⟩, hrd, hfr2⟩
          · have hne := head_some en q ⟨#[44]⟩ solid_comma (by rw [HCM.out]; exact hc)
            have HSK : Hid (skipP en ⟨#[44]⟩ q = .ok (headT en q) q.tail) := by show _ = _; unfold skipP passP; rw [HCM.out, hc]; rfl
            obtain ⟨q2, hq2⟩ : ∃ q2, q.tail = q2 := ⟨_, rfl⟩
            have HQ2 : Hid (q.tail = q2) := hq2
            have hql2 : q2.length + 1 = q.length := by
              rw [← hq2]
              cases q with
              | nil => exact absurd rfl hne
              | cons a q => simp
            have HPE : Hid (P = (item q2).bind fun x l => moreP en item g (acc ++ [x]) l) := by show _ = _; rw [HPM.out, moreP, hc, if_pos rfl, HSK.out, ← hq2]; rfl
            clear hne hq2
            go_wp2_with fail
            refine (ahead_any N R M en _ q HRM.out).mono ?_
            rintro e w6 ⟨rfl, hb6⟩
            have HR6 : Hid (Rd N R M en w6 q) := HRM.out.below hb6
            have HF6 : Hid (Fr (fun k => k = R) w w6) := HFM.out.trans (Fr.below hb6)
            have HI6 : Hid (I w6) := HIT.out.2.1 _ _ HIM.out (Fr.below hb6)
            have HO6 : Hid (w6.ownsRow w.heap.size 3 1 (.slice av acc.length cv) acc.length (acc.map (Value.int .i64))) := own_below HOM.out hb6
            unfold tokA
            clear hb6
            go_wp2_with fail
            refine (rskip_any N R M en ⟨#[44]⟩ solid_comma w6 q HR6.out).mono ?_
            intro e w7 hp
            rw [HSK.out] at hp
            obtain ⟨v, rfl, rfl, hrd, hfr⟩ := hp
            have HR7 : Hid (Rd N R M en w7 q2) := by rw [← HQ2.out]; exact hrd
            have HF7 : Hid (Fr (fun k => k = R) w w7) := HF6.out.trans hfr
            have HI7 : Hid (I w7) := HIT.out.2.1 _ _ HI6.out (hfr.weak fun k hk => Or.inl hk)
            have HO7 : Hid (w7.ownsRow w.heap.size 3 1 (.slice av acc.length cv) acc.length (acc.map (Value.int .i64))) := own_fr HO6.out hfr HX.out
            clear hrd hfr hc hf2
            go_wp2_with fail
            rw [HIT.out.1, Oper.upon_enter]
            refine (HIT.out.2.2 w7 q2 HR7.out HI7.out).mono ?_
            intro e w8 hp
            cases hit : item q2 with
            | bad x er =>
              rw [hit] at hp
              obtain ⟨rfl, hfr⟩ := hp
              have hfr2 := HF7.out.trans hfr
              have HPB : Hid (P = .bad x er) := by show _ = _; rw [HPE.out, hit]; rfl
              clear hit hfr
              go_wp2
              exact ⟨rfl, by rw [HPB.out]; exact ⟨rfl, hfr2⟩⟩
            | ok x r =>
              rw [hit] at hp
              obtain ⟨v, rfl, rfl, hrd, hfr⟩ := hp
              have HR8 : Hid (Rd N R M en w8 r) := hrd
              have HF8 : Hid (Fr (fun k => k = R) w w8) := HF7.out.trans hfr
              have HI8 : Hid (I w8) := HIT.out.2.1 _ _ HI7.out (hfr.weak fun k hk => Or.inl hk)
              have HO8 : Hid (w8.ownsRow w.heap.size 3 1 (.slice av acc.length cv) acc.length (acc.map (Value.int .i64))) := own_fr HO7.out hfr HX.out
              have hrl : r.length ≤ q2.length := HE.out q2 x r hit
              have HPN : Hid (P = moreP en item g (acc ++ [x]) r) := by show _ = _; rw [HPE.out, hit]; rfl
              have hsz8 : w.heap.size ≤ w8.heap.size := HF8.out.size
              have hox := HO8.out.alloc (.cells #[.int .i64 x] 3)
              clear hit hrd hfr
              go_wp2_with (at_builtin; refine wpList_append_own _ rfl _ _ 26 rfl w.heap.size 3 i0 (.int .i64 0) 1 8 Tryz.underInts5 hi hz0 hz1 hz2 rfl (by decide) _ _ _ rfl hox ⟨w8.heap.size, 0, none⟩ 1 1 [.int .i64 x] rfl rfl ?c1 ?c2 ?c3 ?c4 ?c5 ?_)
              case c1 => exact one_laid5 w8 x
              case c2 => intro u hu; rcases List.mem_singleton.1 hu with rfl; rfl
              case c3 => unfold maxLen; omega
              case c4 => omega
              case c5 => simp; omega
              intro v9 w9 hown9 hg9 _
              have hrow : ∀ k, (Value.slice av acc.length cv).ownBlock = some k → w.heap.size ≤ k := fun k hk => (HO8.out.lt k hk).1
              have HR9 : Hid (Rd N R M en w9 r) := (HR8.out.below (below_alloc _ _)).grown hg9 (fun k hk => ⟨by have := hrow k hk; omega, by have := hrow k hk; have := HB.out.1.2.1; omega⟩)
              have HF9 : Hid (Fr (fun k => k = R) w w9) := (HF8.out.alloc _).grown hg9 (fun k hk => Or.inr (hrow k hk))
              have HI9 : Hid (I w9) := HIT.out.2.1 _ _ HI8.out (((Fr.refl _ _).alloc _).grown hg9 (fun k hk => Or.inl (Or.inr (by have := hrow k hk; omega))))
              have HO9 : Hid (w9.ownsRow w.heap.size 3 1 v9 (acc ++ [x]).length ((acc ++ [x]).map (Value.int .i64))) := by
                rw [List.length_append, List.map_append]; exact hown9
              have HM9 : Hid (leftT R w9 < leftT R wr) := by show _ < _; rw [leftT_rd HR9.out, leftT_rd HRM.out]; omega
              clear hown9 hg9 hrow hox
              go_wp2
              go_roundw
              case rel => exact ⟨g, acc ++ [x], r, HPN, HR9, HI9, HO9, HF9, by omega, by simp; omega⟩
              case measure => exact HM9.out
    · have HP2 : Hid (P = (skipP en ⟨#[93]⟩ q).bind fun _ l => .ok [] l) := by show _ = _; rw [HP1.out, hq]; rfl
      have HI2 : Hid (I w2) := HIT.out.2.1 _ _ HI0.out (HF2.out.weak fun k hk => Or.inl hk)
      clear HP1
      go_wp2_with fail
      refine (rskip_any N R M en ⟨#[93]⟩ solid_close w2 q HR2.out).mono ?_
      intro e w7 hp
      cases hs : skipP en ⟨#[93]⟩ q with
      | bad x er =>
        rw [hs] at hp
        obtain ⟨rfl, hfr⟩ := hp
        have hfr2 := HF2.out.trans hfr
        have HPB : Hid (P = .bad x er) := by show _ = _; rw [HP2.out, hs]; rfl
        clear hs hq hfr
        go_wp2
        exact ⟨rfl, by rw [HPB.out]; exact ⟨rfl, hfr2⟩⟩
      | ok t q2 =>
        rw [hs] at hp
        obtain ⟨v, rfl, rfl, hrd, hfr⟩ := hp
        have hfr2 := HF2.out.trans hfr
        have HI7 : Hid (I w7) := HIT.out.2.1 _ _ HI2.out (hfr.weak fun k hk => Or.inl hk)
        have HPB : Hid (P = .ok [] q2) := by show _ = _; rw [HP2.out, hs]; rfl
        clear hs hq hfr
        go_wp2
        go_ret
        rw [HPB.out]
        exact ⟨_, rfl, ⟨World.ownsRow_nil _ _ _ _, HI7.out⟩, hrd, hfr2⟩
end Go.Proofs.YtdjbejlbmaiocagGreatDoor
/-
  WALK: package text: readList of literals.
-/
namespace Go.Proofs.YtdjbejlbmaiocagGreatDoor
open Go.RowKit

def litA (l : MLit) : Value := .agg #[.int .i64 l.var, .int .i64 l.op, .int .i64 l.n]
def litC (l : MLit) : List Value := [.int .i64 l.var, .int .i64 l.op, .int .i64 l.n]
theorem litC_one (l : MLit) : ∀ u ∈ litC l, u.oneCell' = true := by
  intro u hu
  simp only [litC, List.mem_cons, List.not_mem_nil, or_false] at hu
  rcases hu with rfl | rfl | rfl <;> rfl
theorem one_laidL (w : World) (z : MLit) : ∀ (j : Nat) (u : Value), (litC z)[j]? = some u → (w.alloc (.cells #[.int .i64 z.var, .int .i64 z.op, .int .i64 z.n] 88)).cell? ((⟨w.heap.size, 0, none⟩ : Addr).add j) = some u := by
  intro j u hj
  match j, hj with
  | 0, hj => simp [litC] at hj; subst hj; simp [Addr.add]
  | 1, hj => simp [litC] at hj; subst hj; simp [Addr.add]
  | 2, hj => simp [litC] at hj; subst hj; simp [Addr.add]
theorem Tryz.infoLit5 : (Tryz.prog.info? 88).map (fun i => (i.zero, i.size, i.bytes)) = some (some (.agg #[.int .i64 0, .int .i64 0, .int .i64 0]), 3, 24) := by kernel_rfl
theorem Tryz.underLits5 : Tryz.prog.underlying 37 = some (.slice 88) := by kernel_rfl
set_option maxHeartbeats 3200000 in
set_option maxRecDepth 100000 in
theorem readlits_any (N R M : Nat) (en : Int) (F : Nat) (item : List Tok → PR MLit) (I : World → Prop) (hE : Eats item) (B : Nat) (hI : Item B N R M en F item (fun i v _ => v = litA i) I) (w : World) (hBw : B ≤ w.heap.size) (l : List Tok) (h : Rd N R M en w l) (hi0 : I w) (hl : l.length ≤ 4000) :
    Calls Tryz.prog 278 #[.pointer (some ⟨R, 0, none⟩), .func (.func F) #[.pointer (some ⟨R, 0, none⟩)] #[]] w
      (PostR (readP en item l) (fun xs v w' => w'.ownsRow w.heap.size 88 3 v xs.length (xs.flatMap litC) ∧ I w') N R M en (fun k => k = R) w) := by
  have HB : Hid (Rd N R M en w l) := h
  have HI0 : Hid (I w) := hi0
  have HIT : Hid (Item B N R M en F item (fun i v _ => v = litA i) I) := hI
  have HE : Hid (Eats item) := hE
  have hRw : R < w.heap.size := by obtain ⟨_, _, hR, _⟩ := h; exact (Array.getElem?_eq_some_iff.1 hR).1
  have HX : Hid (∀ k, (fun k => k = R) k → k < w.heap.size) := fun k hk => by subst hk; exact hRw
  obtain ⟨i0, hi, hz0, hz1, hz2⟩ := info_parts Tryz.infoLit5
  obtain ⟨P, hP⟩ : ∃ P, readP en item l = P := ⟨_, rfl⟩
  have HP : Hid (readP en item l = P) := hP
  rw [hP]
  clear hP h hi0 hI hE
  go_enter Tryz.func278, Tryz.ntmps278
  go_wp2_with fail
  refine (rskip_any N R M en ⟨#[91]⟩ solid_open w l HB.out).mono ?_
  intro e w1 hp
  cases hs : skipP en ⟨#[91]⟩ l with
  | bad x er =>
    rw [hs] at hp
    obtain ⟨rfl, hfr⟩ := hp
    have HPB : Hid (P = .bad x er) := by show _ = _; rw [← HP.out]; unfold readP; rw [hs]; rfl
    clear hs
    go_wp2
    exact ⟨rfl, by rw [HPB.out]; exact ⟨rfl, hfr⟩⟩
  | ok t q =>
    rw [hs] at hp
    obtain ⟨v, rfl, rfl, hrd, hfr⟩ := hp
    have HRD : Hid (Rd N R M en w1 q) := hrd
    have HFR : Hid (Fr (fun k => k = R) w w1) := hfr
    have hql : q.length + 1 = l.length := skip_len solid_open hs
    have HQL : Hid (q.length + 1 = l.length) := hql
    have HP1 : Hid (P = if (headT en q).text.toList == [93] then (skipP en ⟨#[93]⟩ q).bind fun _ l => .ok [] l else (item q).bind fun x l => moreP en item (l.length + 1) [x] l) := by
      show _ = _; rw [← HP.out]; unfold readP; rw [hs]; rfl
    have hf2 := tokF2 (headT en q)
    clear hs hrd hfr HP hql
    go_wp2_with fail
    refine (ahead_any N R M en _ q HRD.out).mono ?_
    rintro e w2 ⟨rfl, hb2⟩
    have HR2 : Hid (Rd N R M en w2 q) := HRD.out.below hb2
    have HF2 : Hid (Fr (fun k => k = R) w w2) := HFR.out.trans (Fr.below hb2)
    unfold tokA
    clear hb2
    cases hq : ((headT en q).text.toList == [93])
    · have HP2 : Hid (P = (item q).bind fun x l => moreP en item (l.length + 1) [x] l) := by show _ = _; rw [HP1.out, hq]; rfl
      have HI2 : Hid (I w2) := HIT.out.2.1 _ _ HI0.out (HF2.out.weak fun k hk => Or.inl hk)
      clear HP1
      go_wp2_with fail
      rw [HIT.out.1, Oper.upon_enter]
      refine (HIT.out.2.2 w2 q HR2.out HI2.out).mono ?_
      intro e w3 hp
      cases hit : item q with
      | bad x er =>
        rw [hit] at hp
        obtain ⟨rfl, hfr⟩ := hp
        have hfr2 := HF2.out.trans hfr
        have HPB : Hid (P = .bad x er) := by show _ = _; rw [HP2.out, hit]; rfl
        clear hit hq hfr
        go_wp2
        exact ⟨rfl, by rw [HPB.out]; exact ⟨rfl, hfr2⟩⟩
      | ok x r =>
        rw [hit] at hp
        obtain ⟨v, rfl, rfl, hrd, hfr⟩ := hp
        unfold litA
        have HR3 : Hid (Rd N R M en w3 r) := hrd
        have HF3 : Hid (Fr (fun k => k = R) w w3) := HF2.out.trans hfr
        have HI3 : Hid (I w3) := HIT.out.2.1 _ _ HI2.out (hfr.weak fun k hk => Or.inl hk)
        have HRL : Hid (r.length ≤ q.length) := HE.out q x r hit
        have HP3 : Hid (P = moreP en item (r.length + 1) [x] r) := by show _ = _; rw [HP2.out, hit]; rfl
        have hsz3 : w.heap.size ≤ w3.heap.size := HF3.out.size
        clear hit hrd hfr hq hf2 HP2
        go_wp2_with (at_builtin; refine wpList_append_own _ rfl _ _ 37 rfl w.heap.size 88 i0 (.agg #[.int .i64 0, .int .i64 0, .int .i64 0]) 3 24 Tryz.underLits5 hi hz0 hz1 hz2 rfl (by decide) _ _ _ rfl (World.ownsRow_nil _ _ _ _) ⟨w3.heap.size, 0, none⟩ 1 1 (litC x) rfl rfl ?c1 ?c2 ?c3 ?c4 ?c5 ?_)
        case c1 => exact one_laidL w3 x
        case c2 => exact litC_one x
        case c3 => unfold maxLen; omega
        case c4 => omega
        case c5 => simp; omega
        intro v5 w5 hown5 hg5 _
        have HR5 : Hid (Rd N R M en w5 r) := (HR3.out.below (below_alloc _ _)).grown hg5 (fun k hk => by cases hk)
        have HF5 : Hid (Fr (fun k => k = R) w w5) := (HF3.out.alloc _).grown hg5 (fun k hk => by cases hk)
        have HI5 : Hid (I w5) := HIT.out.2.1 _ _ HI3.out (((Fr.refl _ _).alloc _).grown hg5 (fun k hk => by cases hk))
        have HO5 : Hid (w5.ownsRow w.heap.size 88 3 v5 [x].length ([x].flatMap litC)) := by unfold Hid; simpa using hown5
        clear hown5 hg5
        go_wp2_with fail
        go_loopw [5] (fun v wr => ∃ (f : Nat) (acc : List MLit) (q : List Tok), Hid (P = moreP en item f acc q) ∧ Hid (Rd N R M en wr q) ∧ Hid (I wr) ∧ Hid (wr.ownsRow w.heap.size 88 3 v acc.length (acc.flatMap litC)) ∧ Hid (Fr (fun k => k = R) w wr) ∧ q.length + 1 ≤ f ∧ acc.length + q.length ≤ 4000) (fun _ wr => leftT R wr)
        case atStart => exact ⟨_, [x], r, HP3, HR5, HI5, HO5, HF5, by omega, by have := HRL.out; have := HQL.out; simp; omega⟩
        case round =>
          obtain ⟨f, acc, q, HPM, HRM, HIM, HOM, HFM, hf, hlen⟩ := hrel
          obtain ⟨g, rfl⟩ : ∃ g, f = g + 1 := ⟨f - 1, by omega⟩
          have hf2 := tokF2 (headT en q)
          obtain ⟨av, cv, hv⟩ := own_form HOM.out
          subst hv
          have HCM : Hid ((⟨#[44]⟩ : ByteArray).toList = [44]) := by show _ = _; simp [go_sem]
          cases hc : ((headT en q).text.toList == [44])
          · have HPE : Hid (P = (skipP en ⟨#[93]⟩ q).bind fun _ l => .ok acc l) := by show _ = _; rw [HPM.out]; unfold moreP; rw [hc]; rfl
            go_wp2_with fail
            refine (ahead_any N R M en _ q HRM.out).mono ?_
            rintro e w6 ⟨rfl, hb6⟩
            have HR6 : Hid (Rd N R M en w6 q) := HRM.out.below hb6
            have HF6 : Hid (Fr (fun k => k = R) w w6) := HFM.out.trans (Fr.below hb6)
            have HI6 : Hid (I w6) := HIT.out.2.1 _ _ HIM.out (Fr.below hb6)
            have HO6 : Hid (w6.ownsRow w.heap.size 88 3 (.slice av acc.length cv) acc.length (acc.flatMap litC)) := own_below HOM.out hb6
            unfold tokA
            clear hb6
            go_wp2_with fail
            refine (rskip_any N R M en ⟨#[93]⟩ solid_close w6 q HR6.out).mono ?_
            intro e w7 hp
            cases hs : skipP en ⟨#[93]⟩ q with
            | bad x er =>
              rw [hs] at hp
              obtain ⟨rfl, hfr⟩ := hp
              have hfr2 := HF6.out.trans hfr
              have HPB : Hid (P = .bad x er) := by show _ = _; rw [HPE.out, hs]; rfl
              clear hs hc hfr
              go_wp2
              exact ⟨rfl, by rw [HPB.out]; exact ⟨rfl, hfr2⟩⟩
            | ok t q2 =>
              rw [hs] at hp
              obtain ⟨v, rfl, rfl, hrd, hfr⟩ := hp
              have hfr2 := HF6.out.trans hfr
              have HI7 : Hid (I w7) := HIT.out.2.1 _ _ HI6.out (hfr.weak fun k hk => Or.inl hk)
              have HO7 : Hid (w7.ownsRow w.heap.size 88 3 (.slice av acc.length cv) acc.length (acc.flatMap litC)) := own_fr HO6.out hfr HX.out
              have HPB : Hid (P = .ok acc q2) := by show _ = _; rw [HPE.out, hs]; rfl
              clear hs hc hfr
              go_wp2
              go_ret
              rw [HPB.out]
              exact ⟨_, rfl, ⟨HO7.out, HI7.out⟩, hrd, hfr2⟩
          · have hne := head_some en q ⟨#[44]⟩ solid_comma (by rw [HCM.out]; exact hc)
            have HSK : Hid (skipP en ⟨#[44]⟩ q = .ok (headT en q) q.tail) := by show _ = _; unfold skipP passP; rw [HCM.out, hc]; rfl
            obtain ⟨q2, hq2⟩ : ∃ q2, q.tail = q2 := ⟨_, rfl⟩
            have HQ2 : Hid (q.tail = q2) := hq2
            have hql2 : q2.length + 1 = q.length := by
              rw [← hq2]
              cases q with
              | nil => exact absurd rfl hne
              | cons a q => simp
            have HPE : Hid (P = (item q2).bind fun x l => moreP en item g (acc ++ [x]) l) := by show _ = _; rw [HPM.out, moreP, hc, if_pos rfl, HSK.out, ← hq2]; rfl
            clear hne hq2
            go_wp2_with fail
            refine (ahead_any N R M en _ q HRM.out).mono ?_
            rintro e w6 ⟨rfl, hb6⟩
            have HR6 : Hid (Rd N R M en w6 q) := HRM.out.below hb6
            have HF6 : Hid (Fr (fun k => k = R) w w6) := HFM.out.trans (Fr.below hb6)
            have HI6 : Hid (I w6) := HIT.out.2.1 _ _ HIM.out (Fr.below hb6)
            have HO6 : Hid (w6.ownsRow w.heap.size 88 3 (.slice av acc.length cv) acc.length (acc.flatMap litC)) := own_below HOM.out hb6
            unfold tokA
            clear hb6
            go_wp2_with fail
            refine (rskip_any N R M en ⟨#[44]⟩ solid_comma w6 q HR6.out).mono ?_
            intro e w7 hp
            rw [HSK.out] at hp
            obtain ⟨v, rfl, rfl, hrd, hfr⟩ := hp
            have HR7 : Hid (Rd N R M en w7 q2) := by rw [← HQ2.out]; exact hrd
            have HF7 : Hid (Fr (fun k => k = R) w w7) := HF6.out.trans hfr
            have HI7 : Hid (I w7) := HIT.out.2.1 _ _ HI6.out (hfr.weak fun k hk => Or.inl hk)
            have HO7 : Hid (w7.ownsRow w.heap.size 88 3 (.slice av acc.length cv) acc.length (acc.flatMap litC)) := own_fr HO6.out hfr HX.out
            clear hrd hfr hc hf2
            go_wp2_with fail
            rw [HIT.out.1, Oper.upon_enter]
            refine (HIT.out.2.2 w7 q2 HR7.out HI7.out).mono ?_
            intro e w8 hp
            cases hit : item q2 with
            | bad x er =>
              rw [hit] at hp
              obtain ⟨rfl, hfr⟩ := hp
              have hfr2 := HF7.out.trans hfr
              have HPB : Hid (P = .bad x er) := by show _ = _; rw [HPE.out, hit]; rfl
              clear hit hfr
              go_wp2
              exact ⟨rfl, by rw [HPB.out]; exact ⟨rfl, hfr2⟩⟩
            | ok x r =>
              rw [hit] at hp
              obtain ⟨v, rfl, rfl, hrd, hfr⟩ := hp
              unfold litA
              have HR8 : Hid (Rd N R M en w8 r) := hrd
              have HF8 : Hid (Fr (fun k => k = R) w w8) := HF7.out.trans hfr
              have HI8 : Hid (I w8) := HIT.out.2.1 _ _ HI7.out (hfr.weak fun k hk => Or.inl hk)
              have HO8 : Hid (w8.ownsRow w.heap.size 88 3 (.slice av acc.length cv) acc.length (acc.flatMap litC)) := own_fr HO7.out hfr HX.out
              have hrl : r.length ≤ q2.length := HE.out q2 x r hit
              have HPN : Hid (P = moreP en item g (acc ++ [x]) r) := by show _ = _; rw [HPE.out, hit]; rfl
              have hsz8 : w.heap.size ≤ w8.heap.size := HF8.out.size
              have hox := HO8.out.alloc (.cells #[.int .i64 x.var, .int .i64 x.op, .int .i64 x.n] 88)
              clear hit hrd hfr
              go_wp2_with (at_builtin; refine wpList_append_own _ rfl _ _ 37 rfl w.heap.size 88 i0 (.agg #[.int .i64 0, .int .i64 0, .int .i64 0]) 3 24 Tryz.underLits5 hi hz0 hz1 hz2 rfl (by decide) _ _ _ rfl hox ⟨w8.heap.size, 0, none⟩ 1 1 (litC x) rfl rfl ?c1 ?c2 ?c3 ?c4 ?c5 ?_)
              case c1 => exact one_laidL w8 x
              case c2 => exact litC_one x
              case c3 => unfold maxLen; omega
              case c4 => omega
              case c5 => simp; omega
              intro v9 w9 hown9 hg9 _
              have hrow : ∀ k, (Value.slice av acc.length cv).ownBlock = some k → w.heap.size ≤ k := fun k hk => (HO8.out.lt k hk).1
              have HR9 : Hid (Rd N R M en w9 r) := (HR8.out.below (below_alloc _ _)).grown hg9 (fun k hk => ⟨by have := hrow k hk; omega, by have := hrow k hk; have := HB.out.1.2.1; omega⟩)
              have HF9 : Hid (Fr (fun k => k = R) w w9) := (HF8.out.alloc _).grown hg9 (fun k hk => Or.inr (hrow k hk))
              have HI9 : Hid (I w9) := HIT.out.2.1 _ _ HI8.out (((Fr.refl _ _).alloc _).grown hg9 (fun k hk => Or.inl (Or.inr (by have := hrow k hk; omega))))
              have HO9 : Hid (w9.ownsRow w.heap.size 88 3 v9 (acc ++ [x]).length ((acc ++ [x]).flatMap litC)) := by
                unfold Hid; rw [List.length_append, List.flatMap_append]; simpa using hown9
              have HM9 : Hid (leftT R w9 < leftT R wr) := by show _ < _; rw [leftT_rd HR9.out, leftT_rd HRM.out]; omega
              clear hown9 hg9 hrow hox
              go_wp2
              go_roundw
              case rel => exact ⟨g, acc ++ [x], r, HPN, HR9, HI9, HO9, HF9, by omega, by simp; omega⟩
              case measure => exact HM9.out
    · have HP2 : Hid (P = (skipP en ⟨#[93]⟩ q).bind fun _ l => .ok [] l) := by show _ = _; rw [HP1.out, hq]; rfl
      have HI2 : Hid (I w2) := HIT.out.2.1 _ _ HI0.out (HF2.out.weak fun k hk => Or.inl hk)
      clear HP1
      go_wp2_with fail
      refine (rskip_any N R M en ⟨#[93]⟩ solid_close w2 q HR2.out).mono ?_
      intro e w7 hp
      cases hs : skipP en ⟨#[93]⟩ q with
      | bad x er =>
        rw [hs] at hp
        obtain ⟨rfl, hfr⟩ := hp
        have hfr2 := HF2.out.trans hfr
        have HPB : Hid (P = .bad x er) := by show _ = _; rw [HP2.out, hs]; rfl
        clear hs hq hfr
        go_wp2
        exact ⟨rfl, by rw [HPB.out]; exact ⟨rfl, hfr2⟩⟩
      | ok t q2 =>
        rw [hs] at hp
        obtain ⟨v, rfl, rfl, hrd, hfr⟩ := hp
        have hfr2 := HF2.out.trans hfr
        have HI7 : Hid (I w7) := HIT.out.2.1 _ _ HI2.out (hfr.weak fun k hk => Or.inl hk)
        have HPB : Hid (P = .ok [] q2) := by show _ = _; rw [HP2.out, hs]; rfl
        clear hs hq hfr
        go_wp2
        go_ret
        rw [HPB.out]
        exact ⟨_, rfl, ⟨World.ownsRow_nil _ _ _ _, HI7.out⟩, hrd, hfr2⟩
end Go.Proofs.YtdjbejlbmaiocagGreatDoor
/-
  WALK: package text: readList of rows of numbers.
-/
namespace Go.Proofs.YtdjbejlbmaiocagGreatDoor
open Go.RowKit

theorem one_laidR (w : World) (z : Value) : ∀ (j : Nat) (u : Value), [z][j]? = some u → (w.alloc (.cells #[z] 26)).cell? ((⟨w.heap.size, 0, none⟩ : Addr).add j) = some u := by
  intro j u hj
  match j, hj with
  | 0, hj => simp at hj; subst hj; simp [Addr.add]
theorem Tryz.infoRow5 : (Tryz.prog.info? 26).map (fun i => (i.zero, i.size, i.bytes)) = some (some (.slice none 0 0), 1, 24) := by kernel_rfl
theorem Tryz.underRows5 : Tryz.prog.underlying 60 = some (.slice 26) := by kernel_rfl
/-- Two lists of other things lie apart. -/
theorem row_apart {w : World} {b1 b2 n1 n2 : Nat} {x v : Value} {xs vs : List Value} (h : w.ownsRow b1 3 1 x n1 xs) (k : w.ownsRow b2 26 1 v n2 vs) : x.ownBlock = none ∨ x.ownBlock ≠ v.ownBlock := by
  rcases h.2 with ⟨rfl, _⟩ | ⟨g, cap, cur, rfl, _, hg, _⟩
  · exact Or.inl rfl
  · refine Or.inr fun e => ?_
    rcases k.2 with ⟨rfl, _⟩ | ⟨g', cap', cur', rfl, _, hg', _⟩
    · cases e
    · have : g = g' := Option.some.inj e
      subst this
      rw [hg] at hg'
      have h1 : (3 : TypeId) = 26 := by injection hg' with h2; injection h2
      exact absurd h1 (by decide)
/-- Rows that are being gathered. -/
def LSr (B base : Nat) (w : World) (v : Value) (acc : List (List Int)) : Prop :=
  ∃ cells, w.ownsRow base 26 1 v acc.length cells ∧ ∀ (i : Nat) (r : List Int), acc[i]? = some r → ∃ x, cells[i]? = some x ∧ w.ownsRow B 3 1 x r.length (r.map (Value.int .i64))
theorem LSr.none (B base : Nat) (w : World) : LSr B base w (.slice Option.none 0 0) [] := ⟨[], World.ownsRow_nil _ _ _ _, fun i r h => by simp at h⟩
theorem LSr.form {B base : Nat} {w : World} {v : Value} {acc : List (List Int)} (h : LSr B base w v acc) : ∃ a c, v = .slice a acc.length c := by
  obtain ⟨cells, h1, _⟩ := h
  exact own_form h1
theorem LSr.below {B base : Nat} {w w' : World} {v : Value} {acc : List (List Int)} (h : LSr B base w v acc) (hb : Below w.heap.size w w') : LSr B base w' v acc := by
  obtain ⟨cells, h1, h2⟩ := h
  refine ⟨cells, own_below h1 hb, fun i r hr => ?_⟩
  obtain ⟨x, hx, ho⟩ := h2 i r hr
  exact ⟨x, hx, own_below ho hb⟩
theorem LSr.fr {X : Nat → Prop} {B base : Nat} {w w' : World} {v : Value} {acc : List (List Int)} (h : LSr B base w v acc) (hf : Fr X w w') (hX : ∀ k, X k → k < base) (hXB : ∀ k, X k → k < B) : LSr B base w' v acc := by
  obtain ⟨cells, h1, h2⟩ := h
  refine ⟨cells, own_fr h1 hf hX, fun i r hr => ?_⟩
  obtain ⟨x, hx, ho⟩ := h2 i r hr
  exact ⟨x, hx, own_fr ho hf hXB⟩
theorem LSr.first {B base : Nat} {w : World} {v xv : Value} {x : List Int} (h : w.ownsRow base 26 1 v (0 + 1) ([] ++ [xv])) (hx : w.ownsRow B 3 1 xv x.length (x.map (Value.int .i64))) : LSr B base w v [x] := by
  refine ⟨[xv], h, fun i r hr => ?_⟩
  match i, hr with
  | 0, hr => cases hr; exact ⟨xv, rfl, hx⟩
theorem LSr.push {B base : Nat} {w w' : World} {v v' xv : Value} {x : List Int} {acc : List (List Int)} {cells : List Value} {o : Obj} (h : w.ownsRow base 26 1 v acc.length cells)
    (hc : ∀ (i : Nat) (r : List Int), acc[i]? = some r → ∃ x, cells[i]? = some x ∧ w.ownsRow B 3 1 x r.length (r.map (Value.int .i64))) (hx : w.ownsRow B 3 1 xv x.length (x.map (Value.int .i64)))
    (h' : w'.ownsRow base 26 1 v' (acc.length + 1) (cells ++ [xv])) (hg : (w.alloc o).grownBy w' v.ownBlock) : LSr B base w' v' (acc ++ [x]) := by
  have hlen : cells.length = acc.length := by have := h.1; omega
  refine ⟨cells ++ [xv], by rw [List.length_append]; exact h', fun i r hr => ?_⟩
  by_cases hi : i < acc.length
  · rw [List.getElem?_append_left hi] at hr
    obtain ⟨y, hy, ho⟩ := hc i r hr
    exact ⟨y, by rw [List.getElem?_append_left (by omega)]; exact hy, (ho.alloc _).kept hg (row_apart ho h)⟩
  · rw [List.getElem?_append_right (by omega)] at hr
    have hi0 : i - acc.length = 0 := by
      have := (List.getElem?_eq_some_iff.1 hr).1
      simp at this; omega
    rw [hi0] at hr
    cases hr
    refine ⟨xv, ?_, (hx.alloc _).kept hg (row_apart hx h)⟩
    rw [List.getElem?_append_right (by omega), show i - cells.length = 0 by omega]; rfl
set_option maxHeartbeats 3200000 in
set_option maxRecDepth 100000 in
theorem readrows_any (N R M : Nat) (en : Int) (F : Nat) (item : List Tok → PR (List Int)) (I : World → Prop) (hE : Eats item) (B : Nat) (hI : Item B N R M en F item (fun xs v w' => w'.ownsRow B 3 1 v xs.length (xs.map (Value.int .i64))) I) (w : World) (hBw : B ≤ w.heap.size) (hRB : R < B) (l : List Tok) (h : Rd N R M en w l) (hi0 : I w) (hl : l.length ≤ 4000) :
    Calls Tryz.prog 277 #[.pointer (some ⟨R, 0, none⟩), .func (.func F) #[.pointer (some ⟨R, 0, none⟩)] #[]] w
      (PostR (readP en item l) (fun xs v w' => LSr B w.heap.size w' v xs ∧ I w') N R M en (fun k => k = R) w) := by
  have HB : Hid (Rd N R M en w l) := h
  have HI0 : Hid (I w) := hi0
  have HIT : Hid (Item B N R M en F item (fun xs v w' => w'.ownsRow B 3 1 v xs.length (xs.map (Value.int .i64))) I) := hI
  have HE : Hid (Eats item) := hE
  have hRw : R < w.heap.size := by obtain ⟨_, _, hR, _⟩ := h; exact (Array.getElem?_eq_some_iff.1 hR).1
  have HX : Hid (∀ k, (fun k => k = R) k → k < w.heap.size) := fun k hk => by subst hk; exact hRw
  have HXB : Hid (∀ k, (fun k => k = R) k → k < B) := fun k hk => by subst hk; exact hRB
  obtain ⟨i0, hi, hz0, hz1, hz2⟩ := info_parts Tryz.infoRow5
  obtain ⟨P, hP⟩ : ∃ P, readP en item l = P := ⟨_, rfl⟩
  have HP : Hid (readP en item l = P) := hP
  rw [hP]
  clear hP h hi0 hI hE
  go_enter Tryz.func277, Tryz.ntmps277
  go_wp2_with fail
  refine (rskip_any N R M en ⟨#[91]⟩ solid_open w l HB.out).mono ?_
  intro e w1 hp
  cases hs : skipP en ⟨#[91]⟩ l with
  | bad x er =>
    rw [hs] at hp
    obtain ⟨rfl, hfr⟩ := hp
    have HPB : Hid (P = .bad x er) := by show _ = _; rw [← HP.out]; unfold readP; rw [hs]; rfl
    clear hs
    go_wp2
    exact ⟨rfl, by rw [HPB.out]; exact ⟨rfl, hfr⟩⟩
  | ok t q =>
    rw [hs] at hp
    obtain ⟨v, rfl, rfl, hrd, hfr⟩ := hp
    have HRD : Hid (Rd N R M en w1 q) := hrd
    have HFR : Hid (Fr (fun k => k = R) w w1) := hfr
    have hql : q.length + 1 = l.length := skip_len solid_open hs
    have HQL : Hid (q.length + 1 = l.length) := hql
    have HP1 : Hid (P = if (headT en q).text.toList == [93] then (skipP en ⟨#[93]⟩ q).bind fun _ l => .ok [] l else (item q).bind fun x l => moreP en item (l.length + 1) [x] l) := by
      show _ = _; rw [← HP.out]; unfold readP; rw [hs]; rfl
    have hf2 := tokF2 (headT en q)
    clear hs hrd hfr HP hql
    go_wp2_with fail
    refine (ahead_any N R M en _ q HRD.out).mono ?_
    rintro e w2 ⟨rfl, hb2⟩
    have HR2 : Hid (Rd N R M en w2 q) := HRD.out.below hb2
    have HF2 : Hid (Fr (fun k => k = R) w w2) := HFR.out.trans (Fr.below hb2)
    unfold tokA
    clear hb2
    cases hq : ((headT en q).text.toList == [93])
    · have HP2 : Hid (P = (item q).bind fun x l => moreP en item (l.length + 1) [x] l) := by show _ = _; rw [HP1.out, hq]; rfl
      have HI2 : Hid (I w2) := HIT.out.2.1 _ _ HI0.out (HF2.out.weak fun k hk => Or.inl hk)
      clear HP1
      go_wp2_with fail
      rw [HIT.out.1, Oper.upon_enter]
      refine (HIT.out.2.2 w2 q HR2.out HI2.out).mono ?_
      intro e w3 hp
      cases hit : item q with
      | bad x er =>
        rw [hit] at hp
        obtain ⟨rfl, hfr⟩ := hp
        have hfr2 := HF2.out.trans hfr
        have HPB : Hid (P = .bad x er) := by show _ = _; rw [HP2.out, hit]; rfl
        clear hit hq hfr
        go_wp2
        exact ⟨rfl, by rw [HPB.out]; exact ⟨rfl, hfr2⟩⟩
      | ok x r =>
        rw [hit] at hp
        obtain ⟨v, rfl, hvo, hrd, hfr⟩ := hp
        obtain ⟨ax, cx, hvf⟩ := own_form hvo
        subst hvf
        have HVO : Hid (w3.ownsRow B 3 1 (.slice ax x.length cx) x.length (x.map (Value.int .i64))) := hvo
        clear hvo
        have HR3 : Hid (Rd N R M en w3 r) := hrd
        have HF3 : Hid (Fr (fun k => k = R) w w3) := HF2.out.trans hfr
        have HI3 : Hid (I w3) := HIT.out.2.1 _ _ HI2.out (hfr.weak fun k hk => Or.inl hk)
        have HRL : Hid (r.length ≤ q.length) := HE.out q x r hit
        have HP3 : Hid (P = moreP en item (r.length + 1) [x] r) := by show _ = _; rw [HP2.out, hit]; rfl
        have hsz3 : w.heap.size ≤ w3.heap.size := HF3.out.size
        clear hit hrd hfr hq hf2 HP2
        go_wp2_with (at_builtin; refine wpList_append_own _ rfl _ _ 60 rfl w.heap.size 26 i0 (.slice none 0 0) 1 24 Tryz.underRows5 hi hz0 hz1 hz2 rfl (by decide) _ _ _ rfl (World.ownsRow_nil _ _ _ _) ⟨w3.heap.size, 0, none⟩ 1 1 [.slice ax x.length cx] rfl rfl ?c1 ?c2 ?c3 ?c4 ?c5 ?_)
        case c1 => exact one_laidR w3 (.slice ax x.length cx)
        case c2 => intro u hu; rcases List.mem_singleton.1 hu with rfl; rfl
        case c3 => unfold maxLen; omega
        case c4 => omega
        case c5 => simp; omega
        intro v5 w5 hown5 hg5 _
        have HR5 : Hid (Rd N R M en w5 r) := (HR3.out.below (below_alloc _ _)).grown hg5 (fun k hk => by cases hk)
        have HF5 : Hid (Fr (fun k => k = R) w w5) := (HF3.out.alloc _).grown hg5 (fun k hk => by cases hk)
        have HI5 : Hid (I w5) := HIT.out.2.1 _ _ HI3.out (((Fr.refl _ _).alloc _).grown hg5 (fun k hk => by cases hk))
        have HO5 : Hid (LSr B w.heap.size w5 v5 [x]) := LSr.first hown5 ((HVO.out.alloc _).kept hg5 (row_apart HVO.out (World.ownsRow_nil w3 w.heap.size 26 1)))
        clear hown5 hg5
        go_wp2_with fail
        go_loopw [5] (fun v wr => ∃ (f : Nat) (acc : List (List Int)) (q : List Tok), Hid (P = moreP en item f acc q) ∧ Hid (Rd N R M en wr q) ∧ Hid (I wr) ∧ Hid (LSr B w.heap.size wr v acc) ∧ Hid (Fr (fun k => k = R) w wr) ∧ q.length + 1 ≤ f ∧ acc.length + q.length ≤ 4000) (fun _ wr => leftT R wr)
        case atStart => exact ⟨_, [x], r, HP3, HR5, HI5, HO5, HF5, by omega, by have := HRL.out; have := HQL.out; simp; omega⟩
        case round =>
          obtain ⟨f, acc, q, HPM, HRM, HIM, HOM, HFM, hf, hlen⟩ := hrel
          obtain ⟨g, rfl⟩ : ∃ g, f = g + 1 := ⟨f - 1, by omega⟩
          have hf2 := tokF2 (headT en q)
          obtain ⟨av, cv, hv⟩ := HOM.out.form
          subst hv
          have HCM : Hid ((⟨#[44]⟩ : ByteArray).toList = [44]) := by show _ = _; simp [go_sem]
          cases hc : ((headT en q).text.toList == [44])
          · have HPE : Hid (P = (skipP en ⟨#[93]⟩ q).bind fun _ l => .ok acc l) := by show _ = _; rw [HPM.out]; unfold moreP; rw [hc]; rfl
            go_wp2_with fail
            refine (ahead_any N R M en _ q HRM.out).mono ?_
            rintro e w6 ⟨rfl, hb6⟩
            have HR6 : Hid (Rd N R M en w6 q) := HRM.out.below hb6
            have HF6 : Hid (Fr (fun k => k = R) w w6) := HFM.out.trans (Fr.below hb6)
            have HI6 : Hid (I w6) := HIT.out.2.1 _ _ HIM.out (Fr.below hb6)
            have HO6 : Hid (LSr B w.heap.size w6 (.slice av acc.length cv) acc) := HOM.out.below hb6
            unfold tokA
            clear hb6
            go_wp2_with fail
            refine (rskip_any N R M en ⟨#[93]⟩ solid_close w6 q HR6.out).mono ?_
            intro e w7 hp
            cases hs : skipP en ⟨#[93]⟩ q with
            | bad x er =>
              rw [hs] at hp
              obtain ⟨rfl, hfr⟩ := hp
              have hfr2 := HF6.out.trans hfr
              have HPB : Hid (P = .bad x er) := by show _ = _; rw [HPE.out, hs]; rfl
              clear hs hc hfr
              go_wp2
              exact ⟨rfl, by rw [HPB.out]; exact ⟨rfl, hfr2⟩⟩
            | ok t q2 =>
              rw [hs] at hp
              obtain ⟨v, rfl, rfl, hrd, hfr⟩ := hp
              have hfr2 := HF6.out.trans hfr
              have HI7 : Hid (I w7) := HIT.out.2.1 _ _ HI6.out (hfr.weak fun k hk => Or.inl hk)
              have HO7 : Hid (LSr B w.heap.size w7 (.slice av acc.length cv) acc) := HO6.out.fr hfr HX.out HXB.out
              have HPB : Hid (P = .ok acc q2) := by show _ = _; rw [HPE.out, hs]; rfl
              clear hs hc hfr
              go_wp2
              go_ret
              rw [HPB.out]
              exact ⟨_, rfl, ⟨HO7.out, HI7.out⟩, hrd, hfr2⟩
          · have hne := head_some en q ⟨#[44]⟩ solid_comma (by rw [HCM.out]; exact hc)
            have HSK : Hid (skipP en ⟨#[44]⟩ q = .ok (headT en q) q.tail) := by show _ = _; unfold skipP passP; rw [HCM.out, hc]; rfl
            obtain ⟨q2, hq2⟩ : ∃ q2, q.tail = q2 := ⟨_, rfl⟩
            have HQ2 : Hid (q.tail = q2) := hq2
            have hql2 : q2.length + 1 = q.length := by
              rw [← hq2]
              cases q with
              | nil => exact absurd rfl hne
              | cons a q => simp
            have HPE : Hid (P = (item q2).bind fun x l => moreP en item g (acc ++ [x]) l) := by show _ = _; rw [HPM.out, moreP, hc, if_pos rfl, HSK.out, ← hq2]; rfl
            clear hne hq2
            go_wp2_with fail
            refine (ahead_any N R M en _ q HRM.out).mono ?_
            rintro e w6 ⟨rfl, hb6⟩
            have HR6 : Hid (Rd N R M en w6 q) := HRM.out.below hb6
            have HF6 : Hid (Fr (fun k => k = R) w w6) := HFM.out.trans (Fr.below hb6)
            have HI6 : Hid (I w6) := HIT.out.2.1 _ _ HIM.out (Fr.below hb6)
            have HO6 : Hid (LSr B w.heap.size w6 (.slice av acc.length cv) acc) := HOM.out.below hb6
            unfold tokA
            clear hb6
            go_wp2_with fail
            refine (rskip_any N R M en ⟨#[44]⟩ solid_comma w6 q HR6.out).mono ?_
            intro e w7 hp
            rw [HSK.out] at hp
            obtain ⟨v, rfl, rfl, hrd, hfr⟩ := hp
            have HR7 : Hid (Rd N R M en w7 q2) := by rw [← HQ2.out]; exact hrd
            have HF7 : Hid (Fr (fun k => k = R) w w7) := HF6.out.trans hfr
            have HI7 : Hid (I w7) := HIT.out.2.1 _ _ HI6.out (hfr.weak fun k hk => Or.inl hk)
            have HO7 : Hid (LSr B w.heap.size w7 (.slice av acc.length cv) acc) := HO6.out.fr hfr HX.out HXB.out
            clear hrd hfr hc hf2
            go_wp2_with fail
            rw [HIT.out.1, Oper.upon_enter]
            refine (HIT.out.2.2 w7 q2 HR7.out HI7.out).mono ?_
            intro e w8 hp
            cases hit : item q2 with
            | bad x er =>
              rw [hit] at hp
              obtain ⟨rfl, hfr⟩ := hp
              have hfr2 := HF7.out.trans hfr
              have HPB : Hid (P = .bad x er) := by show _ = _; rw [HPE.out, hit]; rfl
              clear hit hfr
              go_wp2
              exact ⟨rfl, by rw [HPB.out]; exact ⟨rfl, hfr2⟩⟩
            | ok x r =>
              rw [hit] at hp
              obtain ⟨v, rfl, hvo, hrd, hfr⟩ := hp
              obtain ⟨ax, cx, hvf⟩ := own_form hvo
              subst hvf
              have HVO : Hid (w8.ownsRow B 3 1 (.slice ax x.length cx) x.length (x.map (Value.int .i64))) := hvo
              clear hvo
              have HR8 : Hid (Rd N R M en w8 r) := hrd
              have HF8 : Hid (Fr (fun k => k = R) w w8) := HF7.out.trans hfr
              have HI8 : Hid (I w8) := HIT.out.2.1 _ _ HI7.out (hfr.weak fun k hk => Or.inl hk)
              have HO8 : Hid (LSr B w.heap.size w8 (.slice av acc.length cv) acc) := HO7.out.fr hfr HX.out HXB.out
              have hrl : r.length ≤ q2.length := HE.out q2 x r hit
              have HPN : Hid (P = moreP en item g (acc ++ [x]) r) := by show _ = _; rw [HPE.out, hit]; rfl
              have hsz8 : w.heap.size ≤ w8.heap.size := HF8.out.size
              obtain ⟨cells, hco, hci⟩ := HO8.out
              have HCI : Hid (∀ (i : Nat) (r : List Int), acc[i]? = some r → ∃ x, cells[i]? = some x ∧ w8.ownsRow B 3 1 x r.length (r.map (Value.int .i64))) := hci
              have HCO : Hid (w8.ownsRow w.heap.size 26 1 (.slice av acc.length cv) acc.length cells) := hco
              have hox := hco.alloc (.cells #[.slice ax x.length cx] 26)
              clear hci hco
              clear hit hrd hfr
              go_wp2_with (at_builtin; refine wpList_append_own _ rfl _ _ 60 rfl w.heap.size 26 i0 (.slice none 0 0) 1 24 Tryz.underRows5 hi hz0 hz1 hz2 rfl (by decide) _ _ _ rfl hox ⟨w8.heap.size, 0, none⟩ 1 1 [.slice ax x.length cx] rfl rfl ?c1 ?c2 ?c3 ?c4 ?c5 ?_)
              case c1 => exact one_laidR w8 (.slice ax x.length cx)
              case c2 => intro u hu; rcases List.mem_singleton.1 hu with rfl; rfl
              case c3 => unfold maxLen; omega
              case c4 => omega
              case c5 => simp; omega
              intro v9 w9 hown9 hg9 _
              have hrow : ∀ k, (Value.slice av acc.length cv).ownBlock = some k → w.heap.size ≤ k := fun k hk => (HCO.out.lt k hk).1
              have HR9 : Hid (Rd N R M en w9 r) := (HR8.out.below (below_alloc _ _)).grown hg9 (fun k hk => ⟨by have := hrow k hk; omega, by have := hrow k hk; have := HB.out.1.2.1; omega⟩)
              have HF9 : Hid (Fr (fun k => k = R) w w9) := (HF8.out.alloc _).grown hg9 (fun k hk => Or.inr (hrow k hk))
              have HI9 : Hid (I w9) := HIT.out.2.1 _ _ HI8.out (((Fr.refl _ _).alloc _).grown hg9 (fun k hk => Or.inl (Or.inr (by have := hrow k hk; omega))))
              have HO9 : Hid (LSr B w.heap.size w9 v9 (acc ++ [x])) := LSr.push HCO.out HCI.out HVO.out hown9 hg9
              have HM9 : Hid (leftT R w9 < leftT R wr) := by show _ < _; rw [leftT_rd HR9.out, leftT_rd HRM.out]; omega
              clear hown9 hg9 hrow hox
              go_wp2
              go_roundw
              case rel => exact ⟨g, acc ++ [x], r, HPN, HR9, HI9, HO9, HF9, by omega, by simp; omega⟩
              case measure => exact HM9.out
    · have HP2 : Hid (P = (skipP en ⟨#[93]⟩ q).bind fun _ l => .ok [] l) := by show _ = _; rw [HP1.out, hq]; rfl
      have HI2 : Hid (I w2) := HIT.out.2.1 _ _ HI0.out (HF2.out.weak fun k hk => Or.inl hk)
      clear HP1
      go_wp2_with fail
      refine (rskip_any N R M en ⟨#[93]⟩ solid_close w2 q HR2.out).mono ?_
      intro e w7 hp
      cases hs : skipP en ⟨#[93]⟩ q with
      | bad x er =>
        rw [hs] at hp
        obtain ⟨rfl, hfr⟩ := hp
        have hfr2 := HF2.out.trans hfr
        have HPB : Hid (P = .bad x er) := by show _ = _; rw [HP2.out, hs]; rfl
        clear hs hq hfr
        go_wp2
        exact ⟨rfl, by rw [HPB.out]; exact ⟨rfl, hfr2⟩⟩
      | ok t q2 =>
        rw [hs] at hp
        obtain ⟨v, rfl, rfl, hrd, hfr⟩ := hp
        have hfr2 := HF2.out.trans hfr
        have HI7 : Hid (I w7) := HIT.out.2.1 _ _ HI2.out (hfr.weak fun k hk => Or.inl hk)
        have HPB : Hid (P = .ok [] q2) := by show _ = _; rw [HP2.out, hs]; rfl
        clear hs hq hfr
        go_wp2
        go_ret
        rw [HPB.out]
        exact ⟨_, rfl, ⟨LSr.none _ _ _, HI7.out⟩, hrd, hfr2⟩
end Go.Proofs.YtdjbejlbmaiocagGreatDoor
/-
  WALKS: package text: the words; the reader: numbers, variables, rows, lit, lits.
-/
namespace Go.Proofs.YtdjbejlbmaiocagGreatDoor
open Go.RowKit

theorem PostR.mono {α : Type} {p : PR α} {G G' : α → Value → World → Prop} {N R M : Nat} {en : Int} {X : Nat → Prop} {w w' : World} {e : Ending} (hG : ∀ a v w', G a v w' → G' a v w') (h : PostR p G N R M en X w e w') : PostR p G' N R M en X w e w' := by
  unfold PostR at *
  cases p with
  | ok a r => obtain ⟨v, h1, h2, h3, h4⟩ := h; exact ⟨v, h1, hG _ _ _ h2, h3, h4⟩
  | bad x er => exact h
theorem strs_new (w : World) (l : List ByteArray) (hl : l.length ≤ 100) : SArg (w.alloc (.cells (l.map Value.string).toArray 9)) (.slice (some ⟨w.heap.size, 0, none⟩) l.length l.length) l := by
  refine ⟨_, _, rfl, ⟨Nat.le_refl _, by unfold maxLen; omega⟩, fun i z hz => ⟨_, 0, rfl, by simp, ?_⟩⟩
  rw [World.cell?_alloc_at _ _ _ _ rfl]
  simp [hz]
set_option maxHeartbeats 400000 in
set_option maxRecDepth 100000 in
theorem words_ops (w : World) : Calls Tryz.prog 271 #[] w fun e w' => ∃ v, e = .returned v ∧ SArg w' v opWL ∧ Below w.heap.size w w' := by
  go_enter Tryz.func271, Tryz.ntmps271
  go_wp2
  go_ret
  exact ⟨_, rfl, strs_new w opWL (by decide), below_alloc _ _⟩
set_option maxHeartbeats 400000 in
set_option maxRecDepth 100000 in
theorem words_goals (w : World) : Calls Tryz.prog 167 #[] w fun e w' => ∃ v, e = .returned v ∧ SArg w' v goalWL ∧ Below w.heap.size w w' := by
  go_enter Tryz.func167, Tryz.ntmps167
  go_wp2
  go_ret
  exact ⟨_, rfl, strs_new w goalWL (by decide), below_alloc _ _⟩
set_option maxHeartbeats 400000 in
set_option maxRecDepth 100000 in
theorem words_cons (w : World) : Calls Tryz.prog 235 #[] w fun e w' => ∃ v, e = .returned v ∧ SArg w' v conWL ∧ Below w.heap.size w w' := by
  go_enter Tryz.func235, Tryz.ntmps235
  go_wp2
  go_ret
  exact ⟨_, rfl, strs_new w conWL (by decide), below_alloc _ _⟩

theorem own_mono9 {w : World} {base base' : Nat} {e : TypeId} {size : Nat} {v : Value} {n : Nat} {xs : List Value} (h : w.ownsRow base e size v n xs) (hb : base' ≤ base) : w.ownsRow base' e size v n xs := by
  refine ⟨h.1, ?_⟩
  rcases h.2 with hn | ⟨g, cap, cur, hv, hg, r⟩
  · exact .inl hn
  · exact .inr ⟨g, cap, cur, hv, Nat.le_trans hb hg, r⟩
theorem enters_number (args : Array Value) (w' : World) : Sem.run Tryz.prog (callFunc 238 args) w' = .ok (.enter 238 args) w' := by
  simp [callFunc, go_sem, Tryz.func238, Tryz.f238]
theorem enters_name9 (args : Array Value) (w' : World) : Sem.run Tryz.prog (callFunc 242 args) w' = .ok (.enter 242 args) w' := by
  simp [callFunc, go_sem, Tryz.func242, Tryz.f242]
theorem enters_numbers (args : Array Value) (w' : World) : Sem.run Tryz.prog (callFunc 240 args) w' = .ok (.enter 240 args) w' := by
  simp [callFunc, go_sem, Tryz.func240, Tryz.f240]
theorem enters_lit9 (args : Array Value) (w' : World) : Sem.run Tryz.prog (callFunc 245 args) w' = .ok (.enter 245 args) w' := by
  simp [callFunc, go_sem, Tryz.func245, Tryz.f245]
theorem item_number (B N R M : Nat) (en : Int) : Item B N R M en 238 (numberP en) (fun i v _ => v = .int .i64 i) (fun _ => True) :=
  ⟨enters_number, fun _ _ _ _ => trivial, fun w l h _ => (number_any N R M en w l h).mono fun _ _ hp => hp.mono fun _ _ _ h => h.1⟩
/-- The names, as what must be of the world besides. -/
theorem names_stay (B R M : Nat) (names : List ByteArray) (hM : M < B) (hMR : M ≠ R) (w w' : World) (h : NmS w M names) (hf : Fr (fun k => k = R ∨ B ≤ k) w w') : NmS w' M names :=
  h.old (hf.block M h.lt (fun hx => hx.elim hMR (fun h => by omega)))
theorem item_name (B N R M : Nat) (en : Int) (names : List ByteArray) (hM : M < B) (hMR : M ≠ R) (hne : ∀ n ∈ names, n.data.toList ≠ []) : Item B N R M en 242 (nameP en names) (fun i v _ => v = .int .i64 i) (fun w => NmS w M names) :=
  ⟨enters_name9, names_stay B R M names hM hMR, fun w l h hn => name_any N R M en names w l h hn hne⟩

set_option maxHeartbeats 400000 in
set_option maxRecDepth 100000 in
theorem numbers_any (N R M : Nat) (en : Int) (w : World) (l : List Tok) (h : Rd N R M en w l) :
    Calls Tryz.prog 240 #[.pointer (some ⟨R, 0, none⟩)] w (PostR (readP en (numberP en) l) (fun xs v w' => w'.ownsRow w.heap.size 3 1 v xs.length (xs.map (Value.int .i64))) N R M en (fun k => k = R) w) := by
  have HB : Hid (Rd N R M en w l) := h
  obtain ⟨P, hP⟩ : ∃ P, readP en (numberP en) l = P := ⟨_, rfl⟩
  have HP : Hid (readP en (numberP en) l = P) := hP
  rw [hP]
  clear h hP
  go_enter Tryz.func240, Tryz.ntmps240
  go_wp2_with fail
  refine (readints_any N R M en 238 (numberP en) (fun _ => True) (eats_number en) w.heap.size (item_number _ _ _ _ _) w (Nat.le_refl _) l HB.out trivial HB.out.len).mono ?_
  intro e w1 hp
  rw [HP.out] at hp
  cases P with
  | bad x er =>
    obtain ⟨rfl, hfr⟩ := hp
    go_wp2
    exact ⟨rfl, rfl, hfr⟩
  | ok xs r =>
    obtain ⟨v, rfl, ⟨ho, _⟩, hrd, hfr⟩ := hp
    have HO : Hid (w1.ownsRow w.heap.size 3 1 v xs.length (xs.map (Value.int .i64))) := ho
    obtain ⟨av, cv, hv⟩ := own_form ho
    subst hv
    clear ho
    go_wp2
    go_ret
    exact ⟨_, rfl, HO.out, hrd, hfr⟩
theorem item_numbers (B N R M : Nat) (en : Int) : Item B N R M en 240 (readP en (numberP en)) (fun xs v w' => w'.ownsRow B 3 1 v xs.length (xs.map (Value.int .i64))) (fun w => B ≤ w.heap.size) :=
  ⟨enters_numbers, fun _ _ h hf => Nat.le_trans h hf.size, fun w l h hB => (numbers_any N R M en w l h).mono fun _ _ hp => hp.mono fun _ _ _ h => own_mono9 h hB⟩

set_option maxHeartbeats 400000 in
set_option maxRecDepth 100000 in
theorem variables_any (N R M : Nat) (en : Int) (names : List ByteArray) (w : World) (l : List Tok) (h : Rd N R M en w l) (hn : NmS w M names) (hne : ∀ n ∈ names, n.data.toList ≠ []) :
    Calls Tryz.prog 241 #[.pointer (some ⟨R, 0, none⟩)] w (PostR (readP en (nameP en names) l) (fun xs v w' => w'.ownsRow w.heap.size 3 1 v xs.length (xs.map (Value.int .i64)) ∧ NmS w' M names) N R M en (fun k => k = R) w) := by
  have HB : Hid (Rd N R M en w l) := h
  have HN : Hid (NmS w M names) := hn
  have HNE : Hid (∀ n ∈ names, n.data.toList ≠ []) := hne
  have hMR : M ≠ R := h.1.2.2
  obtain ⟨P, hP⟩ : ∃ P, readP en (nameP en names) l = P := ⟨_, rfl⟩
  have HP : Hid (readP en (nameP en names) l = P) := hP
  rw [hP]
  clear h hP hn hne
  go_enter Tryz.func241, Tryz.ntmps241
  go_wp2_with fail
  refine (readints_any N R M en 242 (nameP en names) (fun w => NmS w M names) (eats_name en names) w.heap.size (item_name _ _ _ _ _ names HN.out.lt hMR HNE.out) w (Nat.le_refl _) l HB.out HN.out HB.out.len).mono ?_
  intro e w1 hp
  rw [HP.out] at hp
  cases P with
  | bad x er =>
    obtain ⟨rfl, hfr⟩ := hp
    go_wp2
    exact ⟨rfl, rfl, hfr⟩
  | ok xs r =>
    obtain ⟨v, rfl, ⟨ho, hn1⟩, hrd, hfr⟩ := hp
    have HO : Hid (w1.ownsRow w.heap.size 3 1 v xs.length (xs.map (Value.int .i64)) ∧ NmS w1 M names) := ⟨ho, hn1⟩
    obtain ⟨av, cv, hv⟩ := own_form ho
    subst hv
    clear ho hn1
    go_wp2
    go_ret
    exact ⟨_, rfl, HO.out, hrd, hfr⟩

set_option maxHeartbeats 400000 in
set_option maxRecDepth 100000 in
theorem rows_any (B N R M : Nat) (en : Int) (w : World) (l : List Tok) (h : Rd N R M en w l) (hB : B ≤ w.heap.size) (hRB : R < B) :
    Calls Tryz.prog 243 #[.pointer (some ⟨R, 0, none⟩)] w (PostR (readP en (readP en (numberP en)) l) (fun xs v w' => LSr B w.heap.size w' v xs) N R M en (fun k => k = R) w) := by
  have HB : Hid (Rd N R M en w l) := h
  obtain ⟨P, hP⟩ : ∃ P, readP en (readP en (numberP en)) l = P := ⟨_, rfl⟩
  have HP : Hid (readP en (readP en (numberP en)) l = P) := hP
  rw [hP]
  clear h hP
  go_enter Tryz.func243, Tryz.ntmps243
  go_wp2_with fail
  refine (readrows_any N R M en 240 (readP en (numberP en)) (fun w => B ≤ w.heap.size) (eats_read en _ (eats_number en)) B (item_numbers B _ _ _ _) w hB hRB l HB.out hB HB.out.len).mono ?_
  intro e w1 hp
  rw [HP.out] at hp
  cases P with
  | bad x er =>
    obtain ⟨rfl, hfr⟩ := hp
    go_wp2
    exact ⟨rfl, rfl, hfr⟩
  | ok xs r =>
    obtain ⟨v, rfl, ⟨ho, _⟩, hrd, hfr⟩ := hp
    have HO : Hid (LSr B w.heap.size w1 v xs) := ho
    obtain ⟨av, cv, hv⟩ := ho.form
    subst hv
    clear ho
    go_wp2
    go_ret
    exact ⟨_, rfl, HO.out, hrd, hfr⟩
end Go.Proofs.YtdjbejlbmaiocagGreatDoor
/-
  WALKS: package text: the reader: lit, lits.
-/
namespace Go.Proofs.YtdjbejlbmaiocagGreatDoor
open Go.RowKit

set_option maxHeartbeats 1600000 in
set_option maxRecDepth 100000 in
theorem rlit_any (N R M : Nat) (en : Int) (names : List ByteArray) (w : World) (l : List Tok) (h : Rd N R M en w l) (hn : NmS w M names) (hne : ∀ n ∈ names, n.data.toList ≠ []) :
    Calls Tryz.prog 245 #[.pointer (some ⟨R, 0, none⟩)] w (PostR (litP en names l) (fun i v _ => v = litA i) N R M en (fun k => k = R) w) := by
  have HB : Hid (Rd N R M en w l) := h
  have HN : Hid (NmS w M names) := hn
  have HNE : Hid (∀ n ∈ names, n.data.toList ≠ []) := hne
  have hRw : R < w.heap.size := by obtain ⟨_, _, hR, _⟩ := h; exact (Array.getElem?_eq_some_iff.1 hR).1
  obtain ⟨P, hP⟩ : ∃ P, litP en names l = P := ⟨_, rfl⟩
  have HP : Hid (P = (nameP en names l).bind fun v l => (oneOfP en opWL l).bind fun op l => (numberP en l).bind fun n l => .ok ⟨v, op, n⟩ l) := by show _ = _; rw [← hP]; rfl
  rw [hP]
  clear h hP hn hne
  go_enter Tryz.func245, Tryz.ntmps245
  go_wp2_with fail
  have HR0 := HB.out.below (below_alloc w (.cells #[.int .i64 0, .int .i64 0, .int .i64 0] 88))
  have HN0 := HN.out.old ((below_alloc w (.cells #[.int .i64 0, .int .i64 0, .int .i64 0] 88)).block M HN.out.lt)
  have HF0 : Fr (fun k => k = R) w (w.alloc (.cells #[.int .i64 0, .int .i64 0, .int .i64 0] 88)) := Fr.below (below_alloc _ _)
  have HQ0 : (w.alloc (.cells #[.int .i64 0, .int .i64 0, .int .i64 0] 88)).heap[w.heap.size]? = some (.cells #[.int .i64 0, .int .i64 0, .int .i64 0] 88) := by show (w.heap.push _)[w.heap.size]? = _; simp
  refine (name_any N R M en names _ l HR0 HN0 HNE.out).mono ?_
  intro e w1 hp
  cases h1 : nameP en names l with
  | bad x er =>
    rw [h1] at hp
    obtain ⟨rfl, hfr⟩ := hp
    have hfr2 := HF0.trans hfr
    have HPB : Hid (P = .bad x er) := by show _ = _; rw [HP.out, h1]; rfl
    clear h1 hfr HR0 HN0 HF0 HQ0
    go_wp2
    exact ⟨rfl, by rw [HPB.out]; exact ⟨rfl, hfr2⟩⟩
  | ok a q =>
    rw [h1] at hp
    obtain ⟨v, rfl, rfl, hrd, hfr⟩ := hp
    have HR1 : Hid (Rd N R M en w1 q) := hrd
    have HF1 : Hid (Fr (fun k => k = R) w w1) := HF0.trans hfr
    have HQ1 : Hid (w1.heap[w.heap.size]? = some (.cells #[.int .i64 0, .int .i64 0, .int .i64 0] 88)) := (hfr.block _ (by simp) (by omega)).trans HQ0
    have HP1 : Hid (P = (oneOfP en opWL q).bind fun op l => (numberP en l).bind fun n l => .ok ⟨a, op, n⟩ l) := by show _ = _; rw [HP.out, h1]; rfl
    clear h1 hrd hfr HR0 HN0 HF0 HQ0 HP
    go_wp2_with fail
    refine (words_ops w1).mono ?_
    rintro e w2 ⟨sv, rfl, hsv, hb2⟩
    have HSV : Hid (SArg w2 sv opWL) := hsv
    obtain ⟨as_, cs_, rfl, _, _⟩ := hsv
    have HR2 : Hid (Rd N R M en w2 q) := HR1.out.below hb2
    have HF2 : Hid (Fr (fun k => k = R) w w2) := HF1.out.trans (Fr.below hb2)
    have HQ2 : Hid (w2.heap[w.heap.size]? = some (.cells #[.int .i64 0, .int .i64 0, .int .i64 0] 88)) := (hb2.block _ (Array.getElem?_eq_some_iff.1 HQ1.out).1).trans HQ1.out
    clear hb2
    go_wp2_with fail
    refine (oneof_any N R M en opWL _ w2 q HR2.out HSV.out).mono ?_
    intro e w3 hp
    cases h2 : oneOfP en opWL q with
    | bad x er =>
      rw [h2] at hp
      obtain ⟨rfl, hfr⟩ := hp
      have hfr2 := HF2.out.trans hfr
      have HPB : Hid (P = .bad x er) := by show _ = _; rw [HP1.out, h2]; rfl
      clear h2 hfr
      go_wp2
      exact ⟨rfl, by rw [HPB.out]; exact ⟨rfl, hfr2⟩⟩
    | ok op q2 =>
      rw [h2] at hp
      obtain ⟨v, rfl, rfl, hrd, hfr⟩ := hp
      have HR3 : Hid (Rd N R M en w3 q2) := hrd
      have HF3 : Hid (Fr (fun k => k = R) w w3) := HF2.out.trans hfr
      have HQ3 : Hid (w3.heap[w.heap.size]? = some (.cells #[.int .i64 0, .int .i64 0, .int .i64 0] 88)) := (hfr.block _ (Array.getElem?_eq_some_iff.1 HQ2.out).1 (by omega)).trans HQ2.out
      have HP2 : Hid (P = (numberP en q2).bind fun n l => .ok ⟨a, op, n⟩ l) := by show _ = _; rw [HP1.out, h2]; rfl
      clear h2 hrd hfr HP1
      go_wp2_with fail
      refine (number_any N R M en w3 q2 HR3.out).mono ?_
      intro e w4 hp
      cases h3 : numberP en q2 with
      | bad x er =>
        rw [h3] at hp
        obtain ⟨rfl, hfr⟩ := hp
        have hfr2 := HF3.out.trans hfr
        have HPB : Hid (P = .bad x er) := by show _ = _; rw [HP2.out, h3]; rfl
        clear h3 hfr
        go_wp2
        exact ⟨rfl, by rw [HPB.out]; exact ⟨rfl, hfr2⟩⟩
      | ok n q3 =>
        rw [h3] at hp
        obtain ⟨v, rfl, ⟨rfl, _, _⟩, hrd, hfr⟩ := hp
        have HR4 : Hid (Rd N R M en w4 q3) := hrd
        have HF4 : Hid (Fr (fun k => k = R) w w4) := HF3.out.trans hfr
        have HQ4 : w4.heap[w.heap.size]? = some (.cells #[.int .i64 0, .int .i64 0, .int .i64 0] 88) := (hfr.block _ (Array.getElem?_eq_some_iff.1 HQ3.out).1 (by omega)).trans HQ3.out
        have HP3 : Hid (P = .ok ⟨a, op, n⟩ q3) := by show _ = _; rw [HP2.out, h3]; rfl
        have r0 := blk9 HQ4 0 _ rfl
        have r1 := blk9 HQ4 1 _ rfl
        have r2 := blk9 HQ4 2 _ rfl
        have z0 := frz9 HQ4 0
        have z1 := frz9 HQ4 1
        have z2 := frz9 HQ4 2
        have hN0 : N ≤ w.heap.size := HB.out.1.2.1
        have hne2 : w.heap.size ≠ R := by omega
        clear h3 hrd hfr HP2 HQ4
        go_wp2
        refine bodyPost_ret (by simp [results, Tryz.results245, go_sem, *]; try rfl) rfl ?_
        rw [HP3.out]
        refine ⟨_, rfl, rfl, ?_, ?_⟩
        · exact ((HR4.out.set (p := ⟨w.heap.size, 0, none⟩) hne2 hN0 _).set (p := ⟨w.heap.size, 1, none⟩) hne2 hN0 _).set (p := ⟨w.heap.size, 2, none⟩) hne2 hN0 _
        · exact ((HF4.out.setNew (p := ⟨w.heap.size, 0, none⟩) (Nat.le_refl _) _).setNew (p := ⟨w.heap.size, 1, none⟩) (Nat.le_refl _) _).setNew (p := ⟨w.heap.size, 2, none⟩) (Nat.le_refl _) _

theorem item_lit (B N R M : Nat) (en : Int) (names : List ByteArray) (hM : M < B) (hMR : M ≠ R) (hne : ∀ n ∈ names, n.data.toList ≠ []) : Item B N R M en 245 (litP en names) (fun i v _ => v = litA i) (fun w => NmS w M names) :=
  ⟨enters_lit9, names_stay B R M names hM hMR, fun w l h hn => rlit_any N R M en names w l h hn hne⟩

set_option maxHeartbeats 400000 in
set_option maxRecDepth 100000 in
theorem lits_read (N R M : Nat) (en : Int) (names : List ByteArray) (w : World) (l : List Tok) (h : Rd N R M en w l) (hn : NmS w M names) (hne : ∀ n ∈ names, n.data.toList ≠ []) :
    Calls Tryz.prog 244 #[.pointer (some ⟨R, 0, none⟩)] w (PostR (readP en (litP en names) l) (fun xs v w' => w'.ownsRow w.heap.size 88 3 v xs.length (xs.flatMap litC)) N R M en (fun k => k = R) w) := by
  have HB : Hid (Rd N R M en w l) := h
  have HN : Hid (NmS w M names) := hn
  have HNE : Hid (∀ n ∈ names, n.data.toList ≠ []) := hne
  have hMR : M ≠ R := h.1.2.2
  obtain ⟨P, hP⟩ : ∃ P, readP en (litP en names) l = P := ⟨_, rfl⟩
  have HP : Hid (readP en (litP en names) l = P) := hP
  rw [hP]
  clear h hP hn hne
  go_enter Tryz.func244, Tryz.ntmps244
  go_wp2_with fail
  refine (readlits_any N R M en 245 (litP en names) (fun w => NmS w M names) (eats_lit en names) w.heap.size (item_lit _ _ _ _ _ names HN.out.lt hMR HNE.out) w (Nat.le_refl _) l HB.out HN.out HB.out.len).mono ?_
  intro e w1 hp
  rw [HP.out] at hp
  cases P with
  | bad x er =>
    obtain ⟨rfl, hfr⟩ := hp
    go_wp2
    exact ⟨rfl, rfl, hfr⟩
  | ok xs r =>
    obtain ⟨v, rfl, ⟨ho, _⟩, hrd, hfr⟩ := hp
    have HO : Hid (w1.ownsRow w.heap.size 88 3 v xs.length (xs.flatMap litC)) := ho
    obtain ⟨av, cv, hv⟩ := own_form ho
    subst hv
    clear ho
    go_wp2
    go_ret
    exact ⟨_, rfl, HO.out, hrd, hfr⟩
end Go.Proofs.YtdjbejlbmaiocagGreatDoor
/-
  WALK: package text: the reader: goal.
-/
namespace Go.Proofs.YtdjbejlbmaiocagGreatDoor
open Go.RowKit

theorem solid_var : solid varW := by unfold solid varW; simp [go_sem]
theorem solid_col : solid colW := by unfold solid colW; simp [go_sem]
theorem solid_dots : solid dotsW := by unfold solid dotsW; simp [go_sem]
theorem solid_semi : solid semiW := by unfold solid semiW; simp [go_sem]
theorem solid_con : solid conW := by unfold solid conW; simp [go_sem]
theorem solid_solve : solid solveW := by unfold solid solveW; simp [go_sem]

set_option maxHeartbeats 1600000 in
set_option maxRecDepth 100000 in
theorem rgoal_any (N R M : Nat) (en : Int) (names : List ByteArray) (w : World) (l : List Tok) (h : Rd N R M en w l) (hn : NmS w M names) (hne : ∀ n ∈ names, n.data.toList ≠ []) :
    Calls Tryz.prog 178 #[.pointer (some ⟨R, 0, none⟩)] w (PostR (goalP en names l) (fun i v _ => v = .tuple #[.int .i64 i.1, .int .i64 i.2]) N R M en (fun k => k = R) w) := by
  have HB : Hid (Rd N R M en w l) := h
  have HN : Hid (NmS w M names) := hn
  have HNE : Hid (∀ n ∈ names, n.data.toList ≠ []) := hne
  have hMR : M ≠ R := h.1.2.2
  obtain ⟨P, hP⟩ : ∃ P, goalP en names l = P := ⟨_, rfl⟩
  have HP : Hid (P = (skipP en solveW l).bind fun _ l => (oneOfP en goalWL l).bind fun g l => if g = 0 then (skipP en semiW l).bind fun _ l => .ok (g, 0) l else (nameP en names l).bind fun v l => (skipP en semiW l).bind fun _ l => .ok (g, v) l) := by show _ = _; rw [← hP]; rfl
  rw [hP]
  clear h hP hn hne
  go_enter Tryz.func178, Tryz.ntmps178
  go_wp2_with fail
  refine (rskip_any N R M en solveW solid_solve w l HB.out).mono ?_
  intro e w1 hp
  cases hs : skipP en solveW l with
  | bad x er =>
    rw [hs] at hp
    obtain ⟨rfl, hfr⟩ := hp
    have HPB : Hid (P = .bad x er) := by show _ = _; rw [HP.out, hs]; rfl
    clear hs
    go_wp2
    exact ⟨rfl, by rw [HPB.out]; exact ⟨rfl, hfr⟩⟩
  | ok t q =>
    rw [hs] at hp
    obtain ⟨v, rfl, rfl, hrd, hfr⟩ := hp
    have HR1 : Hid (Rd N R M en w1 q) := hrd
    have HF1 : Hid (Fr (fun k => k = R) w w1) := hfr
    have HN1 : Hid (NmS w1 M names) := HN.out.old (hfr.block M HN.out.lt hMR)
    have HP1 : Hid (P = (oneOfP en goalWL q).bind fun g l => if g = 0 then (skipP en semiW l).bind fun _ l => .ok (g, 0) l else (nameP en names l).bind fun v l => (skipP en semiW l).bind fun _ l => .ok (g, v) l) := by show _ = _; rw [HP.out, hs]; rfl
    clear hs hrd hfr HP
    go_wp2_with fail
    refine (words_goals w1).mono ?_
    rintro e w2 ⟨sv, rfl, hsv, hb2⟩
    have HSV : Hid (SArg w2 sv goalWL) := hsv
    obtain ⟨as_, cs_, rfl, _, _⟩ := hsv
    have HR2 : Hid (Rd N R M en w2 q) := HR1.out.below hb2
    have HF2 : Hid (Fr (fun k => k = R) w w2) := HF1.out.trans (Fr.below hb2)
    have HN2 : Hid (NmS w2 M names) := HN1.out.old (hb2.block M HN1.out.lt)
    clear hb2
    go_wp2_with fail
    refine (oneof_any N R M en goalWL _ w2 q HR2.out HSV.out).mono ?_
    intro e w3 hp
    cases hs : oneOfP en goalWL q with
    | bad x er =>
      rw [hs] at hp
      obtain ⟨rfl, hfr⟩ := hp
      have hfr2 := HF2.out.trans hfr
      have HPB : Hid (P = .bad x er) := by show _ = _; rw [HP1.out, hs]; rfl
      clear hs hfr
      go_wp2
      exact ⟨rfl, by rw [HPB.out]; exact ⟨rfl, hfr2⟩⟩
    | ok g q2 =>
      rw [hs] at hp
      obtain ⟨v, rfl, rfl, hrd, hfr⟩ := hp
      have HR3 : Hid (Rd N R M en w3 q2) := hrd
      have HF3 : Hid (Fr (fun k => k = R) w w3) := HF2.out.trans hfr
      have HN3 : Hid (NmS w3 M names) := HN2.out.old (hfr.block M HN2.out.lt hMR)
      have HP2 : Hid (P = if g = 0 then (skipP en semiW q2).bind fun _ l => .ok (g, 0) l else (nameP en names q2).bind fun v l => (skipP en semiW l).bind fun _ l => .ok (g, v) l) := by show _ = _; rw [HP1.out, hs]; rfl
      clear hs hrd hfr HP1
      by_cases hg : g = 0
      · subst hg
        have HP3 : Hid (P = (skipP en semiW q2).bind fun _ l => .ok (0, 0) l) := by show _ = _; rw [HP2.out, if_pos rfl]
        clear HP2
        go_wp2_with fail
        refine (rskip_any N R M en semiW solid_semi w3 q2 HR3.out).mono ?_
        intro e w4 hp
        cases hs : skipP en semiW q2 with
        | bad x er =>
          rw [hs] at hp
          obtain ⟨rfl, hfr⟩ := hp
          have hfr2 := HF3.out.trans hfr
          have HPB : Hid (P = .bad x er) := by show _ = _; rw [HP3.out, hs]; rfl
          clear hs hfr
          go_wp2
          exact ⟨rfl, by rw [HPB.out]; exact ⟨rfl, hfr2⟩⟩
        | ok t3 q3 =>
          rw [hs] at hp
          obtain ⟨v, rfl, rfl, hrd, hfr⟩ := hp
          have hfr2 := HF3.out.trans hfr
          have HPB : Hid (P = .ok (0, 0) q3) := by show _ = _; rw [HP3.out, hs]; rfl
          clear hs hfr
          go_wp2
          go_ret2
          rw [HPB.out]
          exact ⟨_, rfl, rfl, hrd, hfr2⟩
      · have HP3 : Hid (P = (nameP en names q2).bind fun v l => (skipP en semiW l).bind fun _ l => .ok (g, v) l) := by show _ = _; rw [HP2.out, if_neg hg]
        have hg2 : (g != 0) = true := by simpa using hg
        clear HP2 hg
        go_wp2_with fail
        refine (name_any N R M en names w3 q2 HR3.out HN3.out HNE.out).mono ?_
        intro e w4 hp
        cases hs : nameP en names q2 with
        | bad x er =>
          rw [hs] at hp
          obtain ⟨rfl, hfr⟩ := hp
          have hfr2 := HF3.out.trans hfr
          have HPB : Hid (P = .bad x er) := by show _ = _; rw [HP3.out, hs]; rfl
          clear hs hfr
          go_wp2
          exact ⟨rfl, by rw [HPB.out]; exact ⟨rfl, hfr2⟩⟩
        | ok a q3 =>
          rw [hs] at hp
          obtain ⟨v, rfl, rfl, hrd, hfr⟩ := hp
          have HR4 : Hid (Rd N R M en w4 q3) := hrd
          have HF4 : Hid (Fr (fun k => k = R) w w4) := HF3.out.trans hfr
          have HP4 : Hid (P = (skipP en semiW q3).bind fun _ l => .ok (g, a) l) := by show _ = _; rw [HP3.out, hs]; rfl
          clear hs hrd hfr HP3
          go_wp2_with fail
          refine (rskip_any N R M en semiW solid_semi w4 q3 HR4.out).mono ?_
          intro e w5 hp
          cases hs : skipP en semiW q3 with
          | bad x er =>
            rw [hs] at hp
            obtain ⟨rfl, hfr⟩ := hp
            have hfr2 := HF4.out.trans hfr
            have HPB : Hid (P = .bad x er) := by show _ = _; rw [HP4.out, hs]; rfl
            clear hs hfr
            go_wp2
            exact ⟨rfl, by rw [HPB.out]; exact ⟨rfl, hfr2⟩⟩
          | ok t4 q4 =>
            rw [hs] at hp
            obtain ⟨v, rfl, rfl, hrd, hfr⟩ := hp
            have hfr2 := HF4.out.trans hfr
            have HPB : Hid (P = .ok (g, a) q4) := by show _ = _; rw [HP4.out, hs]; rfl
            clear hs hfr
            go_wp2
            go_ret2
            rw [HPB.out]
            exact ⟨_, rfl, rfl, hrd, hfr2⟩
end Go.Proofs.YtdjbejlbmaiocagGreatDoor
/-
  WALK: package text: the reader: newVar.
-/
namespace Go.Proofs.YtdjbejlbmaiocagGreatDoor
open Go.RowKit Go.Maps

set_option maxRecDepth 100000 in
theorem NmS.next {w : World} {M : Nat} {l : List ByteArray} (n : ByteArray) (h : NmS w M l) (hn : n.size ≤ maxLen) (hl : l.length ≤ 4000) :
    ∃ w', Sem.run Tryz.prog (Instr.mapUpdate 175 (.map (some M)) (.string n) (.int .i64 (l.length : Int))) w = .ok () w' ∧ NmS w' M (l ++ [n]) ∧ w.grownBy w' (some M) := by
  obtain ⟨w', hrun, hown, ht⟩ := World.ownsMap.store h Tryz.strKeyed Tryz.underNames (by unfold maxLen; omega) (WideMaps.keyOf_string_mk Tryz.underlying9 hn) (plainElem_int (H := Unit) (a := (l.length : Int)) Tryz.underlying3 (WalkArith.wf_i64 (by omega)))
  exact ⟨w', hrun, by unfold NmS; rw [nmD_next, List.length_append]; exact hown, ht.grown⟩
abbrev XRM (R M : Nat) : Nat → Prop := fun k => k = R ∨ k = M
theorem Fr.toRM {R M : Nat} {w w' : World} (h : Fr (fun k => k = R) w w') : Fr (XRM R M) w w' := h.weak fun _ hk => Or.inl hk

set_option maxHeartbeats 1600000 in
set_option maxRecDepth 100000 in
theorem newvar_any (N R M : Nat) (en : Int) (names : List ByteArray) (w : World) (l : List Tok) (h : Rd N R M en w l) (hn : NmS w M names) (hlen : names.length ≤ 4000) (hNM : N ≤ M) :
    Calls Tryz.prog 176 #[.pointer (some ⟨R, 0, none⟩), .int .i64 (names.length : Int)] w (PostR (newVarP en l) (fun x v w' => v = .agg #[.string x.name, .int .i64 x.lo, .int .i64 x.hi] ∧ x.name.size ≤ maxLen ∧ NmS w' M (names ++ [x.name])) N R M en (XRM R M) w) := by
  have HB : Hid (Rd N R M en w l) := h
  have HN : Hid (NmS w M names) := hn
  have HLN : Hid (names.length ≤ 4000) := hlen
  have hMR : M ≠ R := h.1.2.2
  have hRw : R < w.heap.size := by obtain ⟨_, _, hR, _⟩ := h; exact (Array.getElem?_eq_some_iff.1 hR).1
  have hMw : M < w.heap.size := hn.lt
  have hNw : N ≤ w.heap.size := h.1.2.1
  obtain ⟨P, hP⟩ : ∃ P, newVarP en l = P := ⟨_, rfl⟩
  have HP0 : Hid (P = (skipP en varW l).bind fun _ l => (newNameP en l).bind fun n l => (skipP en colW l).bind fun _ l => (numberP en l).bind fun lo l => (skipP en dotsW l).bind fun _ l => (numberP en l).bind fun hi l => (skipP en semiW l).bind fun _ l => .ok ⟨n, lo, hi⟩ l) := by show _ = _; rw [← hP]; rfl
  rw [hP]
  clear h hP hn hlen
  obtain ⟨nl, hnl⟩ : ∃ nl : Int, nl = (names.length : Int) := ⟨_, rfl⟩
  rw [← hnl]
  have HNL : Hid (nl = (names.length : Int)) := hnl
  clear hnl
  go_enter Tryz.func176, Tryz.ntmps176
  go_wp2_with fail
  have HR0 := HB.out.below (below_alloc w (.cells #[.string ⟨#[]⟩, .int .i64 0, .int .i64 0] 71))
  have HN0 : Hid (NmS (w.alloc (.cells #[.string ⟨#[]⟩, .int .i64 0, .int .i64 0] 71)) M names) := HN.out.old ((below_alloc w _).block M hMw)
  have HF0 : Hid (Fr (XRM R M) w (w.alloc (.cells #[.string ⟨#[]⟩, .int .i64 0, .int .i64 0] 71))) := Fr.below (below_alloc _ _)
  have HQ0 : Hid ((w.alloc (.cells #[.string ⟨#[]⟩, .int .i64 0, .int .i64 0] 71)).heap[w.heap.size]? = some (.cells #[.string ⟨#[]⟩, .int .i64 0, .int .i64 0] 71)) := by show (w.heap.push _)[w.heap.size]? = _; simp
  refine (rskip_any N R M en varW solid_var _ l HR0).mono ?_
  intro e w1 hp
  cases hs : skipP en varW l with
  | bad x er =>
    rw [hs] at hp
    obtain ⟨rfl, hfr⟩ := hp
    have hfr2 := HF0.out.trans hfr.toRM
    have HPB : Hid (P = .bad x er) := by show _ = _; rw [HP0.out, hs]; rfl
    clear hs hfr HR0
    go_wp2
    exact ⟨rfl, by rw [HPB.out]; exact ⟨rfl, hfr2⟩⟩
  | ok t1 q1 =>
    rw [hs] at hp
    obtain ⟨v, rfl, rfl, hrd, hfr⟩ := hp
    have HR1 : Hid (Rd N R M en w1 q1) := hrd
    have HF1 : Hid (Fr (XRM R M) w w1) := HF0.out.trans hfr.toRM
    have HN1 : Hid (NmS w1 M names) := HN0.out.old (hfr.block M HN0.out.lt hMR)
    have HQ1 : Hid (w1.heap[w.heap.size]? = some (.cells #[.string ⟨#[]⟩, .int .i64 0, .int .i64 0] 71)) := (hfr.block _ (Array.getElem?_eq_some_iff.1 HQ0.out).1 (by omega)).trans HQ0.out
    have HP1 : Hid (P = (newNameP en q1).bind fun n l => (skipP en colW l).bind fun _ l => (numberP en l).bind fun lo l => (skipP en dotsW l).bind fun _ l => (numberP en l).bind fun hi l => (skipP en semiW l).bind fun _ l => .ok ⟨n, lo, hi⟩ l) := by show _ = _; rw [HP0.out, hs]; rfl
    clear hs hrd hfr HR0 HN0 HF0 HQ0 HP0
    go_wp2_with fail
    refine (newname_any N R M en w1 q1 HR1.out).mono ?_
    intro e w2 hp
    cases hs : newNameP en q1 with
    | bad x er =>
      rw [hs] at hp
      obtain ⟨rfl, hfr⟩ := hp
      have hfr2 := HF1.out.trans hfr.toRM
      have HPB : Hid (P = .bad x er) := by show _ = _; rw [HP1.out, hs]; rfl
      clear hs hfr
      go_wp2
      exact ⟨rfl, by rw [HPB.out]; exact ⟨rfl, hfr2⟩⟩
    | ok n q2 =>
      rw [hs] at hp
      obtain ⟨v, rfl, ⟨rfl, hsz⟩, hrd, hfr⟩ := hp
      have HSZ : Hid (n.size ≤ maxLen) := hsz
      have hsz2 : w.heap.size < w2.heap.size := Nat.lt_of_lt_of_le (Array.getElem?_eq_some_iff.1 HQ1.out).1 hfr.size
      obtain ⟨W, hW⟩ : ∃ W, W = w2.alloc (.cells #[.string n, .int .i64 0, .int .i64 0] 71) := ⟨_, rfl⟩
      have hbw : Below w2.heap.size w2 W := by rw [hW]; exact below_alloc _ _
      have HRW : Hid (Rd N R M en W q2) := hrd.below hbw
      have HFW : Hid (Fr (XRM R M) w W) := (HF1.out.trans hfr.toRM).trans (Fr.below hbw)
      have HNW : Hid (NmS W M names) := (HN1.out.old (hfr.block M HN1.out.lt hMR)).old (hbw.block M (Nat.lt_of_lt_of_le hMw (Nat.le_of_lt (Nat.lt_of_lt_of_le hsz2 (Nat.le_refl _)))))
      have HQW : Hid (W.heap[w.heap.size]? = some (.cells #[.string ⟨#[]⟩, .int .i64 0, .int .i64 0] 71)) := (hbw.block _ hsz2).trans ((hfr.block _ (Array.getElem?_eq_some_iff.1 HQ1.out).1 (by omega)).trans HQ1.out)
      have HVW : Hid (W.heap[w2.heap.size]? = some (.cells #[.string n, .int .i64 0, .int .i64 0] 71)) := by show _ = _; rw [hW]; show (w2.heap.push _)[w2.heap.size]? = _; simp
      have HP2 : Hid (P = (skipP en colW q2).bind fun _ l => (numberP en l).bind fun lo l => (skipP en dotsW l).bind fun _ l => (numberP en l).bind fun hi l => (skipP en semiW l).bind fun _ l => .ok ⟨n, lo, hi⟩ l) := by show _ = _; rw [HP1.out, hs]; rfl
      obtain ⟨w3, hrun, hnm3, hgr⟩ := NmS.next (w := W.drew) n (HNW.out.old rfl) HSZ.out HLN.out
      rw [← HNL.out] at hrun
      have HG : Hid (∀ k, k < W.heap.size → k ≠ M → w3.heap[k]? = W.heap[k]?) := fun k hk hne => hgr.block k hk (fun e => hne (Option.some.inj e))
      have HRd := HRW.out
      obtain ⟨_, vr, hR, right⟩ := HRd
      have cR : W.cell? ⟨R, 2, none⟩ = some (.map (some M)) := by rw [Lib.cell_of_heap hR]; rfl
      have cV : W.cell? ⟨w2.heap.size, 0, none⟩ = some (.string n) := blk9 HVW.out 0 _ rfl
      have hMW : M < W.heap.size := HNW.out.lt
      have hRW : R < W.heap.size := (Array.getElem?_eq_some_iff.1 hR).1
      have hVW : w2.heap.size < W.heap.size := (Array.getElem?_eq_some_iff.1 HVW.out).1
      have hVM : w2.heap.size ≠ M := by omega
      have fR : w3.cell? ⟨R, 2, none⟩ = some (.map (some M)) := (World.cell?_of_block (HG.out R hRW (Ne.symm hMR))).trans cR
      have fV : w3.cell? ⟨w2.heap.size, 0, none⟩ = some (.string n) := (World.cell?_of_block (HG.out w2.heap.size hVW hVM)).trans cV
      have HR3 : Hid (Rd N R M en w3 q2) := (HRW.out.below (w' := W.drew) (Below.refl _ _).drew).grown hgr (fun k hk => by cases hk; exact ⟨hMR, hNM⟩)
      have HF3 : Hid (Fr (XRM R M) w w3) := (HFW.out.trans (Fr.below (w' := W.drew) (Below.refl _ _).drew)).grown hgr (fun k hk => by cases hk; exact Or.inl (Or.inr rfl))
      have HN3 : Hid (NmS w3 M (names ++ [n])) := hnm3
      have hSM : w.heap.size ≠ M := by omega
      have HQ3 : Hid (w3.heap[w.heap.size]? = some (.cells #[.string ⟨#[]⟩, .int .i64 0, .int .i64 0] 71)) := (HG.out _ (Array.getElem?_eq_some_iff.1 HQW.out).1 hSM).trans HQW.out
      have HV3 : Hid (w3.heap[w2.heap.size]? = some (.cells #[.string n, .int .i64 0, .int .i64 0] 71)) := (HG.out _ hVW hVM).trans HVW.out
      clear hs hrd hfr HR1 HN1 HF1 HQ1 HP1 hbw hsz hR HRW HFW HNW HQW HVW HG hgr hnm3
      subst hW
      go_wp2_with fail
      go_region_held3 (fun w' => w'.cell? ⟨R, 2, none⟩ = some (.map (some M)) ∧ w'.cell? ⟨w2.heap.size, 0, none⟩ = some (.string n)) (first | exact ⟨cR, cV⟩ | exact ⟨fR, fV⟩) (fail)
      clear cR cV fR fV hrun hMW hRW hVW right
      go_wp2_with fail
      refine (rskip_any N R M en colW solid_col w3 q2 HR3.out).mono ?_
      intro e w4 hp
      cases hs : skipP en colW q2 with
      | bad x er =>
        rw [hs] at hp
        obtain ⟨rfl, hfr⟩ := hp
        have hfr2 := HF3.out.trans hfr.toRM
        have HPB : Hid (P = .bad x er) := by show _ = _; rw [HP2.out, hs]; rfl
        clear hs hfr
        go_wp2
        exact ⟨rfl, by rw [HPB.out]; exact ⟨rfl, hfr2⟩⟩
      | ok t4 q3 =>
        rw [hs] at hp
        obtain ⟨v, rfl, rfl, hrd, hfr⟩ := hp
        have HR4 : Hid (Rd N R M en w4 q3) := hrd
        have HF4 : Hid (Fr (XRM R M) w w4) := HF3.out.trans hfr.toRM
        have HN4 : Hid (NmS w4 M (names ++ [n])) := HN3.out.old (hfr.block M HN3.out.lt hMR)
        have HQ4 : Hid (w4.heap[w.heap.size]? = some (.cells #[.string ⟨#[]⟩, .int .i64 0, .int .i64 0] 71)) := (hfr.block _ (Array.getElem?_eq_some_iff.1 HQ3.out).1 (by omega)).trans HQ3.out
        have HV4 : Hid (w4.heap[w2.heap.size]? = some (.cells #[.string n, .int .i64 0, .int .i64 0] 71)) := (hfr.block _ (Array.getElem?_eq_some_iff.1 HV3.out).1 (by omega)).trans HV3.out
        have HP3 : Hid (P = (numberP en q3).bind fun lo l => (skipP en dotsW l).bind fun _ l => (numberP en l).bind fun hi l => (skipP en semiW l).bind fun _ l => .ok ⟨n, lo, hi⟩ l) := by show _ = _; rw [HP2.out, hs]; rfl
        clear hs hrd hfr HR3 HF3 HN3 HQ3 HV3 HP2
        go_wp2_with fail
        refine (number_any N R M en w4 q3 HR4.out).mono ?_
        intro e w5 hp
        cases hs : numberP en q3 with
        | bad x er =>
          rw [hs] at hp
          obtain ⟨rfl, hfr⟩ := hp
          have hfr2 := HF4.out.trans hfr.toRM
          have HPB : Hid (P = .bad x er) := by show _ = _; rw [HP3.out, hs]; rfl
          clear hs hfr
          go_wp2
          exact ⟨rfl, by rw [HPB.out]; exact ⟨rfl, hfr2⟩⟩
        | ok lo q4 =>
          rw [hs] at hp
          obtain ⟨v, rfl, ⟨rfl, hlo, hhi⟩, hrd, hfr⟩ := hp
          have HR5 : Hid (Rd N R M en w5 q4) := hrd
          have HF5 : Hid (Fr (XRM R M) w w5) := HF4.out.trans hfr.toRM
          have HN5 : Hid (NmS w5 M (names ++ [n])) := HN4.out.old (hfr.block M HN4.out.lt hMR)
          have HQ5 : Hid (w5.heap[w.heap.size]? = some (.cells #[.string ⟨#[]⟩, .int .i64 0, .int .i64 0] 71)) := (hfr.block _ (Array.getElem?_eq_some_iff.1 HQ4.out).1 (by omega)).trans HQ4.out
          have HV5 : Hid (w5.heap[w2.heap.size]? = some (.cells #[.string n, .int .i64 0, .int .i64 0] 71)) := (hfr.block _ (Array.getElem?_eq_some_iff.1 HV4.out).1 (by omega)).trans HV4.out
          have HP4 : Hid (P = (skipP en dotsW q4).bind fun _ l => (numberP en l).bind fun hi l => (skipP en semiW l).bind fun _ l => .ok ⟨n, lo, hi⟩ l) := by show _ = _; rw [HP3.out, hs]; rfl
          clear hs hrd hfr HR4 HF4 HN4 HQ4 HV4 HP3
          have r5 := blk9 HV5.out 1 _ rfl
          have z5 := frz9 HV5.out 1
          have HR55 : Hid (Rd N R M en (w5.setCell ⟨w2.heap.size, 1, none⟩ (.int .i64 lo)) q4) := HR5.out.set (p := ⟨w2.heap.size, 1, none⟩) (show w2.heap.size ≠ R by omega) (show N ≤ w2.heap.size by omega) _
          have HF55 : Hid (Fr (XRM R M) w (w5.setCell ⟨w2.heap.size, 1, none⟩ (.int .i64 lo))) := HF5.out.setNew (p := ⟨w2.heap.size, 1, none⟩) (Nat.le_of_lt hsz2) _
          have HN55 : Hid (NmS (w5.setCell ⟨w2.heap.size, 1, none⟩ (.int .i64 lo)) M (names ++ [n])) := HN5.out.old (Below.heap_setCell _ _ _ _ (show M ≠ w2.heap.size from Ne.symm hVM))
          have HQ55 : Hid ((w5.setCell ⟨w2.heap.size, 1, none⟩ (.int .i64 lo)).heap[w.heap.size]? = some (.cells #[.string ⟨#[]⟩, .int .i64 0, .int .i64 0] 71)) := (Below.heap_setCell _ _ _ _ (show w.heap.size ≠ w2.heap.size by omega)).trans HQ5.out
          have HV55 : Hid ((w5.setCell ⟨w2.heap.size, 1, none⟩ (.int .i64 lo)).heap[w2.heap.size]? = some (.cells #[.string n, .int .i64 lo, .int .i64 0] 71)) := by show _ = _; rw [heap_setCell_same w5 w2.heap.size 1 _ _ _ HV5.out]; rfl
          clear HR5 HF5 HN5 HQ5 HV5
          go_wp2_with fail
          refine (rskip_any N R M en dotsW solid_dots _ q4 HR55.out).mono ?_
          intro e w6 hp
          cases hs : skipP en dotsW q4 with
          | bad x er =>
            rw [hs] at hp
            obtain ⟨rfl, hfr⟩ := hp
            have hfr2 := HF55.out.trans hfr.toRM
            have HPB : Hid (P = .bad x er) := by show _ = _; rw [HP4.out, hs]; rfl
            clear hs hfr
            go_wp2
            exact ⟨rfl, by rw [HPB.out]; exact ⟨rfl, hfr2⟩⟩
          | ok t6 q5 =>
            rw [hs] at hp
            obtain ⟨v, rfl, rfl, hrd, hfr⟩ := hp
            have HR6 : Hid (Rd N R M en w6 q5) := hrd
            have HF6 : Hid (Fr (XRM R M) w w6) := HF55.out.trans hfr.toRM
            have HN6 : Hid (NmS w6 M (names ++ [n])) := HN55.out.old (hfr.block M HN55.out.lt hMR)
            have HQ6 : Hid (w6.heap[w.heap.size]? = some (.cells #[.string ⟨#[]⟩, .int .i64 0, .int .i64 0] 71)) := (hfr.block _ (Array.getElem?_eq_some_iff.1 HQ55.out).1 (by omega)).trans HQ55.out
            have HV6 : Hid (w6.heap[w2.heap.size]? = some (.cells #[.string n, .int .i64 lo, .int .i64 0] 71)) := (hfr.block _ (Array.getElem?_eq_some_iff.1 HV55.out).1 (by omega)).trans HV55.out
            have HP5 : Hid (P = (numberP en q5).bind fun hi l => (skipP en semiW l).bind fun _ l => .ok ⟨n, lo, hi⟩ l) := by show _ = _; rw [HP4.out, hs]; rfl
            clear hs hrd hfr HR55 HF55 HN55 HQ55 HV55 HP4
            clear r5 z5
            go_wp2_with fail
            refine (number_any N R M en w6 q5 HR6.out).mono ?_
            intro e w7 hp
            cases hs : numberP en q5 with
            | bad x er =>
              rw [hs] at hp
              obtain ⟨rfl, hfr⟩ := hp
              have hfr2 := HF6.out.trans hfr.toRM
              have HPB : Hid (P = .bad x er) := by show _ = _; rw [HP5.out, hs]; rfl
              clear hs hfr
              go_wp2
              exact ⟨rfl, by rw [HPB.out]; exact ⟨rfl, hfr2⟩⟩
            | ok hi q6 =>
              rw [hs] at hp
              obtain ⟨v, rfl, ⟨rfl, hlo, hhi⟩, hrd, hfr⟩ := hp
              have HR7 : Hid (Rd N R M en w7 q6) := hrd
              have HF7 : Hid (Fr (XRM R M) w w7) := HF6.out.trans hfr.toRM
              have HN7 : Hid (NmS w7 M (names ++ [n])) := HN6.out.old (hfr.block M HN6.out.lt hMR)
              have HQ7 : Hid (w7.heap[w.heap.size]? = some (.cells #[.string ⟨#[]⟩, .int .i64 0, .int .i64 0] 71)) := (hfr.block _ (Array.getElem?_eq_some_iff.1 HQ6.out).1 (by omega)).trans HQ6.out
              have HV7 : Hid (w7.heap[w2.heap.size]? = some (.cells #[.string n, .int .i64 lo, .int .i64 0] 71)) := (hfr.block _ (Array.getElem?_eq_some_iff.1 HV6.out).1 (by omega)).trans HV6.out
              have HP6 : Hid (P = (skipP en semiW q6).bind fun _ l => .ok ⟨n, lo, hi⟩ l) := by show _ = _; rw [HP5.out, hs]; rfl
              clear hs hrd hfr HR6 HF6 HN6 HQ6 HV6 HP5
              have r7 := blk9 HV7.out 2 _ rfl
              have z7 := frz9 HV7.out 2
              have HR77 : Hid (Rd N R M en (w7.setCell ⟨w2.heap.size, 2, none⟩ (.int .i64 hi)) q6) := HR7.out.set (p := ⟨w2.heap.size, 2, none⟩) (show w2.heap.size ≠ R by omega) (show N ≤ w2.heap.size by omega) _
              have HF77 : Hid (Fr (XRM R M) w (w7.setCell ⟨w2.heap.size, 2, none⟩ (.int .i64 hi))) := HF7.out.setNew (p := ⟨w2.heap.size, 2, none⟩) (Nat.le_of_lt hsz2) _
              have HN77 : Hid (NmS (w7.setCell ⟨w2.heap.size, 2, none⟩ (.int .i64 hi)) M (names ++ [n])) := HN7.out.old (Below.heap_setCell _ _ _ _ (show M ≠ w2.heap.size from Ne.symm hVM))
              have HQ77 : Hid ((w7.setCell ⟨w2.heap.size, 2, none⟩ (.int .i64 hi)).heap[w.heap.size]? = some (.cells #[.string ⟨#[]⟩, .int .i64 0, .int .i64 0] 71)) := (Below.heap_setCell _ _ _ _ (show w.heap.size ≠ w2.heap.size by omega)).trans HQ7.out
              have HV77 : Hid ((w7.setCell ⟨w2.heap.size, 2, none⟩ (.int .i64 hi)).heap[w2.heap.size]? = some (.cells #[.string n, .int .i64 lo, .int .i64 hi] 71)) := by show _ = _; rw [heap_setCell_same w7 w2.heap.size 2 _ _ _ HV7.out]; rfl
              clear HR7 HF7 HN7 HQ7 HV7
              go_wp2_with fail
              refine (rskip_any N R M en semiW solid_semi _ q6 HR77.out).mono ?_
              intro e w8 hp
              cases hs : skipP en semiW q6 with
              | bad x er =>
                rw [hs] at hp
                obtain ⟨rfl, hfr⟩ := hp
                have hfr2 := HF77.out.trans hfr.toRM
                have HPB : Hid (P = .bad x er) := by show _ = _; rw [HP6.out, hs]; rfl
                clear hs hfr
                go_wp2
                exact ⟨rfl, by rw [HPB.out]; exact ⟨rfl, hfr2⟩⟩
              | ok t8 q7 =>
                rw [hs] at hp
                obtain ⟨v, rfl, rfl, hrd, hfr⟩ := hp
                have HR8 : Hid (Rd N R M en w8 q7) := hrd
                have HF8 : Hid (Fr (XRM R M) w w8) := HF77.out.trans hfr.toRM
                have HN8 : Hid (NmS w8 M (names ++ [n])) := HN77.out.old (hfr.block M HN77.out.lt hMR)
                have HQ8 : Hid (w8.heap[w.heap.size]? = some (.cells #[.string ⟨#[]⟩, .int .i64 0, .int .i64 0] 71)) := (hfr.block _ (Array.getElem?_eq_some_iff.1 HQ77.out).1 (by omega)).trans HQ77.out
                have HV8 : Hid (w8.heap[w2.heap.size]? = some (.cells #[.string n, .int .i64 lo, .int .i64 hi] 71)) := (hfr.block _ (Array.getElem?_eq_some_iff.1 HV77.out).1 (by omega)).trans HV77.out
                have HP7 : Hid (P = .ok ⟨n, lo, hi⟩ q7) := by show _ = _; rw [HP6.out, hs]; rfl
                clear hs hrd hfr HR77 HF77 HN77 HQ77 HV77 HP6
                clear r7 z7
                have a0 := blk9 HV8.out 0 _ rfl
                have a1 := blk9 HV8.out 1 _ rfl
                have a2 := blk9 HV8.out 2 _ rfl
                have b0 := blk9 HQ8.out 0 _ rfl
                have b1 := blk9 HQ8.out 1 _ rfl
                have b2 := blk9 HQ8.out 2 _ rfl
                have z0 := frz9 HQ8.out 0
                have z1 := frz9 HQ8.out 1
                have z2 := frz9 HQ8.out 2
                have hne2 : w.heap.size ≠ R := by omega
                have hMS : M ≠ w.heap.size := by omega
                clear HQ8 HV8
                go_wp2
                refine bodyPost_ret (by simp [results, Tryz.results176, go_sem, *]; try rfl) rfl ?_
                rw [HP7.out]
                refine ⟨_, rfl, ⟨rfl, HSZ.out, ?_⟩, ?_, ?_⟩
                · exact HN8.out.old ((Below.heap_setCell _ _ _ _ (by exact hMS)).trans ((Below.heap_setCell _ _ _ _ (by exact hMS)).trans (Below.heap_setCell _ _ _ _ (by exact hMS))))
                · exact ((HR8.out.set (p := ⟨w.heap.size, 0, none⟩) hne2 hNw _).set (p := ⟨w.heap.size, 1, none⟩) hne2 hNw _).set (p := ⟨w.heap.size, 2, none⟩) hne2 hNw _
                · exact ((HF8.out.setNew (p := ⟨w.heap.size, 0, none⟩) (Nat.le_refl _) _).setNew (p := ⟨w.heap.size, 1, none⟩) (Nat.le_refl _) _).setNew (p := ⟨w.heap.size, 2, none⟩) (Nat.le_refl _) _
end Go.Proofs.YtdjbejlbmaiocagGreatDoor
/-
  A constraint that is being read, in memory.
-/
namespace Go.Proofs.YtdjbejlbmaiocagGreatDoor
open Go.RowKit

theorem LSr.set {B base : Nat} {t : TypeId} {w : World} {v : Value} {acc : List (List Int)} (h : LSr B base w v acc) {C : Nat} {cs : Array Value} (hC : w.heap[C]? = some (.cells cs t)) (ht : t ≠ 3) (ht2 : t ≠ 26) (i : Nat) (u : Value) : LSr B base (w.setCell ⟨C, i, Option.none⟩ u) v acc := by
  obtain ⟨cells, h1, h2⟩ := h
  refine ⟨cells, own_set h1 hC ht2 i u, fun j r hr => ?_⟩
  obtain ⟨x, hx, ho⟩ := h2 j r hr
  exact ⟨x, hx, own_set ho hC ht i u⟩
theorem LSr.mono {B base base' : Nat} {w : World} {v : Value} {acc : List (List Int)} (h : LSr B base w v acc) (hb : base' ≤ base) : LSr B base' w v acc := by
  obtain ⟨cells, h1, h2⟩ := h
  exact ⟨cells, own_mono9 h1 hb, h2⟩
/-- The lists of a constraint, made above a block. -/
def ConR (B : Nat) (w : World) (vv vc vr vl : Value) (c : MCon) : Prop :=
  w.ownsRow B 3 1 vv c.vars.length (c.vars.map (Value.int .i64)) ∧ w.ownsRow B 3 1 vc c.consts.length (c.consts.map (Value.int .i64)) ∧ LSr B B w vr c.rows ∧ w.ownsRow B 88 3 vl c.lits.length (c.lits.flatMap litC)
theorem ConR.set {B : Nat} {w : World} {vv vc vr vl : Value} {c : MCon} (h : ConR B w vv vc vr vl c) {C : Nat} {cs : Array Value} (hC : w.heap[C]? = some (.cells cs 73)) (i : Nat) (u : Value) : ConR B (w.setCell ⟨C, i, Option.none⟩ u) vv vc vr vl c :=
  ⟨own_set h.1 hC (by decide) i u, own_set h.2.1 hC (by decide) i u, h.2.2.1.set hC (by decide) (by decide) i u, own_set h.2.2.2 hC (by decide) i u⟩
theorem ConR.fr {X : Nat → Prop} {B : Nat} {w w' : World} {vv vc vr vl : Value} {c : MCon} (h : ConR B w vv vc vr vl c) (hf : Fr X w w') (hX : ∀ k, X k → k < B) : ConR B w' vv vc vr vl c :=
  ⟨own_fr h.1 hf hX, own_fr h.2.1 hf hX, h.2.2.1.fr hf hX hX, own_fr h.2.2.2 hf hX⟩
theorem ConR.mono {B B' : Nat} {w : World} {vv vc vr vl : Value} {c : MCon} (h : ConR B w vv vc vr vl c) (hb : B' ≤ B) : ConR B' w vv vc vr vl c := by
  obtain ⟨h1, h2, ⟨cells, h3, h4⟩, h5⟩ := h
  refine ⟨own_mono9 h1 hb, own_mono9 h2 hb, ⟨cells, own_mono9 h3 hb, fun i r hr => ?_⟩, own_mono9 h5 hb⟩
  obtain ⟨x, hx, ho⟩ := h4 i r hr
  exact ⟨x, hx, own_mono9 ho hb⟩
theorem ConR.none (B : Nat) (w : World) (k : Int) : ConR B w (.slice Option.none 0 0) (.slice Option.none 0 0) (.slice Option.none 0 0) (.slice Option.none 0 0) ⟨k, [], [], 0, [], []⟩ :=
  ⟨World.ownsRow_nil _ _ _ _, World.ownsRow_nil _ _ _ _, LSr.none _ _ _, World.ownsRow_nil _ _ _ _⟩
/-- What is so while a constraint is read. -/
structure ConS (N R M : Nat) (en : Int) (names : List ByteArray) (w0 : World) (C : Nat) (w : World) (q : List Tok) (vv vc vr vl : Value) (c : MCon) : Prop where
  rd : Rd N R M en w q
  fr : Fr (fun k => k = R) w0 w
  nm : NmS w M names
  res : w.heap[w0.heap.size]? = some (.cells #[.int .i64 0, .slice none 0 0, .slice none 0 0, .int .i64 0, .slice none 0 0, .slice none 0 0] 73)
  con : w.heap[C]? = some (.cells #[.int .i64 c.kind, vv, vc, .int .i64 c.n, vr, vl] 73)
  lt : w0.heap.size < C
  Rw : R < w0.heap.size
  Nw : N ≤ w0.heap.size
  Mw : M < w0.heap.size
  own : ConR w0.heap.size w vv vc vr vl c
section
variable {N R M : Nat} {en : Int} {names : List ByteArray} {w0 : World} {C : Nat} {w w' : World} {q q' : List Tok} {vv vc vr vl : Value} {c : MCon}
theorem ConS.call (h : ConS N R M en names w0 C w q vv vc vr vl c) (hf : Fr (fun k => k = R) w w') (hrd : Rd N R M en w' q') : ConS N R M en names w0 C w' q' vv vc vr vl c where
  rd := hrd
  fr := h.fr.trans hf
  nm := h.nm.old (hf.block M h.nm.lt hrd.1.2.2)
  res := (hf.block _ (Array.getElem?_eq_some_iff.1 h.res).1 (by have := h.Rw; omega)).trans h.res
  con := (hf.block _ (Array.getElem?_eq_some_iff.1 h.con).1 (by have := h.Rw; have := h.lt; omega)).trans h.con
  lt := h.lt
  Rw := h.Rw
  Nw := h.Nw
  Mw := h.Mw
  own := h.own.fr hf (fun k hk => by subst hk; exact h.Rw)
theorem ConS.below (h : ConS N R M en names w0 C w q vv vc vr vl c) (hb : Below w.heap.size w w') : ConS N R M en names w0 C w' q vv vc vr vl c := h.call (Fr.below hb) (h.rd.below hb)
theorem ConS.base (h : ConS N R M en names w0 C w q vv vc vr vl c) : w0.heap.size ≤ w.heap.size := h.fr.size
theorem ConS.put (h : ConS N R M en names w0 C w q vv vc vr vl c) (i : Nat) (u : Value) (vv' vc' vr' vl' : Value) (c' : MCon) (hcs : (#[.int .i64 c.kind, vv, vc, .int .i64 c.n, vr, vl] : Array Value).setIfInBounds i u = #[.int .i64 c'.kind, vv', vc', .int .i64 c'.n, vr', vl'])
    (ho : ConR w0.heap.size w vv' vc' vr' vl' c') : ConS N R M en names w0 C (w.setCell ⟨C, i, none⟩ u) q vv' vc' vr' vl' c' where
  rd := h.rd.set (p := ⟨C, i, none⟩) (by have := h.Rw; have := h.lt; show C ≠ R; omega) (by have := h.Nw; have := h.lt; show N ≤ C; omega) u
  fr := h.fr.setNew (p := ⟨C, i, none⟩) (Nat.le_of_lt h.lt) u
  nm := h.nm.old (Below.heap_setCell _ _ _ _ (by have := h.Mw; have := h.lt; show M ≠ C; omega))
  res := (Below.heap_setCell _ _ _ _ (by have := h.lt; show w0.heap.size ≠ C; omega)).trans h.res
  con := by rw [heap_setCell_same w C i _ _ _ h.con, hcs]
  lt := h.lt
  Rw := h.Rw
  Nw := h.Nw
  Mw := h.Mw
  own := ho.set h.con i u
theorem ConS.vars (h : ConS N R M en names w0 C w q vv vc vr vl c) {v : Value} {xs : List Int} (ho : w.ownsRow w0.heap.size 3 1 v xs.length (xs.map (Value.int .i64))) : ConS N R M en names w0 C (w.setCell ⟨C, 1, none⟩ v) q v vc vr vl { c with vars := xs } :=
  h.put 1 v v vc vr vl { c with vars := xs } rfl ⟨ho, h.own.2.1, h.own.2.2.1, h.own.2.2.2⟩
theorem ConS.consts (h : ConS N R M en names w0 C w q vv vc vr vl c) {v : Value} {xs : List Int} (ho : w.ownsRow w0.heap.size 3 1 v xs.length (xs.map (Value.int .i64))) : ConS N R M en names w0 C (w.setCell ⟨C, 2, none⟩ v) q vv v vr vl { c with consts := xs } :=
  h.put 2 v vv v vr vl { c with consts := xs } rfl ⟨h.own.1, ho, h.own.2.2.1, h.own.2.2.2⟩
theorem ConS.n (h : ConS N R M en names w0 C w q vv vc vr vl c) (n : Int) : ConS N R M en names w0 C (w.setCell ⟨C, 3, none⟩ (.int .i64 n)) q vv vc vr vl { c with n := n } :=
  h.put 3 _ vv vc vr vl { c with n := n } rfl h.own
theorem ConS.rows (h : ConS N R M en names w0 C w q vv vc vr vl c) {v : Value} {xs : List (List Int)} (ho : LSr w0.heap.size w0.heap.size w v xs) : ConS N R M en names w0 C (w.setCell ⟨C, 4, none⟩ v) q vv vc v vl { c with rows := xs } :=
  h.put 4 v vv vc v vl { c with rows := xs } rfl ⟨h.own.1, h.own.2.1, ho, h.own.2.2.2⟩
theorem ConS.lits (h : ConS N R M en names w0 C w q vv vc vr vl c) {v : Value} {xs : List MLit} (ho : w.ownsRow w0.heap.size 88 3 v xs.length (xs.flatMap litC)) : ConS N R M en names w0 C (w.setCell ⟨C, 5, none⟩ v) q vv vc vr v { c with lits := xs } :=
  h.put 5 v vv vc vr v { c with lits := xs } rfl ⟨h.own.1, h.own.2.1, h.own.2.2.1, ho⟩
theorem ConS.varsLit (h : ConS N R M en names w0 C w q vv vc vr vl c) (xs : List Int) (hx : xs.length ≤ 100) : ConS N R M en names w0 C ((w.setCell ⟨C, 1, none⟩ (.slice (some ⟨w.heap.size, 0, none⟩) xs.length xs.length)).alloc (.cells (xs.map (Value.int .i64)).toArray 3)) q (.slice (some ⟨w.heap.size, 0, none⟩) xs.length xs.length) vc vr vl { c with vars := xs } := by
  rw [← World.setCell_alloc_past _ _ _ _ (Array.getElem?_eq_some_iff.1 h.con).1]
  refine (h.below (below_alloc _ _)).vars ?_
  have := World.ownsRow_lit (e := 3) (size := 1) w (xs.map (Value.int .i64)).toArray xs.length h.base (by unfold maxLen; omega) (by simp)
  simpa using this
theorem ConS.litLit (h : ConS N R M en names w0 C w q vv vc vr vl c) (x : MLit) : ConS N R M en names w0 C ((w.setCell ⟨C, 5, none⟩ (.slice (some ⟨w.heap.size, 0, none⟩) 1 1)).alloc (.cells #[.int .i64 x.var, .int .i64 x.op, .int .i64 x.n] 88)) q vv vc vr (.slice (some ⟨w.heap.size, 0, none⟩) 1 1) { c with lits := [x] } := by
  rw [← World.setCell_alloc_past _ _ _ _ (Array.getElem?_eq_some_iff.1 h.con).1]
  refine (h.below (below_alloc _ _)).lits (xs := [x]) ?_
  exact World.ownsRow_lit (e := 88) (size := 3) w #[.int .i64 x.var, .int .i64 x.op, .int .i64 x.n] 1 h.base (by unfold maxLen; omega) (by simp)
theorem blk_put {w : World} {D : Nat} {t : TypeId} (h : ∃ cs, w.heap[D]? = some (.cells cs t)) (i : Nat) (u : Value) : ∃ cs, (w.setCell ⟨D, i, none⟩ u).heap[D]? = some (.cells cs t) := by
  obtain ⟨cs, h⟩ := h
  exact ⟨_, heap_setCell_same w D i _ _ _ h⟩
/-- Reader, frame and lists, once the result has been written. -/
theorem ConS.endd (h : ConS N R M en names w0 C w q vv vc vr vl c) (u0 u1 u2 u3 u4 u5 : Value) (W : World)
    (hW : W = (((((w.setCell ⟨w0.heap.size, 0, none⟩ u0).setCell ⟨w0.heap.size, 1, none⟩ u1).setCell ⟨w0.heap.size, 2, none⟩ u2).setCell ⟨w0.heap.size, 3, none⟩ u3).setCell ⟨w0.heap.size, 4, none⟩ u4).setCell ⟨w0.heap.size, 5, none⟩ u5) :
    ConR w0.heap.size W vv vc vr vl c ∧ Rd N R M en W q ∧ Fr (fun k => k = R) w0 W := by
  subst hW
  have hne : w0.heap.size ≠ R := by have := h.Rw; omega
  have k0 : ∃ cs, w.heap[w0.heap.size]? = some (.cells cs 73) := ⟨_, h.res⟩
  have k1 := blk_put k0 0 u0
  have k2 := blk_put k1 1 u1
  have k3 := blk_put k2 2 u2
  have k4 := blk_put k3 3 u3
  have k5 := blk_put k4 4 u4
  refine ⟨?_, ?_, ?_⟩
  · exact (((((h.own.set k0.choose_spec 0 u0).set k1.choose_spec 1 u1).set k2.choose_spec 2 u2).set k3.choose_spec 3 u3).set k4.choose_spec 4 u4).set k5.choose_spec 5 u5
  · exact (((((h.rd.set (p := ⟨w0.heap.size, 0, none⟩) hne h.Nw _).set (p := ⟨w0.heap.size, 1, none⟩) hne h.Nw _).set (p := ⟨w0.heap.size, 2, none⟩) hne h.Nw _).set (p := ⟨w0.heap.size, 3, none⟩) hne h.Nw _).set (p := ⟨w0.heap.size, 4, none⟩) hne h.Nw _).set (p := ⟨w0.heap.size, 5, none⟩) hne h.Nw _
  · exact (((((h.fr.setNew (p := ⟨w0.heap.size, 0, none⟩) (Nat.le_refl _) _).setNew (p := ⟨w0.heap.size, 1, none⟩) (Nat.le_refl _) _).setNew (p := ⟨w0.heap.size, 2, none⟩) (Nat.le_refl _) _).setNew (p := ⟨w0.heap.size, 3, none⟩) (Nat.le_refl _) _).setNew (p := ⟨w0.heap.size, 4, none⟩) (Nat.le_refl _) _).setNew (p := ⟨w0.heap.size, 5, none⟩) (Nat.le_refl _) _
end
end Go.Proofs.YtdjbejlbmaiocagGreatDoor
