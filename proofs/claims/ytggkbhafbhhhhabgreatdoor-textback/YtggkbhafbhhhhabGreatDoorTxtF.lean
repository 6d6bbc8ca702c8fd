/-
  MEMORY: lists that are new, above a block, stay while the reader goes on. WALK: package text: readList of numbers.
-/
import Derived.Test.YtggkbhafbhhhhabGreatDoorTxtD
import Derived.Test.YtggkbhafbhhhhabGreatDoorTxtE
import Derived.Laws.OwnMore
namespace Go.Proofs.YtggkbhafbhhhhabGreatDoor
open Go.RowKit

theorem own_fr {X : Nat → Prop} {w w' : World} {base : Nat} {e : TypeId} {size n : Nat} {v : Value} {xs : List Value} (h : w.ownsRow base e size v n xs) (hf : Fr X w w') (hX : ∀ k, X k → k < base) : w'.ownsRow base e size v n xs := by
  refine ⟨h.1, ?_⟩
  rcases h.2 with hn | ⟨g, cap, cur, hv, hg, hh, r⟩
  · exact .inl hn
  · exact .inr ⟨g, cap, cur, hv, hg, by rw [hf.block g (Array.getElem?_eq_some_iff.1 hh).1 (fun hx => by have := hX g hx; omega)]; exact hh, r⟩
theorem Fr.weak {X Y : Nat → Prop} {w w' : World} (h : Fr X w w') (hXY : ∀ k, X k → Y k) : Fr Y w w' := ⟨h.os, h.tape, h.output, h.size, fun k hk hx => h.block k hk fun hX => hx (hXY k hX)⟩
theorem Fr.grown {X : Nat → Prop} {a w w' : World} {row : Option Nat} (h : Fr X a w) (hg : w.grownBy w' row) (hr : ∀ k, row = some k → X k ∨ a.heap.size ≤ k) : Fr X a w' :=
  ⟨hg.os.trans h.os, hg.tape.trans h.tape, hg.output.trans h.output, Nat.le_trans h.size hg.size, fun k hk hx => (hg.block k (Nat.lt_of_lt_of_le hk h.size) (fun e => (hr k e.symm).elim hx (fun h2 => by omega))).trans (h.block k hk hx)⟩
theorem Rd.grown {N R M : Nat} {en : Int} {w w' : World} {l : List Tok} {row : Option Nat} (h : Rd N R M en w l) (hg : w.grownBy w' row) (hr : ∀ k, row = some k → k ≠ R ∧ N ≤ k) : Rd N R M en w' l := by
  obtain ⟨⟨h1, h2, h3⟩, v, hR, ht⟩ := h
  have hRl : R < w.heap.size := (Array.getElem?_eq_some_iff.1 hR).1
  refine ⟨⟨h1, Nat.le_trans h2 hg.size, h3⟩, v, (hg.block R hRl (fun e => (hr R e.symm).1 rfl)).trans hR, ht.old fun q hq => World.cell?_of_block (hg.block _ (by omega) (fun e => by have := (hr _ e.symm).2; omega))⟩
theorem solid_open : solid ⟨#[91]⟩ := by unfold solid; simp [go_sem]
theorem solid_close : solid ⟨#[93]⟩ := by unfold solid; simp [go_sem]
theorem solid_comma : solid ⟨#[44]⟩ := by unfold solid; simp [go_sem]
/-- How many tokens a reader has. -/
def leftT (R : Nat) (w : World) : Nat := match w.cell? ⟨R, 0, none⟩ with
  | some (.slice _ n _) => n
  | _ => 0
theorem leftT_rd {N R M : Nat} {en : Int} {w : World} {l : List Tok} (h : Rd N R M en w l) : leftT R w = l.length := by
  obtain ⟨_, v, hR, a, c, rfl, _⟩ := h
  unfold leftT
  rw [Lib.cell_of_heap hR]
  rfl
/-- A thing that is read, by a bound method; what must be of the world besides stays. -/
def Item {α : Type} (B N R M : Nat) (en : Int) (F : Nat) (item : List Tok → PR α) (G : α → Value → World → Prop) (I : World → Prop) : Prop :=
  (∀ (args : Array Value) (w' : World), Sem.run Tryz.prog (callFunc F args) w' = .ok (.enter F args) w') ∧ (∀ w w', I w → Fr (fun k => k = R ∨ B ≤ k) w w' → I w') ∧
  ∀ (w : World) (l : List Tok), Rd N R M en w l → I w → Calls Tryz.prog F #[.pointer (some ⟨R, 0, none⟩)] w (PostR (item l) G N R M en (fun k => k = R) w)
theorem Tryz.infoInt5 : (Tryz.prog.info? 3).map (fun i => (i.zero, i.size, i.bytes)) = some (some (.int .i64 0), 1, 8) := by kernel_rfl
theorem Tryz.underInts5 : Tryz.prog.underlying 50 = some (.slice 3) := by kernel_rfl
theorem PR_bad_bind {α β : Type} {p : PR α} {f : α → List Tok → PR β} {x e : Int} (h : p = .bad x e) : p.bind f = .bad x e := by rw [h]; rfl
theorem PR_ok_bind {α β : Type} {p : PR α} {f : α → List Tok → PR β} {a : α} {r : List Tok} (h : p = .ok a r) : p.bind f = f a r := by rw [h]; rfl
theorem skip_len {en : Int} {s : ByteArray} (hs : solid s) {l r : List Tok} {t : Tok} (h : skipP en s l = .ok t r) : r.length + 1 = l.length := by
  have h1 := pass_eats en l _ t r h
  unfold skipP passP at h
  split at h
  · rename_i hb
    have := head_some en l s hs hb
    rw [h1]
    cases l with
    | nil => exact absurd rfl this
    | cons a l => simp
  · cases h

theorem one_laid5 (w : World) (z : Int) : ∀ (j : Nat) (u : Value), [Value.int .i64 z][j]? = some u → (w.alloc (.cells #[.int .i64 z] 3)).cell? ((⟨w.heap.size, 0, none⟩ : Addr).add j) = some u := by
  intro j u hj
  match j, hj with
  | 0, hj => simp at hj; subst hj; simp [Addr.add]
set_option maxHeartbeats 3200000 in
set_option maxRecDepth 100000 in
theorem readints_any (N R M : Nat) (en : Int) (F : Nat) (item : List Tok → PR Int) (I : World → Prop) (hE : Eats item) (B : Nat) (hI : Item B N R M en F item (fun i v _ => v = .int .i64 i) I) (w : World) (hBw : B ≤ w.heap.size) (l : List Tok) (h : Rd N R M en w l) (hi0 : I w) (hl : l.length ≤ 4000) :
    Calls Tryz.prog 118 #[.pointer (some ⟨R, 0, none⟩), .func (.func F) #[.pointer (some ⟨R, 0, none⟩)] #[]] w
      (PostR (readP en item l) (fun xs v w' => w'.ownsRow w.heap.size 3 1 v xs.length (xs.map (Value.int .i64)) ∧ I w') N R M en (fun k => k = R) w) := by
  have HB : Hid (Rd N R M en w l) := h
  have HI0 : Hid (I w) := hi0
  have HIT : Hid (Item B N R M en F item (fun i v _ => v = .int .i64 i) I) := hI
  have HE : Hid (Eats item) := hE
  have hRw : R < w.heap.size := by obtain ⟨_, _, hR, _⟩ := h; exact (Array.getElem?_eq_some_iff.1 hR).1
  have HX : Hid (∀ k, (fun k => k = R) k → k < w.heap.size) := fun k hk => by subst hk; exact hRw
  obtain ⟨i0, hi, hz0, hz1, hz2⟩ := info_parts Tryz.infoInt5
  obtain ⟨P, hP⟩ : ∃ P, readP en item l = P := ⟨_, rfl⟩
  have HP : Hid (readP en item l = P) := hP
  rw [hP]
  clear hP h hi0 hI hE
  go_enter Tryz.func118, Tryz.ntmps118
  go_wp2_with fail
  refine (rskip_any N R M en ⟨#[91]⟩ solid_open w l HB.out).mono ?_
  intro e w1 hp
  cases hs : skipP en ⟨#[91]⟩ l with
  | bad x er =>
    rw [hs] at hp
    obtain ⟨rfl, hfr⟩ := hp
    have HPB : Hid (P = .bad x er) := by show _ = _; rw [← HP.out]; unfold readP; rw [hs]; rfl
    clear hs
    go_wp2
    exact ⟨rfl, by rw [HPB.out]; exact ⟨rfl, hfr⟩⟩
  | ok t q =>
    rw [hs] at hp
    obtain ⟨v, rfl, rfl, hrd, hfr⟩ := hp
    have HRD : Hid (Rd N R M en w1 q) := hrd
    have HFR : Hid (Fr (fun k => k = R) w w1) := hfr
    have hql : q.length + 1 = l.length := skip_len solid_open hs
    have HQL : Hid (q.length + 1 = l.length) := hql
    have HP1 : Hid (P = if (headT en q).text.toList == [93] then (skipP en ⟨#[93]⟩ q).bind fun _ l => .ok [] l else (item q).bind fun x l => moreP en item (l.length + 1) [x] l) := by
      show _ = _; rw [← HP.out]; unfold readP; rw [hs]; rfl
    have hf2 := tokF2 (headT en q)
    clear hs hrd hfr HP hql
    go_wp2_with fail
    refine (ahead_any N R M en _ q HRD.out).mono ?_
    rintro e w2 ⟨rfl, hb2⟩
    have HR2 : Hid (Rd N R M en w2 q) := HRD.out.below hb2
    have HF2 : Hid (Fr (fun k => k = R) w w2) := HFR.out.trans (Fr.below hb2)
    unfold tokA
    clear hb2
    cases hq : ((headT en q).text.toList == [93])
    · have HP2 : Hid (P = (item q).bind fun x l => moreP en item (l.length + 1) [x] l) := by show _ = _; rw [HP1.out, hq]; rfl
      have HI2 : Hid (I w2) := HIT.out.2.1 _ _ HI0.out (HF2.out.weak fun k hk => Or.inl hk)
      clear HP1
      go_wp2_with fail
      rw [HIT.out.1, Oper.upon_enter]
      refine (HIT.out.2.2 w2 q HR2.out HI2.out).mono ?_
      intro e w3 hp
      cases hit : item q with
      | bad x er =>
        rw [hit] at hp
        obtain ⟨rfl, hfr⟩ := hp
        have hfr2 := HF2.out.trans hfr
        have HPB : Hid (P = .bad x er) := by show _ = _; rw [HP2.out, hit]; rfl
        clear hit hq hfr
        go_wp2
        exact ⟨rfl, by rw [HPB.out]; exact ⟨rfl, hfr2⟩⟩
      | ok x r =>
        rw [hit] at hp
        obtain ⟨v, rfl, rfl, hrd, hfr⟩ := hp
        have HR3 : Hid (Rd N R M en w3 r) := hrd
        have HF3 : Hid (Fr (fun k => k = R) w w3) := HF2.out.trans hfr
        have HI3 : Hid (I w3) := HIT.out.2.1 _ _ HI2.out (hfr.weak fun k hk => Or.inl hk)
        have HRL : Hid (r.length ≤ q.length) := HE.out q x r hit
        have HP3 : Hid (P = moreP en item (r.length + 1) [x] r) := by show _ = _; rw [HP2.out, hit]; rfl
        have hsz3 : w.heap.size ≤ w3.heap.size := HF3.out.size
        clear hit hrd hfr hq hf2 HP2
        go_wp2_with (at_builtin; refine wpList_append_own _ rfl _ _ 50 rfl w.heap.size 3 i0 (.int .i64 0) 1 8 Tryz.underInts5 hi hz0 hz1 hz2 rfl (by decide) _ _ _ rfl (World.ownsRow_nil _ _ _ _) ⟨w3.heap.size, 0, none⟩ 1 1 [.int .i64 x] rfl rfl ?c1 ?c2 ?c3 ?c4 ?c5 ?_)
        case c1 => exact one_laid5 w3 x
        case c2 => intro u hu; rcases List.mem_singleton.1 hu with rfl; rfl
        case c3 => unfold maxLen; omega
        case c4 => omega
        case c5 => simp; omega
        intro v5 w5 hown5 hg5 _
        have HR5 : Hid (Rd N R M en w5 r) := (HR3.out.below (below_alloc _ _)).grown hg5 (fun k hk => by cases hk)
        have HF5 : Hid (Fr (fun k => k = R) w w5) := (HF3.out.alloc _).grown hg5 (fun k hk => by cases hk)
        have HI5 : Hid (I w5) := HIT.out.2.1 _ _ HI3.out (((Fr.refl _ _).alloc _).grown hg5 (fun k hk => by cases hk))
        have HO5 : Hid (w5.ownsRow w.heap.size 3 1 v5 [x].length ([x].map (Value.int .i64))) := hown5
        clear hown5 hg5
        go_wp2_with fail
        go_loopw [5] (fun v wr => ∃ (f : Nat) (acc : List Int) (q : List Tok), Hid (P = moreP en item f acc q) ∧ Hid (Rd N R M en wr q) ∧ Hid (I wr) ∧ Hid (wr.ownsRow w.heap.size 3 1 v acc.length (acc.map (Value.int .i64))) ∧ Hid (Fr (fun k => k = R) w wr) ∧ q.length + 1 ≤ f ∧ acc.length + q.length ≤ 4000) (fun _ wr => leftT R wr)
        case atStart => exact ⟨_, [x], r, HP3, HR5, HI5, HO5, HF5, by omega, by have := HRL.out; have := HQL.out; simp; omega⟩
        case round =>
          obtain ⟨f, acc, q, HPM, HRM, HIM, HOM, HFM, hf, hlen⟩ := hrel
          obtain ⟨g, rfl⟩ : ∃ g, f = g + 1 := ⟨f - 1, by omega⟩
          have hf2 := tokF2 (headT en q)
          obtain ⟨av, cv, hv⟩ := own_form HOM.out
          subst hv
          have HCM : Hid ((⟨#[44]⟩ : ByteArray).toList = [44]) := by show _ = _; simp [go_sem]
          cases hc : ((headT en q).text.toList == [44])
          · have HPE : Hid (P = (skipP en ⟨#[93]⟩ q).bind fun _ l => .ok acc l) := by show _ = _; rw [HPM.out]; unfold moreP; rw [hc]; rfl
            go_wp2_with fail
            refine (ahead_any N R M en _ q HRM.out).mono ?_
            rintro e w6 ⟨rfl, hb6⟩
            have HR6 : Hid (Rd N R M en w6 q) := HRM.out.below hb6
            have HF6 : Hid (Fr (fun k => k = R) w w6) := HFM.out.trans (Fr.below hb6)
            have HI6 : Hid (I w6) := HIT.out.2.1 _ _ HIM.out (Fr.below hb6)
            have HO6 : Hid (w6.ownsRow w.heap.size 3 1 (.slice av acc.length cv) acc.length (acc.map (Value.int .i64))) := own_below HOM.out hb6
            unfold tokA
            clear hb6
            go_wp2_with fail
            refine (rskip_any N R M en ⟨#[93]⟩ solid_close w6 q HR6.out).mono ?_
            intro e w7 hp
            cases hs : skipP en ⟨#[93]⟩ q with
            | bad x er =>
              rw [hs] at hp
              obtain ⟨rfl, hfr⟩ := hp
              have hfr2 := HF6.out.trans hfr
              have HPB : Hid (P = .bad x er) := by show _ = _; rw [HPE.out, hs]; rfl
              clear hs hc hfr
              go_wp2
              exact ⟨rfl, by rw [HPB.out]; exact ⟨rfl, hfr2⟩⟩
            | ok t q2 =>
              rw [hs] at hp
              obtain ⟨v, rfl, rfl, hrd, hfr⟩ := hp
              have hfr2 := HF6.out.trans hfr
              have HI7 : Hid (I w7) := HIT.out.2.1 _ _ HI6.out (hfr.weak fun k hk => Or.inl hk)
              have HO7 : Hid (w7.ownsRow w.heap.size 3 1 (.slice av acc.length cv) acc.length (acc.map (Value.int .i64))) := own_fr HO6.out hfr HX.out
              have HPB : Hid (P = .ok acc q2) := by show _ = _; rw [HPE.out, hs]; rfl
              clear hs hc hfr
              go_wp2
              go_ret
              rw [HPB.out]
              exact ⟨_, rfl, ⟨HO7.out, HI7.out⟩, hrd, hfr2⟩
          · have hne := head_some en q ⟨#[44]⟩ solid_comma (by rw [HCM.out]; exact hc)
            have HSK : Hid (skipP en ⟨#[44]⟩ q = .ok (headT en q) q.tail) := by show _ = _; unfold skipP passP; rw [HCM.out, hc]; rfl
            obtain ⟨q2, hq2⟩ : ∃ q2, q.tail = q2 := ⟨_, rfl⟩
            have HQ2 : Hid (q.tail = q2) := hq2
            have hql2 : q2.length + 1 = q.length := by
              rw [← hq2]
              cases q with
              | nil => exact absurd rfl hne
              | cons a q => simp
            have HPE : Hid (P = (item q2).bind fun x l => moreP en item g (acc ++ [x]) l) := by show _ = _; rw [HPM.out, moreP, hc, if_pos rfl, HSK.out, ← hq2]; rfl
            clear hne hq2
            go_wp2_with fail
            refine (ahead_any N R M en _ q HRM.out).mono ?_
            rintro e w6 ⟨rfl, hb6⟩
            have HR6 : Hid (Rd N R M en w6 q) := HRM.out.below hb6
            have HF6 : Hid (Fr (fun k => k = R) w w6) := HFM.out.trans (Fr.below hb6)
            have HI6 : Hid (I w6) := HIT.out.2.1 _ _ HIM.out (Fr.below hb6)
            have HO6 : Hid (w6.ownsRow w.heap.size 3 1 (.slice av acc.length cv) acc.length (acc.map (Value.int .i64))) := own_below HOM.out hb6
            unfold tokA
            clear hb6
            go_wp2_with fail
            refine (rskip_any N R M en ⟨#[44]⟩ solid_comma w6 q HR6.out).mono ?_
            intro e w7 hp
            rw [HSK.out] at hp
            obtain ⟨v, rfl, rfl, hrd, hfr⟩ := hp
            have HR7 : Hid (Rd N R M en w7 q2) := by rw [← HQ2.out]; exact hrd
            have HF7 : Hid (Fr (fun k => k = R) w w7) := HF6.out.trans hfr
            have HI7 : Hid (I w7) := HIT.out.2.1 _ _ HI6.out (hfr.weak fun k hk => Or.inl hk)
            have HO7 : Hid (w7.ownsRow w.heap.size 3 1 (.slice av acc.length cv) acc.length (acc.map (Value.int .i64))) := own_fr HO6.out hfr HX.out
            clear hrd hfr hc hf2
            go_wp2_with fail
            rw [HIT.out.1, Oper.upon_enter]
            refine (HIT.out.2.2 w7 q2 HR7.out HI7.out).mono ?_
            intro e w8 hp
            cases hit : item q2 with
            | bad x er =>
              rw [hit] at hp
              obtain ⟨rfl, hfr⟩ := hp
              have hfr2 := HF7.out.trans hfr
              have HPB : Hid (P = .bad x er) := by show _ = _; rw [HPE.out, hit]; rfl
              clear hit hfr
              go_wp2
              exact ⟨rfl, by rw [HPB.out]; exact ⟨rfl, hfr2⟩⟩
            | ok x r =>
              rw [hit] at hp
              obtain ⟨v, rfl, rfl, hrd, hfr⟩ := hp
              have HR8 : Hid (Rd N R M en w8 r) := hrd
              have HF8 : Hid (Fr (fun k => k = R) w w8) := HF7.out.trans hfr
              have HI8 : Hid (I w8) := HIT.out.2.1 _ _ HI7.out (hfr.weak fun k hk => Or.inl hk)
              have HO8 : Hid (w8.ownsRow w.heap.size 3 1 (.slice av acc.length cv) acc.length (acc.map (Value.int .i64))) := own_fr HO7.out hfr HX.out
              have hrl : r.length ≤ q2.length := HE.out q2 x r hit
              have HPN : Hid (P = moreP en item g (acc ++ [x]) r) := by show _ = _; rw [HPE.out, hit]; rfl
              have hsz8 : w.heap.size ≤ w8.heap.size := HF8.out.size
              have hox := HO8.out.alloc (.cells #[.int .i64 x] 3)
              clear hit hrd hfr
              go_wp2_with (at_builtin; refine wpList_append_own _ rfl _ _ 50 rfl w.heap.size 3 i0 (.int .i64 0) 1 8 Tryz.underInts5 hi hz0 hz1 hz2 rfl (by decide) _ _ _ rfl hox ⟨w8.heap.size, 0, none⟩ 1 1 [.int .i64 x] rfl rfl ?c1 ?c2 ?c3 ?c4 ?c5 ?_)
              case c1 => exact one_laid5 w8 x
              case c2 => intro u hu; rcases List.mem_singleton.1 hu with rfl; rfl
              case c3 => unfold maxLen; omega
              case c4 => omega
              case c5 => simp; omega
              intro v9 w9 hown9 hg9 _
              have hrow : ∀ k, (Value.slice av acc.length cv).ownBlock = some k → w.heap.size ≤ k := fun k hk => (HO8.out.lt k hk).1
              have HR9 : Hid (Rd N R M en w9 r) := (HR8.out.below (below_alloc _ _)).grown hg9 (fun k hk => ⟨by have := hrow k hk; omega, by have := hrow k hk; have := HB.out.1.2.1; omega⟩)
              have HF9 : Hid (Fr (fun k => k = R) w w9) := (HF8.out.alloc _).grown hg9 (fun k hk => Or.inr (hrow k hk))
              have HI9 : Hid (I w9) := HIT.out.2.1 _ _ HI8.out (((Fr.refl _ _).alloc _).grown hg9 (fun k hk => Or.inl (Or.inr (by have := hrow k hk; omega))))
              have HO9 : Hid (w9.ownsRow w.heap.size 3 1 v9 (acc ++ [x]).length ((acc ++ [x]).map (Value.int .i64))) := by
                rw [List.length_append, List.map_append]; exact hown9
              have HM9 : Hid (leftT R w9 < leftT R wr) := by show _ < _; rw [leftT_rd HR9.out, leftT_rd HRM.out]; omega
              clear hown9 hg9 hrow hox
              go_wp2
              go_roundw
              case rel => exact ⟨g, acc ++ [x], r, HPN, HR9, HI9, HO9, HF9, by omega, by simp; omega⟩
              case measure => exact HM9.out
    · have HP2 : Hid (P = (skipP en ⟨#[93]⟩ q).bind fun _ l => .ok [] l) := by show _ = _; rw [HP1.out, hq]; rfl
      have HI2 : Hid (I w2) := HIT.out.2.1 _ _ HI0.out (HF2.out.weak fun k hk => Or.inl hk)
      clear HP1
      go_wp2_with fail
      refine (rskip_any N R M en ⟨#[93]⟩ solid_close w2 q HR2.out).mono ?_
      intro e w7 hp
      cases hs : skipP en ⟨#[93]⟩ q with
      | bad x er =>
        rw [hs] at hp
        obtain ⟨rfl, hfr⟩ := hp
        have hfr2 := HF2.out.trans hfr
        have HPB : Hid (P = .bad x er) := by show _ = _; rw [HP2.out, hs]; rfl
        clear hs hq hfr
        go_wp2
        exact ⟨rfl, by rw [HPB.out]; exact ⟨rfl, hfr2⟩⟩
      | ok t q2 =>
        rw [hs] at hp
        obtain ⟨v, rfl, rfl, hrd, hfr⟩ := hp
        have hfr2 := HF2.out.trans hfr
        have HI7 : Hid (I w7) := HIT.out.2.1 _ _ HI2.out (hfr.weak fun k hk => Or.inl hk)
        have HPB : Hid (P = .ok [] q2) := by show _ = _; rw [HP2.out, hs]; rfl
        clear hs hq hfr
        go_wp2
        go_ret
        rw [HPB.out]
        exact ⟨_, rfl, ⟨World.ownsRow_nil _ _ _ _, HI7.out⟩, hrd, hfr2⟩
end Go.Proofs.YtggkbhafbhhhhabGreatDoor
