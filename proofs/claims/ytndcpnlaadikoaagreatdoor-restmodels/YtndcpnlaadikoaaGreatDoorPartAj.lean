/- What the proof leans on, part 10. -/
import Derived.Test.YtndcpnlaadikoaaGreatDoorPartAi
import Derived.Deep.RegionHeld3
import Derived.Deep.RegionLaw
set_option maxRecDepth 100000
set_option maxHeartbeats 12800000
namespace Go.Proofs.YtndcpnlaadikoaaGreatDoor
open Go.RowKit
theorem LSr.set {B base:Nat} {t:TypeId} {w:World} {v:Value} {acc:List (List Int)} (h:LSr B base w v acc) {C:Nat} {cs:Array Value} (hC:w.heap[C]? = some (.cells cs t)) (ht:t≠3) (ht2:t≠42) (i:Nat) (u:Value):LSr B base (w.setCell ⟨C,i,Option.none⟩ u) v acc:=by
 obtain⟨cells,h1,h2⟩:=h;refine⟨cells,zAX h1 hC ht2 i u,fun j r hr=>?_⟩
 obtain⟨x,hx,ho⟩:=h2 j r hr;exact⟨x,hx,zAX ho hC ht i u⟩
theorem LSr.mono {B base base':Nat} {w:World} {v:Value} {acc:List (List Int)} (h:LSr B base w v acc) (hb:base'≤base):LSr B base' w v acc:=by
 obtain⟨cells,h1,h2⟩:=h;exact⟨cells,zBG h1 hb,h2⟩
def ConR (B:Nat) (w:World) (vv vc vr vl:Value) (c:MCon):Prop :=
 w.ownsRow B 3 1 vv c.vars.length (c.vars.map (Value.int .i64))∧w.ownsRow B 3 1 vc c.consts.length (c.consts.map (Value.int .i64))∧LSr B B w vr c.rows∧w.ownsRow B 76 3 vl c.lits.length (c.lits.flatMap litC)
theorem ConR.set {B:Nat} {w:World} {vv vc vr vl:Value} {c:MCon} (h:ConR B w vv vc vr vl c) {C:Nat} {cs:Array Value} (hC:w.heap[C]? = some (.cells cs 69)) (i:Nat) (u:Value):ConR B (w.setCell ⟨C,i,Option.none⟩ u) vv vc vr vl c :=
 ⟨zAX h.1 hC (by decide) i u,zAX h.2.1 hC (by decide) i u,h.2.2.1.set hC (by decide) (by decide) i u,zAX h.2.2.2 hC (by decide) i u⟩
theorem ConR.fr {X:Nat→Prop} {B:Nat} {w w':World} {vv vc vr vl:Value} {c:MCon} (h:ConR B w vv vc vr vl c) (hf:Fr X w w') (hX:∀k,X k→k<B):ConR B w' vv vc vr vl c :=
 ⟨zDY h.1 hf hX,zDY h.2.1 hf hX,h.2.2.1.fr hf hX hX,zDY h.2.2.2 hf hX⟩
theorem ConR.mono {B B':Nat} {w:World} {vv vc vr vl:Value} {c:MCon} (h:ConR B w vv vc vr vl c) (hb:B'≤B):ConR B' w vv vc vr vl c:=by
 obtain⟨h1,h2,⟨cells,h3,h4⟩,h5⟩:=h;refine⟨zBG h1 hb,zBG h2 hb,⟨cells,zBG h3 hb,fun i r hr=>?_⟩,zBG h5 hb⟩
 obtain⟨x,hx,ho⟩:=h4 i r hr;exact⟨x,hx,zBG ho hb⟩
theorem ConR.none (B:Nat) (w:World) (k:Int):ConR B w (.slice Option.none 0 0) (.slice Option.none 0 0) (.slice Option.none 0 0) (.slice Option.none 0 0) ⟨k,[],[],0,[],[]⟩ :=
 ⟨World.ownsRow_nil _ _ _ _,World.ownsRow_nil _ _ _ _,LSr.none _ _ _,World.ownsRow_nil _ _ _ _⟩
structure ConS (N R M:Nat) (en:Int) (names:List ByteArray) (w0:World) (C:Nat) (w:World) (q:List Tok) (vv vc vr vl:Value) (c:MCon):Prop where
 rd:Rd N R M en w q
 fr:Fr (fun k=>k=R) w0 w
 nm:NmS w M names
 res:w.heap[w0.heap.size]? = some (.cells #[.int .i64 0,.slice none 0 0,.slice none 0 0,.int .i64 0,.slice none 0 0,.slice none 0 0] 69)
 con:w.heap[C]? = some (.cells #[.int .i64 c.kind,vv,vc,.int .i64 c.n,vr,vl] 69)
 lt:w0.heap.size<C
 Rw:R<w0.heap.size
 Nw:N≤w0.heap.size
 Mw:M<w0.heap.size
 own:ConR w0.heap.size w vv vc vr vl c
section
variable {N R M:Nat} {en:Int} {names:List ByteArray} {w0:World} {C:Nat} {w w':World} {q q':List Tok} {vv vc vr vl:Value} {c:MCon}
theorem ConS.call (h:ConS N R M en names w0 C w q vv vc vr vl c) (hf:Fr (fun k=>k=R) w w') (hrd:Rd N R M en w' q'):ConS N R M en names w0 C w' q' vv vc vr vl c where
 rd:=hrd
 fr:=h.fr.trans hf
 nm:=h.nm.old (hf.block M h.nm.lt hrd.1.2.2)
 res:=(hf.block _ (Array.getElem?_eq_some_iff.1 h.res).1 (by have:=h.Rw;omega)).trans h.res
 con:=(hf.block _ (Array.getElem?_eq_some_iff.1 h.con).1 (by have:=h.Rw;have:=h.lt;omega)).trans h.con
 lt:=h.lt
 Rw:=h.Rw
 Nw:=h.Nw
 Mw:=h.Mw
 own:=h.own.fr hf (fun k hk=>by subst hk;exact h.Rw)
theorem ConS.below (h:ConS N R M en names w0 C w q vv vc vr vl c) (hb:Below w.heap.size w w'):ConS N R M en names w0 C w' q vv vc vr vl c:=h.call (Fr.below hb) (h.rd.below hb)
theorem ConS.base (h:ConS N R M en names w0 C w q vv vc vr vl c):w0.heap.size≤w.heap.size:=h.fr.size
theorem ConS.put (h:ConS N R M en names w0 C w q vv vc vr vl c) (i:Nat) (u:Value) (vv' vc' vr' vl':Value) (c':MCon) (hcs:(#[.int .i64 c.kind,vv,vc,.int .i64 c.n,vr,vl]:Array Value).setIfInBounds i u=#[.int .i64 c'.kind,vv',vc',.int .i64 c'.n,vr',vl'])
 (ho:ConR w0.heap.size w vv' vc' vr' vl' c'):ConS N R M en names w0 C (w.setCell ⟨C,i,none⟩ u) q vv' vc' vr' vl' c' where
 rd:=h.rd.set (p:=⟨C,i,none⟩) (by have:=h.Rw;have:=h.lt;show C≠R;omega) (by have:=h.Nw;have:=h.lt;show N≤C;omega) u
 fr:=h.fr.setNew (p:=⟨C,i,none⟩) (Nat.le_of_lt h.lt) u
 nm:=h.nm.old (Below.heap_setCell _ _ _ _ (by have:=h.Mw;have:=h.lt;show M≠C;omega))
 res:=(Below.heap_setCell _ _ _ _ (by have:=h.lt;show w0.heap.size≠C;omega)).trans h.res
 con:=by rw[heap_setCell_same w C i _ _ _ h.con,hcs]
 lt:=h.lt
 Rw:=h.Rw
 Nw:=h.Nw
 Mw:=h.Mw
 own:=ho.set h.con i u
theorem ConS.vars (h:ConS N R M en names w0 C w q vv vc vr vl c) {v:Value} {xs:List Int} (ho:w.ownsRow w0.heap.size 3 1 v xs.length (xs.map (Value.int .i64))):ConS N R M en names w0 C (w.setCell ⟨C,1,none⟩ v) q v vc vr vl { c with vars:=xs } :=
 h.put 1 v v vc vr vl { c with vars:=xs } rfl ⟨ho,h.own.2.1,h.own.2.2.1,h.own.2.2.2⟩
theorem ConS.consts (h:ConS N R M en names w0 C w q vv vc vr vl c) {v:Value} {xs:List Int} (ho:w.ownsRow w0.heap.size 3 1 v xs.length (xs.map (Value.int .i64))):ConS N R M en names w0 C (w.setCell ⟨C,2,none⟩ v) q vv v vr vl { c with consts:=xs } :=
 h.put 2 v vv v vr vl { c with consts:=xs } rfl ⟨h.own.1,ho,h.own.2.2.1,h.own.2.2.2⟩
theorem ConS.n (h:ConS N R M en names w0 C w q vv vc vr vl c) (n:Int):ConS N R M en names w0 C (w.setCell ⟨C,3,none⟩ (.int .i64 n)) q vv vc vr vl { c with n:=n } :=
 h.put 3 _ vv vc vr vl { c with n:=n } rfl h.own
theorem ConS.rows (h:ConS N R M en names w0 C w q vv vc vr vl c) {v:Value} {xs:List (List Int)} (ho:LSr w0.heap.size w0.heap.size w v xs):ConS N R M en names w0 C (w.setCell ⟨C,4,none⟩ v) q vv vc v vl { c with rows:=xs } :=
 h.put 4 v vv vc v vl { c with rows:=xs } rfl ⟨h.own.1,h.own.2.1,ho,h.own.2.2.2⟩
theorem ConS.lits (h:ConS N R M en names w0 C w q vv vc vr vl c) {v:Value} {xs:List MLit} (ho:w.ownsRow w0.heap.size 76 3 v xs.length (xs.flatMap litC)):ConS N R M en names w0 C (w.setCell ⟨C,5,none⟩ v) q vv vc vr v { c with lits:=xs } :=
 h.put 5 v vv vc vr v { c with lits:=xs } rfl ⟨h.own.1,h.own.2.1,h.own.2.2.1,ho⟩
theorem ConS.varsLit (h:ConS N R M en names w0 C w q vv vc vr vl c) (xs:List Int) (hx:xs.length≤100):ConS N R M en names w0 C ((w.setCell ⟨C,1,none⟩ (.slice (some ⟨w.heap.size,0,none⟩) xs.length xs.length)).alloc (.cells (xs.map (Value.int .i64)).toArray 3)) q (.slice (some ⟨w.heap.size,0,none⟩) xs.length xs.length) vc vr vl { c with vars:=xs }:=by
 rw[←World.setCell_alloc_past _ _ _ _ (Array.getElem?_eq_some_iff.1 h.con).1];refine (h.below (zAA _ _)).vars ?_;have:=World.ownsRow_lit (e:=3) (size:=1) w (xs.map (Value.int .i64)).toArray xs.length h.base (by unfold maxLen;omega) (by simp)
 simpa using this
theorem ConS.litLit (h:ConS N R M en names w0 C w q vv vc vr vl c) (x:MLit):ConS N R M en names w0 C ((w.setCell ⟨C,5,none⟩ (.slice (some ⟨w.heap.size,0,none⟩) 1 1)).alloc (.cells #[.int .i64 x.var,.int .i64 x.op,.int .i64 x.n] 76)) q vv vc vr (.slice (some ⟨w.heap.size,0,none⟩) 1 1) { c with lits:=[x] }:=by
 rw[←World.setCell_alloc_past _ _ _ _ (Array.getElem?_eq_some_iff.1 h.con).1];refine (h.below (zAA _ _)).lits (xs:=[x]) ?_;exact World.ownsRow_lit (e:=76) (size:=3) w #[.int .i64 x.var,.int .i64 x.op,.int .i64 x.n] 1 h.base (by unfold maxLen;omega) (by simp)
theorem zD1 {w:World} {D:Nat} {t:TypeId} (h:∃cs,w.heap[D]? = some (.cells cs t)) (i:Nat) (u:Value):∃cs,(w.setCell ⟨D,i,none⟩ u).heap[D]? = some (.cells cs t):=by
 obtain⟨cs,h⟩:=h;exact⟨_,heap_setCell_same w D i _ _ _ h⟩
theorem ConS.endd (h:ConS N R M en names w0 C w q vv vc vr vl c) (u0 u1 u2 u3 u4 u5:Value) (W:World)
 (hW:W=(((((w.setCell ⟨w0.heap.size,0,none⟩ u0).setCell ⟨w0.heap.size,1,none⟩ u1).setCell ⟨w0.heap.size,2,none⟩ u2).setCell ⟨w0.heap.size,3,none⟩ u3).setCell ⟨w0.heap.size,4,none⟩ u4).setCell ⟨w0.heap.size,5,none⟩ u5) :
 ConR w0.heap.size W vv vc vr vl c∧Rd N R M en W q∧Fr (fun k=>k=R) w0 W:=by
 subst hW;have hne:w0.heap.size≠R:=by have:=h.Rw;omega
 have k0:∃cs,w.heap[w0.heap.size]? = some (.cells cs 69):=⟨_,h.res⟩;have k1:=zD1 k0 0 u0;have k2:=zD1 k1 1 u1;have k3:=zD1 k2 2 u2;have k4:=zD1 k3 3 u3;have k5:=zD1 k4 4 u4;refine⟨?_,?_,?_⟩
 ·exact (((((h.own.set k0.choose_spec 0 u0).set k1.choose_spec 1 u1).set k2.choose_spec 2 u2).set k3.choose_spec 3 u3).set k4.choose_spec 4 u4).set k5.choose_spec 5 u5
 ·exact (((((h.rd.set (p:=⟨w0.heap.size,0,none⟩) hne h.Nw _).set (p:=⟨w0.heap.size,1,none⟩) hne h.Nw _).set (p:=⟨w0.heap.size,2,none⟩) hne h.Nw _).set (p:=⟨w0.heap.size,3,none⟩) hne h.Nw _).set (p:=⟨w0.heap.size,4,none⟩) hne h.Nw _).set (p:=⟨w0.heap.size,5,none⟩) hne h.Nw _
 ·exact (((((h.fr.setNew (p:=⟨w0.heap.size,0,none⟩) (Nat.le_refl _) _).setNew (p:=⟨w0.heap.size,1,none⟩) (Nat.le_refl _) _).setNew (p:=⟨w0.heap.size,2,none⟩) (Nat.le_refl _) _).setNew (p:=⟨w0.heap.size,3,none⟩) (Nat.le_refl _) _).setNew (p:=⟨w0.heap.size,4,none⟩) (Nat.le_refl _) _).setNew (p:=⟨w0.heap.size,5,none⟩) (Nat.le_refl _) _
end
def GC (B:Nat) (c:MCon) (v:Value) (w':World):Prop:=∃vv vc vr vl,v=conV vv vc vr vl c∧ConR B w' vv vc vr vl c
theorem zNe (en:Int) (names:List ByteArray) (k:Int) (l:List Tok) (h:¬k=1∧¬k=2∧¬k=3∧¬k=4∧¬k=5∧¬k=6∧¬k=7∧¬k=8∧¬k=9∧¬k=10):zCp en names k l=.ok ⟨k,[],[],0,[],[]⟩ l:=by
 obtain⟨h1,h2,h3,h4,h5,h6,h7,h8,h9,h10⟩:=h;unfold zCp;rw[if_neg (fun h=>h.elim h1 (fun h=>h.elim h2 h3)),if_neg h4,if_neg h5,if_neg h6,if_neg h7,if_neg h8,if_neg h9,if_neg h10]
theorem hid9 {p:Prop} (h:p):Hid p:=h
theorem zEV {α β γ:Type} {P:PR γ} {A:PR α} {F:α→List Tok→PR β} {G:β→List Tok→PR γ} {x:α} {q:List Tok} (h:Hid (P=(A.bind F).bind G)) (hs:A=.ok x q):Hid (P=(F x q).bind G):=by rw[hs] at h;exact h
theorem hbad {α β γ:Type} {P:PR γ} {A:PR α} {F:α→List Tok→PR β} {G:β→List Tok→PR γ} {x er:Int} (h:Hid (P=(A.bind F).bind G)) (hs:A=.bad x er):Hid (P=.bad x er):=by rw[hs] at h;exact h
theorem hend {α γ:Type} {P:PR γ} {A:PR α} {G:α→List Tok→PR γ} {x:α} {q:List Tok} (h:Hid (P=A.bind G)) (hs:A=.ok x q):Hid (P=G x q):=by rw[hs] at h;exact h
theorem zSK {α γ:Type} {P:PR γ} {A:PR α} {G:α→List Tok→PR γ} {x er:Int} (h:Hid (P=A.bind G)) (hs:A=.bad x er):Hid (P=.bad x er):=by rw[hs] at h;exact h
theorem zHO (w:World) (ty:TypeId) (base n c:Nat) (v:Value) (xs:List Value) (hown:w.ownsRow base 3 1 v n xs) :
 (Builtin.append_ #[42,42] ty #[v,.slice none 0 c]).run Tryz.prog w=.ok v w:=by
 obtain⟨i0,hi,hz0,hz1,hz2⟩:=info_parts Tryz.infoInt5;rcases hown.2 with ⟨rfl,rfl⟩ | ⟨g,cap,cur,rfl,_,_,hnc,_⟩
 ·simp[Builtin.append_,run_underlying Tryz.underInts5,sizeOf,typeInfo,hi,Builtin.lenOf,Builtin.firstCells]
 ·simp[Builtin.append_,run_underlying Tryz.underInts5,sizeOf,typeInfo,hi,Builtin.lenOf,Builtin.firstCells,hnc,storeCells]
theorem zOt (l:List Int):∀u∈l.map (Value.int .i64),u.oneCell'=true:=by
 intro u hu;obtain⟨z,_,rfl⟩:=List.mem_map.1 hu;rfl
theorem zMm {α:Type} {en:Int} {item:List Tok→PR α} (hE:Eats item):∀(f:Nat) (acc:List α) (l:List Tok) (xs:List α) (r:List Tok),zCK en item f acc l=.ok xs r→xs.length+r.length≤acc.length+l.length
 | 0,acc,l,xs,r,h=>by cases h
 | f+1,acc,l,xs,r,h=>by
   unfold zCK at h
   split at h
   ·rename_i hb
    obtain⟨t,q,h1,h2⟩:=PR.bind_ok h;obtain⟨x,q2,h3,h4⟩:=PR.bind_ok h2;have e1:=zBs zB8 h1;have e2:=hE q x q2 h3;have e3:=zMm hE f _ q2 xs r h4;simp at e3;omega
   ·obtain⟨t,q,h1,h2⟩:=PR.bind_ok h
    have e1:=zBs zBl h1;cases h2
    omega
theorem zOu {α:Type} {en:Int} {item:List Tok→PR α} (hE:Eats item) {l r:List Tok} {xs:List α} (h:zAr en item l=.ok xs r):xs.length+r.length≤l.length:=by
 unfold zAr at h;obtain⟨t,q,h1,h2⟩:=PR.bind_ok h;have e1:=zBs zCa h1
 split at h2
 ·obtain⟨t2,q2,h3,h4⟩:=PR.bind_ok h2
  have e2:=zBs zBl h3;cases h4
  simp;omega
 ·obtain⟨x,q2,h3,h4⟩:=PR.bind_ok h2
  have e2:=hE q x q2 h3;have e3:=zMm hE _ _ q2 xs r h4;simp at e3;omega
theorem zHP {w:World} {o:Oper} {a:Act} {K:Act→World→Prop} {Q:Exit→Act→World→Prop} (s x:Operand)
 (ho:o.op=.call { callee:=.builtin .append,args:=#[s,x],argTypes:=#[42,42] }) (base:Nat)
 (v:Value) (xs:List Int) (hs:a.eval s=v) (hown:w.ownsRow base 3 1 v xs.length (xs.map (Value.int .i64)))
 (u:Value) (l:List Int) (hx:a.eval x=u) (base2:Nat) (hl:w.ownsRow base2 3 1 u l.length (l.map (Value.int .i64))) (hn:xs.length+l.length≤100000) (hbase:base≤w.heap.size)
 (h:∀v' w',w'.ownsRow base 3 1 v' (xs++l).length ((xs++l).map (Value.int .i64))→w.grownBy w' v.ownBlock→K (a.put o.dst v') w'):o.wp Tryz.prog a w K Q:=by
 obtain⟨i0,hi,hz0,hz1,hz2⟩:=info_parts Tryz.infoInt5;rcases hl.2 with ⟨rfl,h0⟩ | ⟨g,cap,cur,rfl,_⟩
 ·have hl0:l=[]:=List.length_eq_zero_iff.1 h0
  subst hl0;have hr:=zHO w o.type base xs.length 0 v _ hown;unfold Oper.wp execOp;simp only[ho,resolve,invoke,builtin,Sem.run_bind,Sem.run_pure,Result.andThen_ok,List.map_toArray,List.map_cons,List.map_nil,hs,hx,hr];exact h v w (by rw[List.append_nil];exact hown) ⟨rfl,rfl,rfl,Nat.le_refl _,fun _ _ _=>rfl⟩
 ·refine wp_append_own w s x 42 ho base 3 i0 (.int .i64 0) 1 8 Tryz.underInts5 hi hz0 hz1 hz2 rfl (by decide) v xs.length _ hs hown ⟨g,0,none⟩ l.length cap (l.map (Value.int .i64)) hx (by simp) ?_ (zOt l) (by unfold maxLen;omega) (by omega) hbase ?_
  ·exact hl.cells rfl
  ·intro v' w' h1 h2 h3
   exact h v' w' (by rw[List.length_append,List.map_append];exact h1) h2
theorem zGd {w:World} {B:Nat} {e t:TypeId} {size n g cap:Nat} {xs:List Value} (h:w.ownsRow B e size (.slice (some ⟨g,0,none⟩) n cap) n xs) {C:Nat} {cs:Array Value} (hC:w.heap[C]? = some (.cells cs t)) (ht:t≠e):C≠g:=by
 rcases h.2 with ⟨hn,_⟩ | ⟨g',cap',cur,hv,_,hh,_⟩
 ·cases hn
 ·simp only[Value.slice.injEq,Option.some.injEq,Addr.mk.injEq,and_true,true_and] at hv
  obtain⟨rfl,rfl⟩:=hv;intro e1;rw[e1,hh] at hC
  injection hC with h1
  injection h1 with _ h2
  exact ht h2.symm
theorem ConS.append8 {N R M:Nat} {en:Int} {names:List ByteArray} {w0:World} {C g:Nat} {w w':World} {q:List Tok} {a:Int} {vs:List Int} {v':Value} (h:ConS N R M en names w0 C w q (.slice (some ⟨g,0,none⟩) 1 1) (.slice none 0 0) (.slice none 0 0) (.slice none 0 0) ⟨8,[a],[],0,[],[]⟩)
 (hown:w'.ownsRow w0.heap.size 3 1 v' ([a]++vs).length (([a]++vs).map (Value.int .i64))) (hg:w.grownBy w' (some g)) :
 ConS N R M en names w0 C (w'.setCell ⟨C,1,none⟩ v') q v' (.slice none 0 0) (.slice none 0 0) (.slice none 0 0) ⟨8,[a]++vs,[],0,[],[]⟩∧w'.heap[C]? = some (.cells #[.int .i64 8,.slice (some ⟨g,0,none⟩) 1 1,.slice none 0 0,.int .i64 0,.slice none 0 0,.slice none 0 0] 69):=by
 have hgl:=h.own.1.lt g rfl;have e1:C≠g:=zGd h.own.1 h.con (by decide)
 have e2:w0.heap.size≠g:=zGd h.own.1 h.res (by decide)
 have hcon:=(hg.block C (Array.getElem?_eq_some_iff.1 h.con).1 (fun e=>e1 (Option.some.inj e))).trans h.con
 refine⟨?_,hcon⟩;exact {
  rd:=(h.rd.grown hg (fun k hk=>by cases hk;have:=h.Rw;have:=h.Nw;omega)).set (p:=⟨C,1,none⟩) (by have:=h.Rw;have:=h.lt;show C≠R;omega) (by have:=h.Nw;have:=h.lt;show N≤C;omega) _
  fr:=(h.fr.grown hg (fun k hk=>by cases hk;exact Or.inr hgl.1)).setNew (p:=⟨C,1,none⟩) (Nat.le_of_lt h.lt) _
  nm:=(h.nm.old (hg.block M h.nm.lt (fun e=>by have:=Option.some.inj e;have:=h.Mw;omega))).old (Below.heap_setCell _ _ _ _ (by have:=h.Mw;have:=h.lt;show M≠C;omega))
  res:=(Below.heap_setCell _ _ _ _ (by have:=h.lt;show w0.heap.size≠C;omega)).trans ((hg.block _ (Array.getElem?_eq_some_iff.1 h.res).1 (fun e=>e2 (Option.some.inj e))).trans h.res)
  con:=by rw[heap_setCell_same w' C 1 _ _ _ hcon];rfl
  lt:=h.lt
  Rw:=h.Rw
  Nw:=h.Nw
  Mw:=h.Mw
  own:=⟨zAX hown hcon (by decide) 1 v',World.ownsRow_nil _ _ _ _,LSr.none _ _ _,World.ownsRow_nil _ _ _ _⟩ }
theorem zQg (N R M:Nat) (en:Int) (names:List ByteArray) (w:World) (l:List Tok) (h:Rd N R M en w l) (hn:NmS w M names) (hne:∀n∈names,n.data.toList≠[]) :
 Calls Tryz.prog 222 #[.pointer (some ⟨R,0,none⟩)] w (zB7 (conP en names l) (GC w.heap.size) N R M en (fun k=>k=R) w):=by
 have HB:Hid (Rd N R M en w l):=h;have HN:Hid (NmS w M names):=hn;have HNE:Hid (∀n∈names,n.data.toList≠[]):=hne;have hRw:R<w.heap.size:=by obtain⟨_,_,hR,_⟩:=h;exact (Array.getElem?_eq_some_iff.1 hR).1
 obtain⟨P,hP⟩:∃P,conP en names l=P:=⟨_,rfl⟩;have HP:Hid (P=(zAY en conW l).bind fun _ l=>(zC0 en zGx l).bind fun k l=>(zCp en names k l).bind fun c l=>(zAY en zB6 l).bind fun _ l=>.ok c l):=hP.symm
 rw[hP];clear h hP hn hne;go_enter Tryz.func222,Tryz.ntmps222
 go_wp2_with fail
 have HBA:=zAA w (.cells #[.int .i64 0,.slice none 0 0,.slice none 0 0,.int .i64 0,.slice none 0 0,.slice none 0 0] 69);have HQ0:=heap_alloc_new w (.cells #[.int .i64 0,.slice none 0 0,.slice none 0 0,.int .i64 0,.slice none 0 0,.slice none 0 0] 69);refine (zAp N R M en conW zKJ _ l (HB.out.below HBA)).mono ?_;intro e w1 hp;have HF0:=hid9 (Fr.below (X:=fun k=>k=R) HBA)
 rcases hs:zAY en conW l with ⟨t1,q1⟩ | ⟨x,er⟩ <;> rw[hs] at hp
 rotate_left
 ·obtain⟨rfl,hfr⟩:=hp
  replace HF0:=hid9 (HF0.out.trans hfr)
  replace HP:=zSK HP hs
  clear hs hfr HBA HQ0;go_wp2
  exact⟨rfl,by rw[HP.out];exact⟨rfl,HF0.out⟩⟩
 obtain⟨v,rfl,rfl,hrd1,hfr1⟩:=hp;have HR1:=hid9 hrd1;have HF1:=hid9 (HF0.out.trans hfr1);have HQ1:=hid9 ((hfr1.block _ (by simp) (by omega)).trans HQ0)
 replace HP:=hend HP hs
 clear HF0 HQ0 HBA hrd1 hfr1 hs;go_wp2_with fail
 refine (zIb w1).mono ?_;rintro e w2 ⟨sv,rfl,hsv,hb2⟩;have HSV:=hid9 hsv;obtain⟨as_,cs_,rfl,_,_⟩:=hsv;have HR2:=hid9 (HR1.out.below hb2);have HF2:=hid9 (HF1.out.trans (Fr.below hb2));have HQ2:=hid9 ((hb2.block _ (Array.getElem?_eq_some_iff.1 HQ1.out).1).trans HQ1.out);clear hb2 HR1 HF1 HQ1;go_wp2_with fail
 refine (zHK N R M en zGx _ w2 q1 HR2.out HSV.out).mono ?_;intro e w3 hp;rcases hs:zC0 en zGx q1 with ⟨k,q2⟩ | ⟨x,er⟩ <;> rw[hs] at hp
 rotate_left
 ·obtain⟨rfl,hfr⟩:=hp
  replace HF2:=hid9 (HF2.out.trans hfr)
  replace HP:=zSK HP hs
  clear hs hfr;go_wp2
  exact⟨rfl,by rw[HP.out];exact⟨rfl,HF2.out⟩⟩
 obtain⟨v,rfl,rfl,hrd3,hfr3⟩:=hp
 replace HP:=hend HP hs
 have HS:Hid (ConS N R M en names w w3.heap.size (w3.alloc (.cells #[.int .i64 k,.slice none 0 0,.slice none 0 0,.int .i64 0,.slice none 0 0,.slice none 0 0] 69)) q2 (.slice none 0 0) (.slice none 0 0) (.slice none 0 0) (.slice none 0 0) ⟨k,[],[],0,[],[]⟩):=by
  have hbq:=zAA w3 (.cells #[.int .i64 k,.slice none 0 0,.slice none 0 0,.int .i64 0,.slice none 0 0,.slice none 0 0] 69);have hlt:w.heap.size<w3.heap.size:=Nat.lt_of_lt_of_le (Array.getElem?_eq_some_iff.1 HQ2.out).1 hfr3.size;have hfr:=(HF2.out.trans hfr3).trans (Fr.below hbq);exact⟨hrd3.below hbq,hfr,HN.out.old (hfr.block M HN.out.lt HB.out.1.2.2),(hbq.block _ hlt).trans ((hfr3.block _ (Array.getElem?_eq_some_iff.1 HQ2.out).1 (by omega)).trans HQ2.out),heap_alloc_new _ _,hlt,hRw,HB.out.1.2.1,HN.out.lt,ConR.none _ _ _⟩
 clear hrd3 hfr3 HR2 HF2 HQ2 hs HSV;have hk:(k=1∨k=2∨k=3)∨k=4∨k=5∨k=6∨k=7∨k=9∨k=10∨k=8∨(¬k=1∧¬k=2∧¬k=3∧¬k=4∧¬k=5∧¬k=6∧¬k=7∧¬k=8∧¬k=9∧¬k=10):=by omega
 rcases hk with hk | rfl | rfl | rfl | rfl | rfl | rfl | rfl | hk
 case' inl =>
  rcases hk with rfl | rfl | rfl
  case' inl=>rw[show zCp en names 1 q2=(zAr en (zAP en) q2).bind fun cs l=>(zAr en (zA1 en names) l).bind fun vs l=>(zAP en l).bind fun n l=>.ok ⟨1,vs,cs,n,[],[]⟩ l by simp[zCp]] at HP
  case' inr.inl=>rw[show zCp en names 2 q2=(zAr en (zAP en) q2).bind fun cs l=>(zAr en (zA1 en names) l).bind fun vs l=>(zAP en l).bind fun n l=>.ok ⟨2,vs,cs,n,[],[]⟩ l by simp[zCp]] at HP
  case' inr.inr=>rw[show zCp en names 3 q2=(zAr en (zAP en) q2).bind fun cs l=>(zAr en (zA1 en names) l).bind fun vs l=>(zAP en l).bind fun n l=>.ok ⟨3,vs,cs,n,[],[]⟩ l by simp[zCp]] at HP
  all_goals
   go_wp2_with fail
   refine (zFF N R M en _ _ HS.out.rd).mono ?_;intro e w4 hp;rcases hs:zAr en (zAP en) q2 with ⟨cs,q3⟩ | ⟨x,er⟩ <;> rw[hs] at hp
   rotate_left
   ·obtain⟨rfl,hfr⟩:=hp
    replace HS:=hid9 (HS.out.fr.trans hfr)
    replace HP:=hbad HP hs
    clear hs hfr;go_wp2
    exact⟨rfl,by rw[HP.out];exact⟨rfl,HS.out⟩⟩
   obtain⟨v4,rfl,ho,hrd,hfr⟩:=hp;have HO:=hid9 (zBG ho HS.out.base);obtain⟨a4,c4,hv⟩:=zAC ho;subst hv
   replace HS:=hid9 (HS.out.call hfr hrd)
   replace HP:=zEV HP hs
   clear ho hs hrd hfr;have r2:=blk9 HS.out.con 2 _ rfl;have z2:=frz9 HS.out.con 2
   replace HS:=hid9 (HS.out.consts HO.out)
   clear HO;go_wp2_with fail
   refine (zC7 N R M en names _ _ HS.out.rd HS.out.nm HNE.out).mono ?_;intro e w5 hp;rcases hs:zAr en (zA1 en names) q3 with ⟨vs,q4⟩ | ⟨x,er⟩ <;> rw[hs] at hp
   rotate_left
   ·obtain⟨rfl,hfr⟩:=hp
    replace HS:=hid9 (HS.out.fr.trans hfr)
    replace HP:=hbad HP hs
    clear hs hfr;go_wp2
    exact⟨rfl,by rw[HP.out];exact⟨rfl,HS.out⟩⟩
   obtain⟨v5,rfl,⟨ho,_⟩,hrd,hfr⟩:=hp;have HO:=hid9 (zBG ho HS.out.base);obtain⟨a5,c5,hv⟩:=zAC ho;subst hv
   replace HS:=hid9 (HS.out.call hfr hrd)
   replace HP:=zEV HP hs
   clear ho hs hrd hfr;have r1:=blk9 HS.out.con 1 _ rfl;have z1:=frz9 HS.out.con 1
   replace HS:=hid9 (HS.out.vars HO.out)
   clear HO;go_wp2_with fail
   refine (zDp N R M en _ _ HS.out.rd).mono ?_;intro e w6 hp;rcases hs:zAP en q4 with ⟨n,qz⟩ | ⟨x,er⟩ <;> rw[hs] at hp
   rotate_left
   ·obtain⟨rfl,hfr⟩:=hp
    replace HS:=hid9 (HS.out.fr.trans hfr)
    replace HP:=hbad HP hs
    clear hs hfr;go_wp2
    exact⟨rfl,by rw[HP.out];exact⟨rfl,HS.out⟩⟩
   obtain⟨v6,rfl,⟨rfl,_,_⟩,hrd,hfr⟩:=hp
   replace HS:=hid9 (HS.out.call hfr hrd)
   replace HP:=zEV HP hs
   clear hs hrd hfr;have r3:=blk9 HS.out.con 3 _ rfl;have z3:=frz9 HS.out.con 3
   replace HS:=hid9 (HS.out.n n)
 case' inr.inl =>
  rw[show zCp en names 4 q2=(zAr en (zA1 en names) q2).bind fun vs l=>.ok ⟨4,vs,[],0,[],[]⟩ l by simp[zCp]] at HP
  go_wp2_with fail
  refine (zC7 N R M en names _ _ HS.out.rd HS.out.nm HNE.out).mono ?_;intro e w4 hp;rcases hs:zAr en (zA1 en names) q2 with ⟨vs,qz⟩ | ⟨x,er⟩ <;> rw[hs] at hp
  rotate_left
  ·obtain⟨rfl,hfr⟩:=hp
   replace HS:=hid9 (HS.out.fr.trans hfr)
   replace HP:=hbad HP hs
   clear hs hfr;go_wp2
   exact⟨rfl,by rw[HP.out];exact⟨rfl,HS.out⟩⟩
  obtain⟨v4,rfl,⟨ho,_⟩,hrd,hfr⟩:=hp;have HO:=hid9 (zBG ho HS.out.base);obtain⟨a4,c4,hv⟩:=zAC ho;subst hv
  replace HS:=hid9 (HS.out.call hfr hrd)
  replace HP:=zEV HP hs
  clear ho hs hrd hfr;have r1:=blk9 HS.out.con 1 _ rfl;have z1:=frz9 HS.out.con 1
  replace HS:=hid9 (HS.out.vars HO.out)
  clear HO
 case' inr.inr.inl =>
  rw[show zCp en names 5 q2=(zAr en (zAP en) q2).bind fun cs l=>(zA1 en names l).bind fun a l=>(zA1 en names l).bind fun b l=>.ok ⟨5,[a,b],cs,0,[],[]⟩ l by simp[zCp]] at HP
  go_wp2_with fail
  refine (zFF N R M en _ _ HS.out.rd).mono ?_;intro e w4 hp;rcases hs:zAr en (zAP en) q2 with ⟨cs,q3⟩ | ⟨x,er⟩ <;> rw[hs] at hp
  rotate_left
  ·obtain⟨rfl,hfr⟩:=hp
   replace HS:=hid9 (HS.out.fr.trans hfr)
   replace HP:=hbad HP hs
   clear hs hfr;go_wp2
   exact⟨rfl,by rw[HP.out];exact⟨rfl,HS.out⟩⟩
  obtain⟨v4,rfl,ho,hrd,hfr⟩:=hp;have HO:=hid9 (zBG ho HS.out.base);obtain⟨a4,c4,hv⟩:=zAC ho;subst hv
  replace HS:=hid9 (HS.out.call hfr hrd)
  replace HP:=zEV HP hs
  clear ho hs hrd hfr;have r2:=blk9 HS.out.con 2 _ rfl;have z2:=frz9 HS.out.con 2
  replace HS:=hid9 (HS.out.consts HO.out)
  clear HO;go_wp2_with fail
  refine (zCk N R M en names _ _ HS.out.rd HS.out.nm HNE.out).mono ?_;intro e w5 hp;rcases hs:zA1 en names q3 with ⟨a,q4⟩ | ⟨x,er⟩ <;> rw[hs] at hp
  rotate_left
  ·obtain⟨rfl,hfr⟩:=hp
   replace HS:=hid9 (HS.out.fr.trans hfr)
   replace HP:=hbad HP hs
   clear hs hfr;go_wp2
   exact⟨rfl,by rw[HP.out];exact⟨rfl,HS.out⟩⟩
  obtain⟨v5,rfl,rfl,hrd,hfr⟩:=hp
  replace HS:=hid9 (HS.out.call hfr hrd)
  replace HP:=zEV HP hs
  clear hs hrd hfr;go_wp2_with fail
  refine (zCk N R M en names _ _ HS.out.rd HS.out.nm HNE.out).mono ?_;intro e w6 hp;rcases hs:zA1 en names q4 with ⟨b,qz⟩ | ⟨x,er⟩ <;> rw[hs] at hp
  rotate_left
  ·obtain⟨rfl,hfr⟩:=hp
   replace HS:=hid9 (HS.out.fr.trans hfr)
   replace HP:=hbad HP hs
   clear hs hfr;go_wp2
   exact⟨rfl,by rw[HP.out];exact⟨rfl,HS.out⟩⟩
  obtain⟨v6,rfl,rfl,hrd,hfr⟩:=hp
  replace HS:=hid9 (HS.out.call hfr hrd)
  replace HP:=zEV HP hs
  clear hs hrd hfr;have r1:=blk9 HS.out.con 1 _ rfl;have z1:=frz9 HS.out.con 1;have hCl:w3.heap.size<w6.heap.size:=(Array.getElem?_eq_some_iff.1 HS.out.con).1
  replace HS:=hid9 (HS.out.varsLit [a,b] (by simp))
 case' inr.inr.inr.inl =>
  rw[show zCp en names 6 q2=(zAr en (zA1 en names) q2).bind fun vs l=>(zAr en (zAr en (zAP en)) l).bind fun rs l=>.ok ⟨6,vs,[],0,rs,[]⟩ l by simp[zCp]] at HP
  go_wp2_with fail
  refine (zC7 N R M en names _ _ HS.out.rd HS.out.nm HNE.out).mono ?_;intro e w4 hp;rcases hs:zAr en (zA1 en names) q2 with ⟨vs,q3⟩ | ⟨x,er⟩ <;> rw[hs] at hp
  rotate_left
  ·obtain⟨rfl,hfr⟩:=hp
   replace HS:=hid9 (HS.out.fr.trans hfr)
   replace HP:=hbad HP hs
   clear hs hfr;go_wp2
   exact⟨rfl,by rw[HP.out];exact⟨rfl,HS.out⟩⟩
  obtain⟨v4,rfl,⟨ho,_⟩,hrd,hfr⟩:=hp;have HO:=hid9 (zBG ho HS.out.base);obtain⟨a4,c4,hv⟩:=zAC ho;subst hv
  replace HS:=hid9 (HS.out.call hfr hrd)
  replace HP:=zEV HP hs
  clear ho hs hrd hfr;have r1:=blk9 HS.out.con 1 _ rfl;have z1:=frz9 HS.out.con 1
  replace HS:=hid9 (HS.out.vars HO.out)
  clear HO;go_wp2_with fail
  refine (zQe w.heap.size N R M en _ _ HS.out.rd HS.out.base HS.out.Rw).mono ?_;intro e w5 hp;rcases hs:zAr en (zAr en (zAP en)) q3 with ⟨rs,qz⟩ | ⟨x,er⟩ <;> rw[hs] at hp
  rotate_left
  ·obtain⟨rfl,hfr⟩:=hp
   replace HS:=hid9 (HS.out.fr.trans hfr)
   replace HP:=hbad HP hs
   clear hs hfr;go_wp2
   exact⟨rfl,by rw[HP.out];exact⟨rfl,HS.out⟩⟩
  obtain⟨v5,rfl,ho,hrd,hfr⟩:=hp;have HO:=hid9 (ho.mono HS.out.base);obtain⟨a5,c5,hv⟩:=ho.form;subst hv
  replace HS:=hid9 (HS.out.call hfr hrd)
  replace HP:=zEV HP hs
  clear ho hs hrd hfr;have r4:=blk9 HS.out.con 4 _ rfl;have z4:=frz9 HS.out.con 4
  replace HS:=hid9 (HS.out.rows HO.out)
  clear HO
 case' inr.inr.inr.inr.inl =>
  rw[show zCp en names 7 q2=(zA1 en names q2).bind fun a l=>(zA1 en names l).bind fun b l=>(zA1 en names l).bind fun c l=>.ok ⟨7,[a,b,c],[],0,[],[]⟩ l by simp[zCp]] at HP
  go_wp2_with fail
  refine (zCk N R M en names _ _ HS.out.rd HS.out.nm HNE.out).mono ?_;intro e w4 hp;rcases hs:zA1 en names q2 with ⟨a,q3⟩ | ⟨x,er⟩ <;> rw[hs] at hp
  rotate_left
  ·obtain⟨rfl,hfr⟩:=hp
   replace HS:=hid9 (HS.out.fr.trans hfr)
   replace HP:=hbad HP hs
   clear hs hfr;go_wp2
   exact⟨rfl,by rw[HP.out];exact⟨rfl,HS.out⟩⟩
  obtain⟨v4,rfl,rfl,hrd,hfr⟩:=hp
  replace HS:=hid9 (HS.out.call hfr hrd)
  replace HP:=zEV HP hs
  clear hs hrd hfr;go_wp2_with fail
  refine (zCk N R M en names _ _ HS.out.rd HS.out.nm HNE.out).mono ?_;intro e w5 hp;rcases hs:zA1 en names q3 with ⟨b,q4⟩ | ⟨x,er⟩ <;> rw[hs] at hp
  rotate_left
  ·obtain⟨rfl,hfr⟩:=hp
   replace HS:=hid9 (HS.out.fr.trans hfr)
   replace HP:=hbad HP hs
   clear hs hfr;go_wp2
   exact⟨rfl,by rw[HP.out];exact⟨rfl,HS.out⟩⟩
  obtain⟨v5,rfl,rfl,hrd,hfr⟩:=hp
  replace HS:=hid9 (HS.out.call hfr hrd)
  replace HP:=zEV HP hs
  clear hs hrd hfr;go_wp2_with fail
  refine (zCk N R M en names _ _ HS.out.rd HS.out.nm HNE.out).mono ?_;intro e w6 hp;rcases hs:zA1 en names q4 with ⟨c,qz⟩ | ⟨x,er⟩ <;> rw[hs] at hp
  rotate_left
  ·obtain⟨rfl,hfr⟩:=hp
   replace HS:=hid9 (HS.out.fr.trans hfr)
   replace HP:=hbad HP hs
   clear hs hfr;go_wp2
   exact⟨rfl,by rw[HP.out];exact⟨rfl,HS.out⟩⟩
  obtain⟨v6,rfl,rfl,hrd,hfr⟩:=hp
  replace HS:=hid9 (HS.out.call hfr hrd)
  replace HP:=zEV HP hs
  clear hs hrd hfr;have r1:=blk9 HS.out.con 1 _ rfl;have z1:=frz9 HS.out.con 1;have hCl:w3.heap.size<w6.heap.size:=(Array.getElem?_eq_some_iff.1 HS.out.con).1
  replace HS:=hid9 (HS.out.varsLit [a,b,c] (by simp))
 case' inr.inr.inr.inr.inr.inl =>
  rw[show zCp en names 9 q2=(zAr en (litP en names) q2).bind fun ls l=>.ok ⟨9,[],[],0,[],ls⟩ l by simp[zCp]] at HP
  go_wp2_with fail
  refine (zOr N R M en names _ _ HS.out.rd HS.out.nm HNE.out).mono ?_;intro e w4 hp;rcases hs:zAr en (litP en names) q2 with ⟨ls,qz⟩ | ⟨x,er⟩ <;> rw[hs] at hp
  rotate_left
  ·obtain⟨rfl,hfr⟩:=hp
   replace HS:=hid9 (HS.out.fr.trans hfr)
   replace HP:=hbad HP hs
   clear hs hfr;go_wp2
   exact⟨rfl,by rw[HP.out];exact⟨rfl,HS.out⟩⟩
  obtain⟨v4,rfl,ho,hrd,hfr⟩:=hp;have HO:=hid9 (zBG ho HS.out.base);obtain⟨a4,c4,hv⟩:=zAC ho;subst hv
  replace HS:=hid9 (HS.out.call hfr hrd)
  replace HP:=zEV HP hs
  clear ho hs hrd hfr;have r5:=blk9 HS.out.con 5 _ rfl;have z5:=frz9 HS.out.con 5
  replace HS:=hid9 (HS.out.lits HO.out)
  clear HO
 case' inr.inr.inr.inr.inr.inr.inl =>
  rw[show zCp en names 10 q2=(zA1 en names q2).bind fun a l=>(litP en names l).bind fun t l=>.ok ⟨10,[a],[],0,[],[t]⟩ l by simp[zCp]] at HP
  go_wp2_with fail
  refine (zCk N R M en names _ _ HS.out.rd HS.out.nm HNE.out).mono ?_;intro e w4 hp;rcases hs:zA1 en names q2 with ⟨a,q3⟩ | ⟨x,er⟩ <;> rw[hs] at hp
  rotate_left
  ·obtain⟨rfl,hfr⟩:=hp
   replace HS:=hid9 (HS.out.fr.trans hfr)
   replace HP:=hbad HP hs
   clear hs hfr;go_wp2
   exact⟨rfl,by rw[HP.out];exact⟨rfl,HS.out⟩⟩
  obtain⟨v4,rfl,rfl,hrd,hfr⟩:=hp
  replace HS:=hid9 (HS.out.call hfr hrd)
  replace HP:=zEV HP hs
  clear hs hrd hfr;have r1:=blk9 HS.out.con 1 _ rfl;have z1:=frz9 HS.out.con 1;have hCl:w3.heap.size<w4.heap.size:=(Array.getElem?_eq_some_iff.1 HS.out.con).1
  replace HS:=hid9 (HS.out.varsLit [a] (by simp))
  go_wp2_with fail
  refine (zMl N R M en names _ _ HS.out.rd HS.out.nm HNE.out).mono ?_;intro e w5 hp;rcases hs:litP en names q3 with ⟨t,qz⟩ | ⟨x,er⟩ <;> rw[hs] at hp
  rotate_left
  ·obtain⟨rfl,hfr⟩:=hp
   replace HS:=hid9 (HS.out.fr.trans hfr)
   replace HP:=hbad HP hs
   clear hs hfr;go_wp2
   exact⟨rfl,by rw[HP.out];exact⟨rfl,HS.out⟩⟩
  obtain⟨v5,rfl,rfl,hrd,hfr⟩:=hp;unfold litA
  replace HS:=hid9 (HS.out.call hfr hrd)
  replace HP:=zEV HP hs
  clear hs hrd hfr;have r5:=blk9 HS.out.con 5 _ rfl;have z5:=frz9 HS.out.con 5;have hCl5:w3.heap.size<w5.heap.size:=(Array.getElem?_eq_some_iff.1 HS.out.con).1
  replace HS:=hid9 (HS.out.litLit t)
 case' inr.inr.inr.inr.inr.inr.inr.inr =>
  rw[zNe en names k q2 hk] at HP;obtain⟨k1,k2,k3,k4,k5,k6,k7,k8,k9,k10⟩:=hk;obtain⟨qz,hqz⟩:∃qz,q2=qz:=⟨_,rfl⟩;rw[hqz] at HP HS;clear hqz
 case' inr.inr.inr.inr.inr.inr.inr.inl =>
  rw[show zCp en names 8 q2=(zA1 en names q2).bind fun a l=>(zAr en (zA1 en names) l).bind fun vs l=>.ok ⟨8,[a]++vs,[],0,[],[]⟩ l by simp[zCp]] at HP
  go_wp2_with fail
  refine (zCk N R M en names _ _ HS.out.rd HS.out.nm HNE.out).mono ?_;intro e w4 hp;rcases hs:zA1 en names q2 with ⟨a,q3⟩ | ⟨x,er⟩ <;> rw[hs] at hp
  rotate_left
  ·obtain⟨rfl,hfr⟩:=hp
   replace HS:=hid9 (HS.out.fr.trans hfr)
   replace HP:=hbad HP hs
   clear hs hfr;go_wp2
   exact⟨rfl,by rw[HP.out];exact⟨rfl,HS.out⟩⟩
  obtain⟨v4,rfl,rfl,hrd,hfr⟩:=hp
  replace HS:=hid9 (HS.out.call hfr hrd)
  replace HP:=zEV HP hs
  clear hs hrd hfr;have r1:=blk9 HS.out.con 1 _ rfl;have z1:=frz9 HS.out.con 1;have hCl:w3.heap.size<w4.heap.size:=(Array.getElem?_eq_some_iff.1 HS.out.con).1
  replace HS:=hid9 (HS.out.varsLit [a] (by simp))
  go_wp2_with fail
  obtain⟨W,hW⟩:∃W,((w4.setCell ⟨w3.heap.size,1,none⟩ (.slice (some ⟨w4.heap.size,0,none⟩) 1 1)).alloc (.cells #[.int .i64 a] 3))=W:=⟨_,rfl⟩
  replace HS:=hid9 HS.out
  have HS0:=HS.out;simp only[List.map_cons,List.map_nil,List.length_cons,List.length_nil,Nat.zero_add] at HS0;rw[hW] at HS0 ⊢;have c1:W.cell? ⟨w3.heap.size,1,none⟩=some (.slice (some ⟨w4.heap.size,0,none⟩) 1 1):=blk9 HS0.con 1 _ rfl;have HSD:=hid9 (HS0.below (Below.refl _ _).drew);have hvar:=zC7 N R M en names W.drew q3 HSD.out.rd HSD.out.nm HNE.out;have HSL:=hid9 HS0.rd.len;clear hW r1 z1 HS HS0;rcases hs:zAr en (zA1 en names) q3 with ⟨vs,qz⟩ | ⟨x,er⟩ <;> rw[hs] at hvar
  rotate_left
  ·replace HP:=hbad HP hs
   clear hs;refine wp_region_held_drew (S:=fun w'=>w'=W.drew) (by kernel_rfl) rfl (fun hHeld=>?_)
   refine wpAnyH_take (i:=0) (v:=?v0) rfl (by kernel_rfl) (by kernel_rfl) (by kernel_rfl) (fun _ _ _ h=>h) (Or.inl ⟨by rfl,?y0⟩) rfl ?r0
   case y0=>intro wq hSw;subst hSw;go_simp;with_reducible rfl
   refine wpAnyH_take (i:=1) (v:=?v1) rfl (by kernel_rfl) (by kernel_rfl) (by kernel_rfl) (fun _ _ _ h=>h) (Or.inl ⟨by rfl,?y1⟩) rfl ?r1
   case y1=>intro wq hSw;subst hSw;go_simp;with_reducible rfl
   refine wpAnyH_take (i:=2) (v:=?v2) rfl (by kernel_rfl) (by kernel_rfl) (by kernel_rfl) (fun _ _ _ h=>h) (Or.inl ⟨by rfl,?y2⟩) rfl ?r2
   case y2=>intro wq hSw;subst hSw;go_simp;with_reducible rfl
   refine wpAnyH_ready (rs:=[3]) (by kernel_rfl) (by simp) ?_
   refine AllReadyH.cons rfl (fun K hK=>?_) AllReadyH.nil
   clear hK;go_simp
   refine hvar.mono ?_;rintro e w5 ⟨rfl,hfr⟩;have hfr2:=HSD.out.fr.trans hfr;clear hvar hfr;go_wp2
   exact⟨rfl,by rw[HP.out];exact⟨rfl,hfr2⟩⟩
  have HVL:Hid (vs.length≤4000):=by have h1:=zOu (zER en names) hs;have h2:=HSL.out;show _≤_;omega
  replace HP:=zEV HP hs
  clear hs HSL;obtain⟨vn,hvn⟩:∃vn,[a]++vs=vn:=⟨_,rfl⟩;have HVN:=hid9 hvn;rw[hvn] at HP;clear hvn;go_region_law
   (first
     | (rw[if_pos (by rfl)];refine zHP _ _ rfl w.heap.size _ [a] rfl HT.own.1 _ vs rfl _ ho5 ?_ ?_ ?_;(have:=HVL.out;simp;omega);exact HT.base;intro v6 w6 hown6 hg6;have HU:=HT.append8 hown6 hg6;rw[HVN.out] at hown6 HU;have d1:=blk9 HU.2 1 _ rfl;have z1:=frz9 HU.2 1;obtain⟨a6,b6,hv6⟩:=zAC hown6;subst hv6)
     | (rw[if_pos (by rfl)];go_simp;go_at_call 264;refine hvar.mono ?_;rintro e w5 ⟨v5,rfl,⟨ho5,_⟩,hrd5,hfr5⟩;have HT:=HSD.out.call hfr5 hrd5;have c5:=blk9 HT.con 1 _ rfl;obtain⟨a5,d5,hv5⟩:=zAC ho5;subst hv5;dsimp only))
  all_goals
   have HS:=hid9 HU.1;clear HT HU hg6 d1 z1 hown6 hvar c5 ho5 HSD HVL hrd5 hfr5 c1 HVN
 all_goals
  replace HP:=hend HP rfl
  go_wp2_with fail
  refine (zAp N R M en zB6 zDD _ qz HS.out.rd).mono ?_;intro e w9 hp;rcases hs:zAY en zB6 qz with ⟨t9,q9⟩ | ⟨x,er⟩ <;> rw[hs] at hp
  rotate_left
  ·obtain⟨rfl,hfr⟩:=hp
   replace HS:=hid9 (HS.out.fr.trans hfr)
   replace HP:=zSK HP hs
   clear hs hfr;go_wp2
   exact⟨rfl,by rw[HP.out];exact⟨rfl,HS.out⟩⟩
  obtain⟨v,rfl,rfl,hrd,hfr⟩:=hp;have HT:=hid9 (HS.out.call hfr hrd)
  replace HP:=hend HP hs
  clear HS hs hrd hfr;have a0:=blk9 HT.out.con 0 _ rfl;have b0:=blk9 HT.out.res 0 _ rfl;have z0:=frz9 HT.out.res 0;have a1:=blk9 HT.out.con 1 _ rfl;have b1:=blk9 HT.out.res 1 _ rfl;have z1:=frz9 HT.out.res 1;have a2:=blk9 HT.out.con 2 _ rfl;have b2:=blk9 HT.out.res 2 _ rfl;have z2:=frz9 HT.out.res 2;have a3:=blk9 HT.out.con 3 _ rfl;have b3:=blk9 HT.out.res 3 _ rfl;have z3:=frz9 HT.out.res 3;have a4:=blk9 HT.out.con 4 _ rfl;have b4:=blk9 HT.out.res 4 _ rfl;have z4:=frz9 HT.out.res 4;have a5:=blk9 HT.out.con 5 _ rfl;have b5:=blk9 HT.out.res 5 _ rfl;have z5:=frz9 HT.out.res 5;go_wp2
  refine bodyPost_ret (by simp[results,Tryz.results222,go_sem, *];try rfl) rfl ?_
  rw[HP.out];obtain⟨e1,e2,e3⟩:=HT.out.endd _ _ _ _ _ _ _ rfl;exact⟨_,rfl,⟨_,_,_,_,rfl,e1⟩,e2,e3⟩
end Go.Proofs.YtndcpnlaadikoaaGreatDoor
