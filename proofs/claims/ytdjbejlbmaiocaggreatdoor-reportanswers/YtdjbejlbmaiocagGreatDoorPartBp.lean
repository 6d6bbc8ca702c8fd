/- What the proof leans on, part 42. -/
import Derived.Test.YtdjbejlbmaiocagGreatDoorPartBo
import Derived.Deep.CutBlock
import Derived.Deep.DeepCutAuto
import Derived.Deep.RegionLaw
set_option maxRecDepth 100000
set_option maxHeartbeats 4000000
namespace Go.Proofs.YtdjbejlbmaiocagGreatDoor
open Go.RowKit
theorem ConT.pushLit {c:RC} {w0 w w':World} {p:RP} {vv vc vr vl v':Value} {k:MCon} {x:MLit} {n:Nat} (h:ConT c w0 w p vv vc vr vl k) (hg:(w.alloc (.cells #[.int .i64 x.var,.int .i64 x.op,.int .i64 x.n] 88)).grownBy w' vl.ownBlock) (hn:n=k.lits.length+1) (ho:w'.ownsRow w0.heap.size 88 3 v' n (k.lits.flatMap litC++litC x)) :
 ConT c w0 (w'.setCell ⟨w0.heap.size+1,5,none⟩ v') p vv vc vr v' { k with lits:=k.lits++[x] }∧w'.heap[w0.heap.size+1]? = some (.cells #[.int .i64 k.kind,vv,vc,.int .i64 k.n,vr,vl] 73):=by
 have hv:=h.own.2.2.2;have hk:=zA6 (((zAA w _).block _ (Array.getElem?_eq_some_iff.1 h.con).1).trans h.con) hg (hv.alloc _) (by decide)
 have ho2:w'.ownsRow w0.heap.size 88 3 v' (k.lits++[x]).length ((k.lits++[x]).flatMap litC):=by
  rw[List.length_append,List.length_singleton,←hn,List.flatMap_append];simpa using ho
 have o1:=(h.own.1.alloc (.cells #[.int .i64 x.var,.int .i64 x.op,.int .i64 x.n] 88)).kept hg (zFU h.own.1 hv (by decide))
 have o2:=(h.own.2.1.alloc (.cells #[.int .i64 x.var,.int .i64 x.op,.int .i64 x.n] 88)).kept hg (zFU h.own.2.1 hv (by decide))
 have o3:=h.own.2.2.1.kept hv (by decide) (by decide) hg
 refine⟨⟨?_,?_,?_,?_,h.Rw,h.Nw,h.NBw,?_⟩,hk⟩
 ·exact ((h.st.below (zAA _ _)).grown hg (fun j hj=>by have h1:=(hv.lt j hj).1;have h2:=h.Rw;have h3:=h.Nw;have h4:=h.NBw;exact⟨by omega,by omega,by omega⟩)).set (q:=⟨w0.heap.size+1,5,none⟩) (by have:=h.Rw;show w0.heap.size+1≠c.R;omega) (by have:=h.Nw;show c.N≤w0.heap.size+1;omega) (by have:=h.NBw;show c.NB≤w0.heap.size+1;omega) _
 ·exact ((h.fr.alloc _).grown hg (fun j hj=>Or.inr ((hv.lt j hj).1))).setNew (p:=⟨w0.heap.size+1,5,none⟩) (by show w0.heap.size≤w0.heap.size+1;omega) _
 ·exact (Below.heap_setCell _ _ _ _ (by show w0.heap.size≠w0.heap.size+1;omega)).trans (zA6 (((zAA w _).block _ (Array.getElem?_eq_some_iff.1 h.res).1).trans h.res) hg (hv.alloc _) (by decide))
 ·rw[heap_setCell_same w' _ 5 _ _ _ hk];rfl
 ·exact ConR.set (c:={ k with lits:=k.lits++[x] }) ⟨o1,o2,o3,ho2⟩ hk 5 v'
theorem ConT.pushRow {c:RC} {w0 w w':World} {p:RP} {vv vc vr vl v' xv:Value} {k:MCon} {x:List Int} {n:Nat} {cells:List Value} (h:ConT c w0 w p vv vc vr vl k) (h1:w.ownsRow w0.heap.size 26 1 vr k.rows.length cells) (h2:∀(i:Nat) (r:List Int),k.rows[i]? = some r→∃x,cells[i]? = some x∧w.ownsRow w0.heap.size 3 1 x r.length (r.map (Value.int .i64)))
 (hx:w.ownsRow w0.heap.size 3 1 xv x.length (x.map (Value.int .i64))) (hg:(w.alloc (.cells #[xv] 26)).grownBy w' vr.ownBlock) (hn:n=k.rows.length+1) (ho:w'.ownsRow w0.heap.size 26 1 v' n (cells++[xv])) :
 ConT c w0 (w'.setCell ⟨w0.heap.size+1,4,none⟩ v') p vv vc v' vl { k with rows:=k.rows++[x] }∧w'.heap[w0.heap.size+1]? = some (.cells #[.int .i64 k.kind,vv,vc,.int .i64 k.n,vr,vl] 73):=by
 have hk:=zA6 (((zAA w _).block _ (Array.getElem?_eq_some_iff.1 h.con).1).trans h.con) hg (h1.alloc _) (by decide)
 have o3:LSr w0.heap.size w0.heap.size w' v' (k.rows++[x]):=LSr.push h1 h2 hx (by rw[←hn];exact ho) hg
 have o1:=(h.own.1.alloc (.cells #[xv] 26)).kept hg (zFU h.own.1 h1 (by decide))
 have o2:=(h.own.2.1.alloc (.cells #[xv] 26)).kept hg (zFU h.own.2.1 h1 (by decide))
 have o4:=(h.own.2.2.2.alloc (.cells #[xv] 26)).kept hg (zFU h.own.2.2.2 h1 (by decide))
 refine⟨⟨?_,?_,?_,?_,h.Rw,h.Nw,h.NBw,?_⟩,hk⟩
 ·exact ((h.st.below (zAA _ _)).grown hg (fun j hj=>by have h1:=(h1.lt j hj).1;have h2:=h.Rw;have h3:=h.Nw;have h4:=h.NBw;exact⟨by omega,by omega,by omega⟩)).set (q:=⟨w0.heap.size+1,4,none⟩) (by have:=h.Rw;show w0.heap.size+1≠c.R;omega) (by have:=h.Nw;show c.N≤w0.heap.size+1;omega) (by have:=h.NBw;show c.NB≤w0.heap.size+1;omega) _
 ·exact ((h.fr.alloc _).grown hg (fun j hj=>Or.inr ((h1.lt j hj).1))).setNew (p:=⟨w0.heap.size+1,4,none⟩) (by show w0.heap.size≤w0.heap.size+1;omega) _
 ·exact (Below.heap_setCell _ _ _ _ (by show w0.heap.size≠w0.heap.size+1;omega)).trans (zA6 (((zAA w _).block _ (Array.getElem?_eq_some_iff.1 h.res).1).trans h.res) hg (h1.alloc _) (by decide))
 ·rw[heap_setCell_same w' _ 4 _ _ _ hk];rfl
 ·exact ConR.set (c:={ k with rows:=k.rows++[x] }) ⟨o1,o2,o3,o4⟩ hk 4 v'
theorem ConT.push8 {c:RC} {w0 w w':World} {p:RP} {g:Nat} {v':Value} {xs:List Int} {ys:List Value} (h:ConT c w0 w p (.slice none 0 0) (.slice none 0 0) (.slice none 0 0) (.slice none 0 0) ⟨8,[],[],0,[],[]⟩) (hr:w.ownsRow w0.heap.size 3 1 (.slice (some ⟨g,0,none⟩) 1 1) 1 ys) (hg:w.grownBy w' (some g)) (ho:w'.ownsRow w0.heap.size 3 1 v' xs.length (xs.map (Value.int .i64))) :
 ConT c w0 (w'.setCell ⟨w0.heap.size+1,1,none⟩ v') p v' (.slice none 0 0) (.slice none 0 0) (.slice none 0 0) ⟨8,xs,[],0,[],[]⟩∧w'.heap[w0.heap.size+1]? = some (.cells #[.int .i64 8,.slice none 0 0,.slice none 0 0,.int .i64 0,.slice none 0 0,.slice none 0 0] 73):=by
 have hgl:=(hr.lt g rfl).1;have e1:w0.heap.size+1≠g:=zEO hr h.con (by decide)
 have e2:w0.heap.size≠g:=zEO hr h.res (by decide)
 have hcon:=(hg.block _ (Array.getElem?_eq_some_iff.1 h.con).1 (fun e=>e1 (Option.some.inj e))).trans h.con
 have hT:ConT c w0 w' p (.slice none 0 0) (.slice none 0 0) (.slice none 0 0) (.slice none 0 0) ⟨8,[],[],0,[],[]⟩ :=
  ⟨h.st.grown hg (fun j hj=>by cases hj;have h2:=h.Rw;have h3:=h.Nw;have h4:=h.NBw;exact⟨by omega,by omega,by omega⟩),h.fr.grown hg (fun j hj=>by cases hj;exact Or.inr hgl),(hg.block _ (Array.getElem?_eq_some_iff.1 h.res).1 (fun e=>e2 (Option.some.inj e))).trans h.res,hcon,h.Rw,h.Nw,h.NBw,ConR.none _ _ _⟩
 exact⟨hT.vars ho,hcon⟩
theorem zOD {α:Type} (en:Int) (T:List Tok) (item:RP→α×RP):∀(f:Nat) (acc:List α) (q:Bool×RP),(zCJ en T item f acc q).1.length≤acc.length+f
 | 0,acc,q=>by unfold zCJ;exact Nat.le_refl _
 | f+1,acc,q=>by
   unfold zCJ
   split
   ·have:=zOD en T item f (acc++[(item q.2).1]) (zBK en T (item q.2).2)
    simp at this;omega
   ·show acc.length≤_;omega
theorem zSx {α:Type} (en:Int) (T:List Tok) (item:RP→α×RP) (p:RP):(zAV en T item p).1.length≤T.length+2:=by
 have:=zOD en T item (T.length+2) [] (zDA en T p);unfold zAV;simpa using this
def zCp (w:World) (a:Addr):Nat:=match w.cell? a with | some v=>zNH v | none=>0
theorem zL9 {α:Type} {en:Int} {T:List Tok} {item:RP→α×RP} (h:zHX item):zHX (zAV en T item):=fun p=>by
 have h1:∀(s:ByteArray) p,p.k≤(zAU en T s p).k:=zKA en T;have h2:∀(p:RP),p.k≤(zDA en T p).2.k:=fun p=>by
  unfold zDA
  split
  ·exact Nat.le_trans (h1 _ p) (h1 _ _)
  ·exact h1 _ p
 have h3:∀(p:RP),p.k≤(zBK en T p).2.k:=fun p=>by
  unfold zBK
  split
  ·exact h1 _ p
  ·exact h1 _ p
 have h4:∀(f:Nat) (acc:List α) (q:Bool×RP),q.2.k≤(zCJ en T item f acc q).2.k:=by
  intro f
  induction f with
  | zero=>intro acc q;unfold zCJ;exact Nat.le_refl _
  | succ f ih =>
    intro acc q;unfold zCJ
    split
    ·exact Nat.le_trans (h q.2) (Nat.le_trans (h3 _) (ih _ _))
    ·exact Nat.le_refl _
 exact Nat.le_trans (h2 p) (h4 _ _ _)
theorem zRP (c:RC) (p:RP) (w:World) (h:RSt c p w) :
 Calls Tryz.prog 62 #[.pointer (some ⟨c.R,0,none⟩)] w fun e w'=>∃vv vc vr vl,e=.returned (conV vv vc vr vl (conR c.en c.T c.nm p).1)∧ConR w.heap.size w' vv vc vr vl (conR c.en c.T c.nm p).1∧RSt c (conR c.en c.T c.nm p).2 w'∧Fr (XR9 c.R) w w':=by
 have HS:Hid (RSt c p w):=h;obtain⟨Q,hQ⟩:∃Q,conR c.en c.T c.nm p=Q:=⟨_,rfl⟩;rw[hQ];have HQ:Hid (Q=zFZ c.en c.T c.nm (1+(zAn c.en c.T p zBy.tail 0).1) (zAn c.en c.T p zBy.tail 0).2):=hQ.symm;have hT4:c.T.length≤4000:=by obtain⟨v,_,a,c,_,_,ht,_⟩:=h.blk;exact ht.1
 have hlt:=h.lt;have HNW:Hid (c.N≤w.heap.size∧c.NB≤w.heap.size):=⟨h.Nw,h.nb⟩;obtain⟨iR,hiR,hzR0,hzR1,hzR2⟩:=info_parts Tryz.infoRow5;obtain⟨iL,hiL,hzL0,hzL1,hzL2⟩:=info_parts Tryz.infoLit5;obtain⟨iI,hiI,hzI0,hzI1,hzI2⟩:=info_parts Tryz.infoInt5;clear h hQ;have HB0:Hid (Below w.heap.size w ((w.alloc (.cells #[.int .i64 0,.slice none 0 0,.slice none 0 0,.int .i64 0,.slice none 0 0,.slice none 0 0] 73)).alloc (.cells #[.int .i64 0,.slice none 0 0,.slice none 0 0,.int .i64 0,.slice none 0 0,.slice none 0 0] 73))):=(zAA _ _).alloc (by simp) _
 have HK0:Hid (((w.alloc (.cells #[.int .i64 0,.slice none 0 0,.slice none 0 0,.int .i64 0,.slice none 0 0,.slice none 0 0] 73)).alloc (.cells #[.int .i64 0,.slice none 0 0,.slice none 0 0,.int .i64 0,.slice none 0 0,.slice none 0 0] 73)).heap[w.heap.size]? = some (.cells #[.int .i64 0,.slice none 0 0,.slice none 0 0,.int .i64 0,.slice none 0 0,.slice none 0 0] 73)):=((zAA (w.alloc (.cells #[.int .i64 0,.slice none 0 0,.slice none 0 0,.int .i64 0,.slice none 0 0,.slice none 0 0] 73)) (.cells #[.int .i64 0,.slice none 0 0,.slice none 0 0,.int .i64 0,.slice none 0 0,.slice none 0 0] 73)).block w.heap.size (by simp)).trans (heap_alloc_new w _)
 have HK1:Hid (((w.alloc (.cells #[.int .i64 0,.slice none 0 0,.slice none 0 0,.int .i64 0,.slice none 0 0,.slice none 0 0] 73)).alloc (.cells #[.int .i64 0,.slice none 0 0,.slice none 0 0,.int .i64 0,.slice none 0 0,.slice none 0 0] 73)).heap[w.heap.size+1]? = some (.cells #[.int .i64 0,.slice none 0 0,.slice none 0 0,.int .i64 0,.slice none 0 0,.slice none 0 0] 73)):=by
  have h:=heap_alloc_new (w.alloc (.cells #[.int .i64 0,.slice none 0 0,.slice none 0 0,.int .i64 0,.slice none 0 0,.slice none 0 0] 73)) (.cells #[.int .i64 0,.slice none 0 0,.slice none 0 0,.int .i64 0,.slice none 0 0,.slice none 0 0] 73);rw[World.size_alloc] at h;exact h
 have HZS:Hid (((w.alloc (.cells #[.int .i64 0,.slice none 0 0,.slice none 0 0,.int .i64 0,.slice none 0 0,.slice none 0 0] 73)).alloc (.cells #[.int .i64 0,.slice none 0 0,.slice none 0 0,.int .i64 0,.slice none 0 0,.slice none 0 0] 73)).heap.size=w.heap.size+1+1):=by show _=_;simp
 obtain⟨Y,hY⟩:∃Y,(w.alloc (.cells #[.int .i64 0,.slice none 0 0,.slice none 0 0,.int .i64 0,.slice none 0 0,.slice none 0 0] 73)).alloc (.cells #[.int .i64 0,.slice none 0 0,.slice none 0 0,.int .i64 0,.slice none 0 0,.slice none 0 0] 73)=Y:=⟨_,rfl⟩;rw[hY] at HB0 HK0 HK1 HZS;have HY:Hid ((w.alloc (.cells #[.int .i64 0,.slice none 0 0,.slice none 0 0,.int .i64 0,.slice none 0 0,.slice none 0 0] 73)).alloc (.cells #[.int .i64 0,.slice none 0 0,.slice none 0 0,.int .i64 0,.slice none 0 0,.slice none 0 0] 73)=Y):=hY;clear hY;have HSA:Hid (SArg (Y.alloc (.cells (zBy.tail.map Value.string).toArray 9)) (.slice (some ⟨w.heap.size+1+1,0,none⟩) 10 10) zBy.tail):=zSq Y zBy.tail _ HZS.out.symm (by decide)
 go_enter Tryz.func62,Tryz.ntmps62
 go_wp2_with fail
 rw[HY.out];refine (zIw c p zBy.tail zPN _ _ ?_ HSA.out).mono ?_
 ·exact (HS.out.below HB0.out).below (zAA _ _)
 rintro e w1 ⟨rfl,h1,hf1⟩;have HWB:Hid (0≤(zAn c.en c.T p zBy.tail 0).1∧(zAn c.en c.T p zBy.tail 0).1≤((0+zBy.tail.length:Nat):Int)):=zHE c.en c.T p zBy.tail 0;obtain⟨q,hq⟩:∃q,zAn c.en c.T p zBy.tail 0=q:=⟨_,rfl⟩;rw[hq] at HQ h1 HWB ⊢;obtain⟨o,p1⟩:=q;clear hq
 dsimp only at HQ h1 HWB ⊢
 have ho:0≤o∧o≤10:=by have h:=HWB.out;have e:zBy.tail.length=10:=rfl;rw[e] at h;omega
 have hfw:Fr (XR9 c.R) Y w1:=(Fr.below (zAA _ _)).trans hf1;have HS1:Hid (ConT c w w1 p1 (.slice none 0 0) (.slice none 0 0) (.slice none 0 0) (.slice none 0 0) ⟨0,[],[],0,[],[]⟩):=by
  have hl:w.heap.size+1<Y.heap.size:=(Array.getElem?_eq_some_iff.1 HK1.out).1;exact⟨h1,(Fr.below HB0.out).trans hfw,(hfw.block _ (by omega) (by show ¬_=_;omega)).trans HK0.out,(hfw.block _ hl (by show ¬_=_;omega)).trans HK1.out,hlt,HNW.out.1,HNW.out.2,ConR.none _ _ _⟩
 have c0:w1.cell? ⟨w.heap.size+1,0,none⟩=some (.int .i64 0):=blk9 HS1.out.con 0 _ rfl;have z0:=frz9 HS1.out.con 0;obtain⟨k,hk⟩:∃k:Int,1+o=k:=⟨_,rfl⟩;have hwk:IntKind.i64.wrap (1+o)=k:=by rw[IntKind.wrap_i64];omega
 have HS2:Hid (ConT c w (w1.setCell ⟨w.heap.size+1,0,none⟩ (.int .i64 k)) p1 (.slice none 0 0) (.slice none 0 0) (.slice none 0 0) (.slice none 0 0) ⟨k,[],[],0,[],[]⟩):=HS1.out.kind k;rw[hk] at HQ;have hk1:1≤k∧k≤11:=by omega
 clear h1 hf1 hfw HS1 HB0 HK0 HK1 HZS HSA HY HS;go_upto_block 0 with (fail)
 obtain⟨y0,hy0⟩:∃y0,w1.setCell ⟨w.heap.size+1,0,none⟩ (.int .i64 k)=y0:=⟨_,rfl⟩;rw[hy0] at HS2 ⊢;clear c0 z0 hwk hk hy0 HWB ho;go_cut [] (fun wx=>Hid (∃vv vc vr vl,ConT c w wx Q.2 vv vc vr vl Q.1))
 case first =>
  have hcases:k=1∨k=2∨k=3∨k=4∨k=5∨k=6∨k=7∨k=8∨k=9∨k=10∨k=11:=by omega
  clear hk1;rcases hcases with hkk | hkk | hkk | hkk | hkk | hkk | hkk | hkk | hkk | hkk | hkk
  ·subst hkk
   have HE:Hid (Q=(⟨1,(zAV c.en c.T (vR c.en c.T c.nm) (zAV c.en c.T (kR c.en c.T) p1).2).1,(zAV c.en c.T (kR c.en c.T) p1).1,(kR c.en c.T (zAV c.en c.T (vR c.en c.T c.nm) (zAV c.en c.T (kR c.en c.T) p1).2).2).1,[],[]⟩,(kR c.en c.T (zAV c.en c.T (vR c.en c.T c.nm) (zAV c.en c.T (kR c.en c.T) p1).2).2).2)):=by show _=_;rw[HQ.out];unfold zFZ;rw[if_pos (by decide)]
   clear HQ;go_wp2_with fail
   refine (zIy c p1 _ HS2.out.st).mono ?_;rintro e w2 ⟨v2,rfl,hown,hst,hfr⟩;obtain⟨q,hq⟩:∃q,zAV c.en c.T (kR c.en c.T) p1=q:=⟨_,rfl⟩;rw[hq] at hown hst HE;obtain⟨cs,p2⟩:=q;clear hq
   dsimp only at hown hst HE
   have HO:Hid (w2.ownsRow w.heap.size 3 1 v2 cs.length (cs.map (Value.int .i64))):=zAi hown HS2.out.base;obtain⟨a2,c2,hv⟩:=zAB hown;subst hv;clear hown;have HS3:Hid (ConT c w w2 p2 (.slice none 0 0) (.slice none 0 0) (.slice none 0 0) (.slice none 0 0) ⟨1,[],[],0,[],[]⟩):=HS2.out.call hfr hst;clear hst hfr HS2;have k0:w2.cell? ⟨w.heap.size+1,2,none⟩=some (.slice none 0 0):=blk9 HS3.out.con 2 _ rfl;have z0:=frz9 HS3.out.con 2;have HS4:Hid (ConT c w (w2.setCell ⟨w.heap.size+1,2,none⟩ (.slice a2 cs.length c2)) p2 (.slice none 0 0) (.slice a2 cs.length c2) (.slice none 0 0) (.slice none 0 0) ⟨1,[],cs,0,[],[]⟩):=HS3.out.consts HO.out;clear HS3;go_wp2_with fail
   refine (zHD c p2 _ HS4.out.st).mono ?_;rintro e w3 ⟨v3,rfl,hown,hst,hfr⟩;obtain⟨q,hq⟩:∃q,zAV c.en c.T (vR c.en c.T c.nm) p2=q:=⟨_,rfl⟩;rw[hq] at hown hst HE;obtain⟨vs,p3⟩:=q;clear hq
   dsimp only at hown hst HE
   have HO:Hid (w3.ownsRow w.heap.size 3 1 v3 vs.length (vs.map (Value.int .i64))):=zAi hown HS4.out.base;obtain⟨a3,c3,hv⟩:=zAB hown;subst hv;clear hown;have HS5:Hid (ConT c w w3 p3 (.slice none 0 0) (.slice a2 cs.length c2) (.slice none 0 0) (.slice none 0 0) ⟨1,[],cs,0,[],[]⟩):=HS4.out.call hfr hst;clear hst hfr HS4;have k0:w3.cell? ⟨w.heap.size+1,1,none⟩=some (.slice none 0 0):=blk9 HS5.out.con 1 _ rfl;have z0:=frz9 HS5.out.con 1;have HS6:Hid (ConT c w (w3.setCell ⟨w.heap.size+1,1,none⟩ (.slice a3 vs.length c3)) p3 (.slice a3 vs.length c3) (.slice a2 cs.length c2) (.slice none 0 0) (.slice none 0 0) ⟨1,vs,cs,0,[],[]⟩):=HS5.out.vars HO.out;clear HS5;go_wp2_with fail
   refine (zIx c p3 _ HS6.out.st).mono ?_;rintro e w4 ⟨rfl,hst,hfr⟩;obtain⟨q,hq⟩:∃q,kR c.en c.T p3=q:=⟨_,rfl⟩;rw[hq] at hst HE ⊢;obtain⟨n,p4⟩:=q;clear hq
   dsimp only at hst HE ⊢
   have HS7:Hid (ConT c w w4 p4 (.slice a3 vs.length c3) (.slice a2 cs.length c2) (.slice none 0 0) (.slice none 0 0) ⟨1,vs,cs,0,[],[]⟩):=HS6.out.call hfr hst;clear hst hfr HS6;have k0:w4.cell? ⟨w.heap.size+1,3,none⟩=some (.int .i64 0):=blk9 HS7.out.con 3 _ rfl;have z0:=frz9 HS7.out.con 3;have HS8:Hid (ConT c w (w4.setCell ⟨w.heap.size+1,3,none⟩ (.int .i64 n)) p4 (.slice a3 vs.length c3) (.slice a2 cs.length c2) (.slice none 0 0) (.slice none 0 0) ⟨1,vs,cs,n,[],[]⟩):=HS7.out.n n;clear HS7;go_wp2_with fail
   go_meet
   refine⟨(.slice a3 vs.length c3),(.slice a2 cs.length c2),(.slice none 0 0),(.slice none 0 0),?_⟩;rw[HE.out];exact HS8.out
  ·subst hkk
   have HE:Hid (Q=(⟨2,(zAV c.en c.T (vR c.en c.T c.nm) (zAV c.en c.T (kR c.en c.T) p1).2).1,(zAV c.en c.T (kR c.en c.T) p1).1,(kR c.en c.T (zAV c.en c.T (vR c.en c.T c.nm) (zAV c.en c.T (kR c.en c.T) p1).2).2).1,[],[]⟩,(kR c.en c.T (zAV c.en c.T (vR c.en c.T c.nm) (zAV c.en c.T (kR c.en c.T) p1).2).2).2)):=by show _=_;rw[HQ.out];unfold zFZ;rw[if_pos (by decide)]
   clear HQ;go_wp2_with fail
   refine (zIy c p1 _ HS2.out.st).mono ?_;rintro e w2 ⟨v2,rfl,hown,hst,hfr⟩;obtain⟨q,hq⟩:∃q,zAV c.en c.T (kR c.en c.T) p1=q:=⟨_,rfl⟩;rw[hq] at hown hst HE;obtain⟨cs,p2⟩:=q;clear hq
   dsimp only at hown hst HE
   have HO:Hid (w2.ownsRow w.heap.size 3 1 v2 cs.length (cs.map (Value.int .i64))):=zAi hown HS2.out.base;obtain⟨a2,c2,hv⟩:=zAB hown;subst hv;clear hown;have HS3:Hid (ConT c w w2 p2 (.slice none 0 0) (.slice none 0 0) (.slice none 0 0) (.slice none 0 0) ⟨2,[],[],0,[],[]⟩):=HS2.out.call hfr hst;clear hst hfr HS2;have k0:w2.cell? ⟨w.heap.size+1,2,none⟩=some (.slice none 0 0):=blk9 HS3.out.con 2 _ rfl;have z0:=frz9 HS3.out.con 2;have HS4:Hid (ConT c w (w2.setCell ⟨w.heap.size+1,2,none⟩ (.slice a2 cs.length c2)) p2 (.slice none 0 0) (.slice a2 cs.length c2) (.slice none 0 0) (.slice none 0 0) ⟨2,[],cs,0,[],[]⟩):=HS3.out.consts HO.out;clear HS3;go_wp2_with fail
   refine (zHD c p2 _ HS4.out.st).mono ?_;rintro e w3 ⟨v3,rfl,hown,hst,hfr⟩;obtain⟨q,hq⟩:∃q,zAV c.en c.T (vR c.en c.T c.nm) p2=q:=⟨_,rfl⟩;rw[hq] at hown hst HE;obtain⟨vs,p3⟩:=q;clear hq
   dsimp only at hown hst HE
   have HO:Hid (w3.ownsRow w.heap.size 3 1 v3 vs.length (vs.map (Value.int .i64))):=zAi hown HS4.out.base;obtain⟨a3,c3,hv⟩:=zAB hown;subst hv;clear hown;have HS5:Hid (ConT c w w3 p3 (.slice none 0 0) (.slice a2 cs.length c2) (.slice none 0 0) (.slice none 0 0) ⟨2,[],cs,0,[],[]⟩):=HS4.out.call hfr hst;clear hst hfr HS4;have k0:w3.cell? ⟨w.heap.size+1,1,none⟩=some (.slice none 0 0):=blk9 HS5.out.con 1 _ rfl;have z0:=frz9 HS5.out.con 1;have HS6:Hid (ConT c w (w3.setCell ⟨w.heap.size+1,1,none⟩ (.slice a3 vs.length c3)) p3 (.slice a3 vs.length c3) (.slice a2 cs.length c2) (.slice none 0 0) (.slice none 0 0) ⟨2,vs,cs,0,[],[]⟩):=HS5.out.vars HO.out;clear HS5;go_wp2_with fail
   refine (zIx c p3 _ HS6.out.st).mono ?_;rintro e w4 ⟨rfl,hst,hfr⟩;obtain⟨q,hq⟩:∃q,kR c.en c.T p3=q:=⟨_,rfl⟩;rw[hq] at hst HE ⊢;obtain⟨n,p4⟩:=q;clear hq
   dsimp only at hst HE ⊢
   have HS7:Hid (ConT c w w4 p4 (.slice a3 vs.length c3) (.slice a2 cs.length c2) (.slice none 0 0) (.slice none 0 0) ⟨2,vs,cs,0,[],[]⟩):=HS6.out.call hfr hst;clear hst hfr HS6;have k0:w4.cell? ⟨w.heap.size+1,3,none⟩=some (.int .i64 0):=blk9 HS7.out.con 3 _ rfl;have z0:=frz9 HS7.out.con 3;have HS8:Hid (ConT c w (w4.setCell ⟨w.heap.size+1,3,none⟩ (.int .i64 n)) p4 (.slice a3 vs.length c3) (.slice a2 cs.length c2) (.slice none 0 0) (.slice none 0 0) ⟨2,vs,cs,n,[],[]⟩):=HS7.out.n n;clear HS7;go_wp2_with fail
   go_meet
   refine⟨(.slice a3 vs.length c3),(.slice a2 cs.length c2),(.slice none 0 0),(.slice none 0 0),?_⟩;rw[HE.out];exact HS8.out
  ·subst hkk
   have HE:Hid (Q=(⟨3,(zAV c.en c.T (vR c.en c.T c.nm) (zAV c.en c.T (kR c.en c.T) p1).2).1,(zAV c.en c.T (kR c.en c.T) p1).1,(kR c.en c.T (zAV c.en c.T (vR c.en c.T c.nm) (zAV c.en c.T (kR c.en c.T) p1).2).2).1,[],[]⟩,(kR c.en c.T (zAV c.en c.T (vR c.en c.T c.nm) (zAV c.en c.T (kR c.en c.T) p1).2).2).2)):=by show _=_;rw[HQ.out];unfold zFZ;rw[if_pos (by decide)]
   clear HQ;go_wp2_with fail
   refine (zIy c p1 _ HS2.out.st).mono ?_;rintro e w2 ⟨v2,rfl,hown,hst,hfr⟩;obtain⟨q,hq⟩:∃q,zAV c.en c.T (kR c.en c.T) p1=q:=⟨_,rfl⟩;rw[hq] at hown hst HE;obtain⟨cs,p2⟩:=q;clear hq
   dsimp only at hown hst HE
   have HO:Hid (w2.ownsRow w.heap.size 3 1 v2 cs.length (cs.map (Value.int .i64))):=zAi hown HS2.out.base;obtain⟨a2,c2,hv⟩:=zAB hown;subst hv;clear hown;have HS3:Hid (ConT c w w2 p2 (.slice none 0 0) (.slice none 0 0) (.slice none 0 0) (.slice none 0 0) ⟨3,[],[],0,[],[]⟩):=HS2.out.call hfr hst;clear hst hfr HS2;have k0:w2.cell? ⟨w.heap.size+1,2,none⟩=some (.slice none 0 0):=blk9 HS3.out.con 2 _ rfl;have z0:=frz9 HS3.out.con 2;have HS4:Hid (ConT c w (w2.setCell ⟨w.heap.size+1,2,none⟩ (.slice a2 cs.length c2)) p2 (.slice none 0 0) (.slice a2 cs.length c2) (.slice none 0 0) (.slice none 0 0) ⟨3,[],cs,0,[],[]⟩):=HS3.out.consts HO.out;clear HS3;go_wp2_with fail
   refine (zHD c p2 _ HS4.out.st).mono ?_;rintro e w3 ⟨v3,rfl,hown,hst,hfr⟩;obtain⟨q,hq⟩:∃q,zAV c.en c.T (vR c.en c.T c.nm) p2=q:=⟨_,rfl⟩;rw[hq] at hown hst HE;obtain⟨vs,p3⟩:=q;clear hq
   dsimp only at hown hst HE
   have HO:Hid (w3.ownsRow w.heap.size 3 1 v3 vs.length (vs.map (Value.int .i64))):=zAi hown HS4.out.base;obtain⟨a3,c3,hv⟩:=zAB hown;subst hv;clear hown;have HS5:Hid (ConT c w w3 p3 (.slice none 0 0) (.slice a2 cs.length c2) (.slice none 0 0) (.slice none 0 0) ⟨3,[],cs,0,[],[]⟩):=HS4.out.call hfr hst;clear hst hfr HS4;have k0:w3.cell? ⟨w.heap.size+1,1,none⟩=some (.slice none 0 0):=blk9 HS5.out.con 1 _ rfl;have z0:=frz9 HS5.out.con 1;have HS6:Hid (ConT c w (w3.setCell ⟨w.heap.size+1,1,none⟩ (.slice a3 vs.length c3)) p3 (.slice a3 vs.length c3) (.slice a2 cs.length c2) (.slice none 0 0) (.slice none 0 0) ⟨3,vs,cs,0,[],[]⟩):=HS5.out.vars HO.out;clear HS5;go_wp2_with fail
   refine (zIx c p3 _ HS6.out.st).mono ?_;rintro e w4 ⟨rfl,hst,hfr⟩;obtain⟨q,hq⟩:∃q,kR c.en c.T p3=q:=⟨_,rfl⟩;rw[hq] at hst HE ⊢;obtain⟨n,p4⟩:=q;clear hq
   dsimp only at hst HE ⊢
   have HS7:Hid (ConT c w w4 p4 (.slice a3 vs.length c3) (.slice a2 cs.length c2) (.slice none 0 0) (.slice none 0 0) ⟨3,vs,cs,0,[],[]⟩):=HS6.out.call hfr hst;clear hst hfr HS6;have k0:w4.cell? ⟨w.heap.size+1,3,none⟩=some (.int .i64 0):=blk9 HS7.out.con 3 _ rfl;have z0:=frz9 HS7.out.con 3;have HS8:Hid (ConT c w (w4.setCell ⟨w.heap.size+1,3,none⟩ (.int .i64 n)) p4 (.slice a3 vs.length c3) (.slice a2 cs.length c2) (.slice none 0 0) (.slice none 0 0) ⟨3,vs,cs,n,[],[]⟩):=HS7.out.n n;clear HS7;go_wp2_with fail
   go_meet
   refine⟨(.slice a3 vs.length c3),(.slice a2 cs.length c2),(.slice none 0 0),(.slice none 0 0),?_⟩;rw[HE.out];exact HS8.out
  ·subst hkk
   have HE:Hid (Q=(⟨4,(zAV c.en c.T (vR c.en c.T c.nm) p1).1,[],0,[],[]⟩,(zAV c.en c.T (vR c.en c.T c.nm) p1).2)):=by show _=_;rw[HQ.out];unfold zFZ;simp only[show ¬((4:Int)=1∨(4:Int)=2∨(4:Int)=3) by decide,if_false,if_true]
   clear HQ;go_wp2_with fail
   refine (zHD c p1 _ HS2.out.st).mono ?_;rintro e w2 ⟨v2,rfl,hown,hst,hfr⟩;obtain⟨q,hq⟩:∃q,zAV c.en c.T (vR c.en c.T c.nm) p1=q:=⟨_,rfl⟩;rw[hq] at hown hst HE;obtain⟨vs,p2⟩:=q;clear hq
   dsimp only at hown hst HE
   have HO:Hid (w2.ownsRow w.heap.size 3 1 v2 vs.length (vs.map (Value.int .i64))):=zAi hown HS2.out.base;obtain⟨a2,c2,hv⟩:=zAB hown;subst hv;clear hown;have HS3:Hid (ConT c w w2 p2 (.slice none 0 0) (.slice none 0 0) (.slice none 0 0) (.slice none 0 0) ⟨4,[],[],0,[],[]⟩):=HS2.out.call hfr hst;clear hst hfr HS2;have k0:w2.cell? ⟨w.heap.size+1,1,none⟩=some (.slice none 0 0):=blk9 HS3.out.con 1 _ rfl;have z0:=frz9 HS3.out.con 1;have HS4:Hid (ConT c w (w2.setCell ⟨w.heap.size+1,1,none⟩ (.slice a2 vs.length c2)) p2 (.slice a2 vs.length c2) (.slice none 0 0) (.slice none 0 0) (.slice none 0 0) ⟨4,vs,[],0,[],[]⟩):=HS3.out.vars HO.out;clear HS3;go_wp2_with fail
   go_meet
   refine⟨(.slice a2 vs.length c2),(.slice none 0 0),(.slice none 0 0),(.slice none 0 0),?_⟩;rw[HE.out];exact HS4.out
  ·subst hkk
   have HE:Hid (Q=(⟨5,[(vR c.en c.T c.nm (zAV c.en c.T (kR c.en c.T) p1).2).1,(vR c.en c.T c.nm (vR c.en c.T c.nm (zAV c.en c.T (kR c.en c.T) p1).2).2).1],(zAV c.en c.T (kR c.en c.T) p1).1,0,[],[]⟩,(vR c.en c.T c.nm (vR c.en c.T c.nm (zAV c.en c.T (kR c.en c.T) p1).2).2).2)):=by show _=_;rw[HQ.out];unfold zFZ;simp only[show ¬((5:Int)=1∨(5:Int)=2∨(5:Int)=3) by decide,if_false,show ¬((5:Int)=4) by decide,if_true]
   clear HQ;go_wp2_with fail
   refine (zIy c p1 _ HS2.out.st).mono ?_;rintro e w2 ⟨v2,rfl,hown,hst,hfr⟩;obtain⟨q,hq⟩:∃q,zAV c.en c.T (kR c.en c.T) p1=q:=⟨_,rfl⟩;rw[hq] at hown hst HE;obtain⟨cs,p2⟩:=q;clear hq
   dsimp only at hown hst HE
   have HO:Hid (w2.ownsRow w.heap.size 3 1 v2 cs.length (cs.map (Value.int .i64))):=zAi hown HS2.out.base;obtain⟨a2,c2,hv⟩:=zAB hown;subst hv;clear hown;have HS3:Hid (ConT c w w2 p2 (.slice none 0 0) (.slice none 0 0) (.slice none 0 0) (.slice none 0 0) ⟨5,[],[],0,[],[]⟩):=HS2.out.call hfr hst;clear hst hfr HS2;have k0:w2.cell? ⟨w.heap.size+1,2,none⟩=some (.slice none 0 0):=blk9 HS3.out.con 2 _ rfl;have z0:=frz9 HS3.out.con 2;have HS4:Hid (ConT c w (w2.setCell ⟨w.heap.size+1,2,none⟩ (.slice a2 cs.length c2)) p2 (.slice none 0 0) (.slice a2 cs.length c2) (.slice none 0 0) (.slice none 0 0) ⟨5,[],cs,0,[],[]⟩):=HS3.out.consts HO.out;clear HS3;go_wp2_with fail
   refine (zFv c p2 _ HS4.out.st).mono ?_;rintro e w3 ⟨rfl,hst,hfr⟩;obtain⟨q,hq⟩:∃q,vR c.en c.T c.nm p2=q:=⟨_,rfl⟩;rw[hq] at hst HE ⊢;obtain⟨a,p3⟩:=q;clear hq
   dsimp only at hst HE ⊢
   have HS5:Hid (ConT c w w3 p3 (.slice none 0 0) (.slice a2 cs.length c2) (.slice none 0 0) (.slice none 0 0) ⟨5,[],cs,0,[],[]⟩):=HS4.out.call hfr hst;clear hst hfr HS4;go_wp2_with fail
   refine (zFv c p3 _ HS5.out.st).mono ?_;rintro e w4 ⟨rfl,hst,hfr⟩;obtain⟨q,hq⟩:∃q,vR c.en c.T c.nm p3=q:=⟨_,rfl⟩;rw[hq] at hst HE ⊢;obtain⟨b,p4⟩:=q;clear hq
   dsimp only at hst HE ⊢
   have HS6:Hid (ConT c w w4 p4 (.slice none 0 0) (.slice a2 cs.length c2) (.slice none 0 0) (.slice none 0 0) ⟨5,[],cs,0,[],[]⟩):=HS5.out.call hfr hst;clear hst hfr HS5;have k0:w4.cell? ⟨w.heap.size+1,1,none⟩=some (.slice none 0 0):=blk9 HS6.out.con 1 _ rfl;have z0:=frz9 HS6.out.con 1;have l0:w.heap.size+1<w4.heap.size:=(Array.getElem?_eq_some_iff.1 HS6.out.con).1;have HS7:Hid (ConT c w ((w4.setCell ⟨w.heap.size+1,1,none⟩ (.slice (some ⟨w4.heap.size,0,none⟩) 2 2)).alloc (.cells #[.int .i64 a,.int .i64 b] 3)) p4 (.slice (some ⟨w4.heap.size,0,none⟩) 2 2) (.slice a2 cs.length c2) (.slice none 0 0) (.slice none 0 0) ⟨5,[a,b],cs,0,[],[]⟩):=HS6.out.varsLit [a,b] (by simp)
   clear HS6;go_wp2_with fail
   go_meet
   refine⟨(.slice (some ⟨w4.heap.size,0,none⟩) 2 2),(.slice a2 cs.length c2),(.slice none 0 0),(.slice none 0 0),?_⟩;rw[HE.out];exact HS7.out
  ·subst hkk
   have HE:Hid (Q=(⟨6,(zAV c.en c.T (vR c.en c.T c.nm) p1).1,[],0,(zAV c.en c.T (zAV c.en c.T (kR c.en c.T)) (zAV c.en c.T (vR c.en c.T c.nm) p1).2).1,[]⟩,(zAV c.en c.T (zAV c.en c.T (kR c.en c.T)) (zAV c.en c.T (vR c.en c.T c.nm) p1).2).2)):=by show _=_;rw[HQ.out];unfold zFZ;simp only[show ¬((6:Int)=1∨(6:Int)=2∨(6:Int)=3) by decide,if_false,show ¬((6:Int)=4) by decide,show ¬((6:Int)=5) by decide,if_true]
   clear HQ;go_wp2_with fail
   refine (zHD c p1 _ HS2.out.st).mono ?_;rintro e w2 ⟨v2,rfl,hown,hst,hfr⟩;obtain⟨q,hq⟩:∃q,zAV c.en c.T (vR c.en c.T c.nm) p1=q:=⟨_,rfl⟩;rw[hq] at hown hst HE;obtain⟨vs,p2⟩:=q;clear hq
   dsimp only at hown hst HE
   have HO:Hid (w2.ownsRow w.heap.size 3 1 v2 vs.length (vs.map (Value.int .i64))):=zAi hown HS2.out.base;obtain⟨a2,c2,hv⟩:=zAB hown;subst hv;clear hown;have HS3:Hid (ConT c w w2 p2 (.slice none 0 0) (.slice none 0 0) (.slice none 0 0) (.slice none 0 0) ⟨6,[],[],0,[],[]⟩):=HS2.out.call hfr hst;clear hst hfr HS2;have k0:w2.cell? ⟨w.heap.size+1,1,none⟩=some (.slice none 0 0):=blk9 HS3.out.con 1 _ rfl;have z0:=frz9 HS3.out.con 1;have HS4:Hid (ConT c w (w2.setCell ⟨w.heap.size+1,1,none⟩ (.slice a2 vs.length c2)) p2 (.slice a2 vs.length c2) (.slice none 0 0) (.slice none 0 0) (.slice none 0 0) ⟨6,vs,[],0,[],[]⟩):=HS3.out.vars HO.out;clear HS3;obtain⟨L,hL⟩:∃L,zAV c.en c.T (zAV c.en c.T (kR c.en c.T)) p2=L:=⟨_,rfl⟩;rw[hL] at HE;have HQ2:Hid (zCJ c.en c.T (zAV c.en c.T (kR c.en c.T)) (c.T.length+2) [] (zDA c.en c.T p2)=L):=hL;clear hL;go_wp2_with fail
   refine (zFk c p2 _ HS4.out.st).mono ?_;rintro e wm ⟨rfl,hst,hfr⟩;obtain⟨q,hq⟩:∃q,zDA c.en c.T p2=q:=⟨_,rfl⟩;rw[hq] at HQ2 hst ⊢;obtain⟨bm,pm⟩:=q;have HSM:Hid (ConT c w wm pm (.slice a2 vs.length c2) (.slice none 0 0) (.slice none 0 0) (.slice none 0 0) ⟨6,vs,[],0,[],[]⟩):=HS4.out.call hfr hst;clear hst hfr hq HS4 k0 z0
   dsimp only
   go_wp2_with fail
   go_loopw [6] (fun mo wr=>∃(f:Nat) (acc:List (List Int)) (b:Bool) (p:RP) (vx:Value),Hid (zCJ c.en c.T (zAV c.en c.T (kR c.en c.T)) f acc (b,p)=L)∧mo=.bool b∧Hid (ConT c w wr p (.slice a2 vs.length c2) (.slice none 0 0) vx (.slice none 0 0) ⟨6,vs,[],0,acc,[]⟩)∧acc.length+f=c.T.length+2∧(b=true→c.T.length+2≤f+p.k)) (fun _ wr=>c.T.length+3 - zCp wr ⟨w.heap.size+1,4,none⟩)
   case atStart=>exact⟨c.T.length+2,[],bm,pm,_,HQ2,rfl,HSM,by simp,fun _=>by omega⟩
   case round =>
    clear HQ2 HSM;obtain⟨f,acc,b,p2,vx,HQ2,rfl,HS2,haf,hbf⟩:=hrel;have HKT:=HS2.out.st.kT;obtain⟨al,cl,rfl⟩:=HS2.out.own.2.2.1.form;cases b
    ·have HL:Hid (L=(acc,p2)):=HQ2.out.symm.trans (zHk _ _ _ _ _ _)
     clear hbf HQ2;go_wp2_with fail
     go_meet
     refine⟨(.slice a2 vs.length c2),(.slice none 0 0),(.slice al acc.length cl),(.slice none 0 0),?_⟩;rw[HE.out,HL.out];exact HS2.out
    ·have hbf2:=hbf rfl
     obtain⟨g,rfl⟩:∃g,f=g+1:=⟨f - 1,by omega⟩
     have HQ3:Hid (zCJ c.en c.T (zAV c.en c.T (kR c.en c.T)) g (acc++[((zAV c.en c.T (kR c.en c.T)) p2).1]) (zBK c.en c.T ((zAV c.en c.T (kR c.en c.T)) p2).2)=L):=(zKg _ _ _ _ _ _).symm.trans HQ2.out;have HLN:Hid (acc.length≤5000):=by show _≤_;omega
     have HM0:Hid (zCp wr ⟨w.heap.size+1,4,none⟩=acc.length):=by show _=_;unfold zCp;rw[blk9 HS2.out.con 4 _ rfl];rfl
     clear hbf HQ2;go_wp2_with fail
     have c1:wr.cell? ⟨w.heap.size+1,4,none⟩=some (.slice al acc.length cl):=blk9 HS2.out.con 4 _ rfl;have HSD:Hid (ConT c w wr.drew p2 (.slice a2 vs.length c2) (.slice none 0 0) (.slice al acc.length cl) (.slice none 0 0) ⟨6,vs,[],0,acc,[]⟩):=HS2.out.below (Below.refl _ _).drew;have hnv:=zIy c p2 wr.drew HSD.out.st;have HKK:Hid (p2.k≤((zAV c.en c.T (kR c.en c.T)) p2).2.k):=zL9 (k_k c.en c.T) p2;obtain⟨q,hq⟩:∃q,(zAV c.en c.T (kR c.en c.T)) p2=q:=⟨_,rfl⟩;rw[hq] at hnv HQ3 HKK;obtain⟨x,p3⟩:=q;clear hq
     dsimp only at hnv HQ3 HKK
     go_region_law
      (first
        | (rw[if_pos (by rfl)];refine wp_append_own _ _ _ 60 rfl w.heap.size 26 iR _ 1 24 Tryz.underRows5 hiR hzR0 hzR1 hzR2 rfl (by decide) _ _ _ rfl (hw8.alloc _) ⟨w8.heap.size,0,none⟩ 1 1 [.slice a8 x.length b8] rfl rfl (zIg w8 _) (by intro u hu;rcases List.mem_singleton.1 hu with rfl;rfl) ?_ ?_ ?_ ?_;(have:=HLN.out;unfold maxLen;dsimp only;omega);(have:=HLN.out;dsimp only;omega);(have:=HT.base;simp;omega);intro v9 w9 hown9 hg9 _;have HU:=HT.pushRow hw8 hc8 hx8 hg9 rfl hown9;have d0:=blk9 HU.2 4 _ rfl;have z0:=frz9 HU.2 4;obtain⟨a9,b9,hv9⟩:=zAB hown9;subst hv9)
        | (rw[if_pos (by rfl)];go_simp;go_at_call 115;refine hnv.mono ?_;rintro e w8 ⟨v8,rfl,ho8,hst8,hfr8⟩;have HT:=HSD.out.call hfr8 hst8;have hx8:=zAi ho8 HSD.out.base;obtain⟨a8,b8,hv8⟩:=zAB hx8;subst hv8;obtain⟨cells8,hw8,hc8⟩:=HT.own.2.2.1;have c8:=blk9 HT.con 4 _ rfl;have hl8:w.heap.size+1<w8.heap.size:=(Array.getElem?_eq_some_iff.1 HT.con).1;dsimp only))
     all_goals
      have HSN:Hid (ConT c w (w9.setCell ⟨w.heap.size+1,4,none⟩ (.slice a9 (acc.length+1) b9)) p3 (.slice a2 vs.length c2) (.slice none 0 0) (.slice a9 (acc.length+1) b9) (.slice none 0 0) ⟨6,vs,[],0,(acc++[x]),[]⟩):=HU.1;clear HT HU HSD hnv hg9 hown9 c1 c8 HS2 hx8 hw8 hc8 ho8 hst8 hfr8;go_wp2_with fail
      clear d0 z0;refine (zFl c p3 _ HSN.out.st).mono ?_;rintro e w4 ⟨rfl,h4,hf4⟩;have HM2:Hid ((zBK c.en c.T p3).1=true→(zBK c.en c.T p3).2.k=p3.k+1):=zKf c.en c.T p3;obtain⟨q,hq⟩:∃q,zBK c.en c.T p3=q:=⟨_,rfl⟩;rw[hq] at HQ3 h4 HM2 ⊢;obtain⟨b4,p4⟩:=q;have HS4:Hid (ConT c w w4 p4 (.slice a2 vs.length c2) (.slice none 0 0) (.slice a9 (acc.length+1) b9) (.slice none 0 0) ⟨6,vs,[],0,(acc++[x]),[]⟩):=HSN.out.call hf4 h4;clear h4 hf4 hq HSN
      dsimp only at *
      have HB4:Hid (b4=true→c.T.length+2≤g+p4.k):=fun hb=>by have h1:=HM2.out hb;have h2:=HKK.out;omega
      have HM4:Hid (zCp w4 ⟨w.heap.size+1,4,none⟩=acc.length+1):=by show _=_;unfold zCp;rw[blk9 HS4.out.con 4 _ rfl];rfl
      go_wp2
      go_roundw
      case rel=>exact⟨g,acc++[x],b4,p4,_,HQ3,rfl,HS4,by simp;omega,HB4.out⟩
      case measure=>have h1:=HM0.out;have h2:=HM4.out;simp only[h1,h2];omega
  ·subst hkk
   have HE:Hid (Q=(⟨7,[(vR c.en c.T c.nm p1).1,(vR c.en c.T c.nm (vR c.en c.T c.nm p1).2).1,(vR c.en c.T c.nm (vR c.en c.T c.nm (vR c.en c.T c.nm p1).2).2).1],[],0,[],[]⟩,(vR c.en c.T c.nm (vR c.en c.T c.nm (vR c.en c.T c.nm p1).2).2).2)):=by show _=_;rw[HQ.out];unfold zFZ;simp only[show ¬((7:Int)=1∨(7:Int)=2∨(7:Int)=3) by decide,if_false,show ¬((7:Int)=4) by decide,show ¬((7:Int)=5) by decide,show ¬((7:Int)=6) by decide,if_true]
   clear HQ;go_wp2_with fail
   refine (zFv c p1 _ HS2.out.st).mono ?_;rintro e w2 ⟨rfl,hst,hfr⟩;obtain⟨q,hq⟩:∃q,vR c.en c.T c.nm p1=q:=⟨_,rfl⟩;rw[hq] at hst HE ⊢;obtain⟨a,p2⟩:=q;clear hq
   dsimp only at hst HE ⊢
   have HS3:Hid (ConT c w w2 p2 (.slice none 0 0) (.slice none 0 0) (.slice none 0 0) (.slice none 0 0) ⟨7,[],[],0,[],[]⟩):=HS2.out.call hfr hst;clear hst hfr HS2;go_wp2_with fail
   refine (zFv c p2 _ HS3.out.st).mono ?_;rintro e w3 ⟨rfl,hst,hfr⟩;obtain⟨q,hq⟩:∃q,vR c.en c.T c.nm p2=q:=⟨_,rfl⟩;rw[hq] at hst HE ⊢;obtain⟨b,p3⟩:=q;clear hq
   dsimp only at hst HE ⊢
   have HS4:Hid (ConT c w w3 p3 (.slice none 0 0) (.slice none 0 0) (.slice none 0 0) (.slice none 0 0) ⟨7,[],[],0,[],[]⟩):=HS3.out.call hfr hst;clear hst hfr HS3;go_wp2_with fail
   refine (zFv c p3 _ HS4.out.st).mono ?_;rintro e w4 ⟨rfl,hst,hfr⟩;obtain⟨q,hq⟩:∃q,vR c.en c.T c.nm p3=q:=⟨_,rfl⟩;rw[hq] at hst HE ⊢;obtain⟨d,p4⟩:=q;clear hq
   dsimp only at hst HE ⊢
   have HS5:Hid (ConT c w w4 p4 (.slice none 0 0) (.slice none 0 0) (.slice none 0 0) (.slice none 0 0) ⟨7,[],[],0,[],[]⟩):=HS4.out.call hfr hst;clear hst hfr HS4;have k0:w4.cell? ⟨w.heap.size+1,1,none⟩=some (.slice none 0 0):=blk9 HS5.out.con 1 _ rfl;have z0:=frz9 HS5.out.con 1;have l0:w.heap.size+1<w4.heap.size:=(Array.getElem?_eq_some_iff.1 HS5.out.con).1;have HS6:Hid (ConT c w ((w4.setCell ⟨w.heap.size+1,1,none⟩ (.slice (some ⟨w4.heap.size,0,none⟩) 3 3)).alloc (.cells #[.int .i64 a,.int .i64 b,.int .i64 d] 3)) p4 (.slice (some ⟨w4.heap.size,0,none⟩) 3 3) (.slice none 0 0) (.slice none 0 0) (.slice none 0 0) ⟨7,[a,b,d],[],0,[],[]⟩):=HS5.out.varsLit [a,b,d] (by simp)
   clear HS5;go_wp2_with fail
   go_meet
   refine⟨(.slice (some ⟨w4.heap.size,0,none⟩) 3 3),(.slice none 0 0),(.slice none 0 0),(.slice none 0 0),?_⟩;rw[HE.out];exact HS6.out
  ·subst hkk
   have HE:Hid (Q=(⟨8,[(vR c.en c.T c.nm p1).1]++(zAV c.en c.T (vR c.en c.T c.nm) (vR c.en c.T c.nm p1).2).1,[],0,[],[]⟩,(zAV c.en c.T (vR c.en c.T c.nm) (vR c.en c.T c.nm p1).2).2)):=by show _=_;rw[HQ.out];unfold zFZ;simp only[show ¬((8:Int)=1∨(8:Int)=2∨(8:Int)=3) by decide,if_false,show ¬((8:Int)=4) by decide,show ¬((8:Int)=5) by decide,show ¬((8:Int)=6) by decide,show ¬((8:Int)=7) by decide,if_true]
   clear HQ;go_wp2_with fail
   refine (zFv c p1 _ HS2.out.st).mono ?_;rintro e w2 ⟨rfl,hst,hfr⟩;obtain⟨q,hq⟩:∃q,vR c.en c.T c.nm p1=q:=⟨_,rfl⟩;rw[hq] at hst HE ⊢;obtain⟨a,p2⟩:=q;clear hq
   dsimp only at hst HE ⊢
   have HS3:Hid (ConT c w w2 p2 (.slice none 0 0) (.slice none 0 0) (.slice none 0 0) (.slice none 0 0) ⟨8,[],[],0,[],[]⟩):=HS2.out.call hfr hst;clear hst hfr HS2;have HRO:Hid ((w2.alloc (.cells #[.int .i64 a] 3)).ownsRow w.heap.size 3 1 (.slice (some ⟨w2.heap.size,0,none⟩) 1 1) 1 [.int .i64 a]):=World.ownsRow_lit (e:=3) (size:=1) w2 #[.int .i64 a] 1 HS3.out.base (by unfold maxLen;omega) rfl
   have HSA:Hid (ConT c w (w2.alloc (.cells #[.int .i64 a] 3)) p2 (.slice none 0 0) (.slice none 0 0) (.slice none 0 0) (.slice none 0 0) ⟨8,[],[],0,[],[]⟩):=HS3.out.below (zAA _ _);clear HS3;go_wp2_with fail
   refine (zHD c p2 _ HSA.out.st).mono ?_;rintro e w9 ⟨v9,rfl,hown,hst,hfr⟩;have hvl:=zSx c.en c.T (vR c.en c.T c.nm) p2;obtain⟨q,hq⟩:∃q,zAV c.en c.T (vR c.en c.T c.nm) p2=q:=⟨_,rfl⟩;rw[hq] at hown hst HE hvl;obtain⟨vs,p9⟩:=q;clear hq
   dsimp only at hown hst HE hvl
   obtain⟨vn,hvn⟩:∃vn,[a]++vs=vn:=⟨_,rfl⟩;have HVN:Hid ([a]++vs=vn):=hvn;rw[hvn] at HE;clear hvn;have HVL:Hid ([a].length+vs.length≤100000):=by show _≤_;simp;omega
   have HS9:Hid (ConT c w w9 p9 (.slice none 0 0) (.slice none 0 0) (.slice none 0 0) (.slice none 0 0) ⟨8,[],[],0,[],[]⟩):=HSA.out.call hfr hst;have HR9:Hid (w9.ownsRow w.heap.size 3 1 (.slice (some ⟨w2.heap.size,0,none⟩) 1 1) 1 [.int .i64 a]):=zCT HRO.out hfr (fun j hj=>by have h1:j=c.R:=hj;rw[h1];exact hlt)
   have HOV:=hown;have hb9:=HS9.out.base;obtain⟨a9,c9,hv⟩:=zAB hown;subst hv;clear hown hst hfr HSA HRO hvl;go_wp2_with (at_builtin;refine wpList_plain rfl fun K hK=>zFT _ _ rfl w.heap.size _ [a] rfl HR9.out _ vs rfl _ HOV HVL.out hb9 ?_)
   intro v6 w6 hown6 hg6;have hown7:w6.ownsRow w.heap.size 3 1 v6 vn.length (vn.map (Value.int .i64)):=by rw[←HVN.out];first | exact hown6 | simpa using hown6
   have HU:=HS9.out.push8 HR9.out hg6 hown7;have d1:=blk9 HU.2 1 _ rfl;have z1:=frz9 HU.2 1;have HSN:Hid (ConT c w (w6.setCell ⟨w.heap.size+1,1,none⟩ v6) p9 v6 (.slice none 0 0) (.slice none 0 0) (.slice none 0 0) ⟨8,vn,[],0,[],[]⟩):=HU.1;obtain⟨a6,c6,hv6⟩:=zAB hown7;subst hv6;clear HU hg6 HS9 HR9 HOV hown6 hown7 HVN HVL;refine hK _ _ ?_;go_wp2_with fail
   go_meet
   refine⟨(.slice a6 vn.length c6),(.slice none 0 0),(.slice none 0 0),(.slice none 0 0),?_⟩;rw[HE.out];exact HSN.out
  ·subst hkk
   have HE:Hid (Q=(⟨9,[],[],0,[],(zAV c.en c.T (litR c.en c.T c.nm) p1).1⟩,(zAV c.en c.T (litR c.en c.T c.nm) p1).2)):=by show _=_;rw[HQ.out];unfold zFZ;simp only[show ¬((9:Int)=1∨(9:Int)=2∨(9:Int)=3) by decide,if_false,show ¬((9:Int)=4) by decide,show ¬((9:Int)=5) by decide,show ¬((9:Int)=6) by decide,show ¬((9:Int)=7) by decide,show ¬((9:Int)=8) by decide,if_true]
   clear HQ;obtain⟨L,hL⟩:∃L,zAV c.en c.T (litR c.en c.T c.nm) p1=L:=⟨_,rfl⟩;rw[hL] at HE;have HQ2:Hid (zCJ c.en c.T (litR c.en c.T c.nm) (c.T.length+2) [] (zDA c.en c.T p1)=L):=hL;clear hL;go_wp2_with fail
   refine (zFk c p1 _ HS2.out.st).mono ?_;rintro e wm ⟨rfl,hst,hfr⟩;obtain⟨q,hq⟩:∃q,zDA c.en c.T p1=q:=⟨_,rfl⟩;rw[hq] at HQ2 hst ⊢;obtain⟨bm,pm⟩:=q;have HSM:Hid (ConT c w wm pm (.slice none 0 0) (.slice none 0 0) (.slice none 0 0) (.slice none 0 0) ⟨9,[],[],0,[],[]⟩):=HS2.out.call hfr hst;clear hst hfr hq HS2
   dsimp only
   go_wp2_with fail
   go_loopw [11] (fun mo wr=>∃(f:Nat) (acc:List MLit) (b:Bool) (p:RP) (vx:Value),Hid (zCJ c.en c.T (litR c.en c.T c.nm) f acc (b,p)=L)∧mo=.bool b∧Hid (ConT c w wr p (.slice none 0 0) (.slice none 0 0) (.slice none 0 0) vx ⟨9,[],[],0,[],acc⟩)∧acc.length+f=c.T.length+2∧(b=true→c.T.length+2≤f+p.k)) (fun _ wr=>c.T.length+3 - zCp wr ⟨w.heap.size+1,5,none⟩)
   case atStart=>exact⟨c.T.length+2,[],bm,pm,_,HQ2,rfl,HSM,by simp,fun _=>by omega⟩
   case round =>
    clear HQ2 HSM;obtain⟨f,acc,b,p2,vx,HQ2,rfl,HS2,haf,hbf⟩:=hrel;have HKT:=HS2.out.st.kT;obtain⟨al,cl,rfl⟩:=zAB HS2.out.own.2.2.2;cases b
    ·have HL:Hid (L=(acc,p2)):=HQ2.out.symm.trans (zHk _ _ _ _ _ _)
     clear hbf HQ2;go_wp2_with fail
     go_meet
     refine⟨(.slice none 0 0),(.slice none 0 0),(.slice none 0 0),(.slice al acc.length cl),?_⟩;rw[HE.out,HL.out];exact HS2.out
    ·have hbf2:=hbf rfl
     obtain⟨g,rfl⟩:∃g,f=g+1:=⟨f - 1,by omega⟩
     have HQ3:Hid (zCJ c.en c.T (litR c.en c.T c.nm) g (acc++[((litR c.en c.T c.nm) p2).1]) (zBK c.en c.T ((litR c.en c.T c.nm) p2).2)=L):=(zKg _ _ _ _ _ _).symm.trans HQ2.out;have HLN:Hid (acc.length≤5000):=by show _≤_;omega
     have HM0:Hid (zCp wr ⟨w.heap.size+1,5,none⟩=acc.length):=by show _=_;unfold zCp;rw[blk9 HS2.out.con 5 _ rfl];rfl
     clear hbf HQ2;go_wp2_with fail
     have c1:wr.cell? ⟨w.heap.size+1,5,none⟩=some (.slice al acc.length cl):=blk9 HS2.out.con 5 _ rfl;have HSD:Hid (ConT c w wr.drew p2 (.slice none 0 0) (.slice none 0 0) (.slice none 0 0) (.slice al acc.length cl) ⟨9,[],[],0,[],acc⟩):=HS2.out.below (Below.refl _ _).drew;have hnv:=zL3 c p2 wr.drew HSD.out.st;have HKK:Hid (p2.k≤((litR c.en c.T c.nm) p2).2.k):=zTt c.en c.T c.nm p2;obtain⟨q,hq⟩:∃q,(litR c.en c.T c.nm) p2=q:=⟨_,rfl⟩;rw[hq] at hnv HQ3 HKK;obtain⟨x,p3⟩:=q;clear hq
     dsimp only at hnv HQ3 HKK
     go_region_law
      (first
        | (rw[if_pos (by rfl)];refine wp_append_own _ _ _ 37 rfl w.heap.size 88 iL _ 3 24 Tryz.underLits5 hiL hzL0 hzL1 hzL2 rfl (by decide) _ _ _ rfl (HT.own.2.2.2.alloc _) ⟨w8.heap.size,0,none⟩ 1 1 (litC x) rfl rfl (zGk w8 x) (zHi x) ?_ ?_ ?_ ?_;(have:=HLN.out;unfold maxLen;dsimp only;omega);(have:=HLN.out;dsimp only;omega);(have:=HT.base;simp;omega);intro v9 w9 hown9 hg9 _;have HU:=HT.pushLit hg9 rfl hown9;have d0:=blk9 HU.2 5 _ rfl;have z0:=frz9 HU.2 5;obtain⟨a9,b9,hv9⟩:=zAB hown9;subst hv9)
        | (rw[if_pos (by rfl)];go_simp;go_at_call 118;refine hnv.mono ?_;rintro e w8 ⟨rfl,hst8,hfr8⟩;have HT:=HSD.out.call hfr8 hst8;have c8:=blk9 HT.con 5 _ rfl;have hl8:w.heap.size+1<w8.heap.size:=(Array.getElem?_eq_some_iff.1 HT.con).1;unfold litA;dsimp only))
     all_goals
      have HSN:Hid (ConT c w (w9.setCell ⟨w.heap.size+1,5,none⟩ (.slice a9 (acc.length+1) b9)) p3 (.slice none 0 0) (.slice none 0 0) (.slice none 0 0) (.slice a9 (acc.length+1) b9) ⟨9,[],[],0,[],(acc++[x])⟩):=HU.1;clear HT HU HSD hnv hg9 hown9 c1 c8 HS2 hst8 hfr8;go_wp2_with fail
      clear d0 z0;refine (zFl c p3 _ HSN.out.st).mono ?_;rintro e w4 ⟨rfl,h4,hf4⟩;have HM2:Hid ((zBK c.en c.T p3).1=true→(zBK c.en c.T p3).2.k=p3.k+1):=zKf c.en c.T p3;obtain⟨q,hq⟩:∃q,zBK c.en c.T p3=q:=⟨_,rfl⟩;rw[hq] at HQ3 h4 HM2 ⊢;obtain⟨b4,p4⟩:=q;have HS4:Hid (ConT c w w4 p4 (.slice none 0 0) (.slice none 0 0) (.slice none 0 0) (.slice a9 (acc.length+1) b9) ⟨9,[],[],0,[],(acc++[x])⟩):=HSN.out.call hf4 h4;clear h4 hf4 hq HSN
      dsimp only at *
      have HB4:Hid (b4=true→c.T.length+2≤g+p4.k):=fun hb=>by have h1:=HM2.out hb;have h2:=HKK.out;omega
      have HM4:Hid (zCp w4 ⟨w.heap.size+1,5,none⟩=acc.length+1):=by show _=_;unfold zCp;rw[blk9 HS4.out.con 5 _ rfl];rfl
      go_wp2
      go_roundw
      case rel=>exact⟨g,acc++[x],b4,p4,_,HQ3,rfl,HS4,by simp;omega,HB4.out⟩
      case measure=>have h1:=HM0.out;have h2:=HM4.out;simp only[h1,h2];omega
  ·subst hkk
   have HE:Hid (Q=(⟨10,[(vR c.en c.T c.nm p1).1],[],0,[],[(litR c.en c.T c.nm (vR c.en c.T c.nm p1).2).1]⟩,(litR c.en c.T c.nm (vR c.en c.T c.nm p1).2).2)):=by show _=_;rw[HQ.out];unfold zFZ;simp only[show ¬((10:Int)=1∨(10:Int)=2∨(10:Int)=3) by decide,if_false,show ¬((10:Int)=4) by decide,show ¬((10:Int)=5) by decide,show ¬((10:Int)=6) by decide,show ¬((10:Int)=7) by decide,show ¬((10:Int)=8) by decide,show ¬((10:Int)=9) by decide,if_true]
   clear HQ;go_wp2_with fail
   refine (zFv c p1 _ HS2.out.st).mono ?_;rintro e w2 ⟨rfl,hst,hfr⟩;obtain⟨q,hq⟩:∃q,vR c.en c.T c.nm p1=q:=⟨_,rfl⟩;rw[hq] at hst HE ⊢;obtain⟨a,p2⟩:=q;clear hq
   dsimp only at hst HE ⊢
   have HS3:Hid (ConT c w w2 p2 (.slice none 0 0) (.slice none 0 0) (.slice none 0 0) (.slice none 0 0) ⟨10,[],[],0,[],[]⟩):=HS2.out.call hfr hst;clear hst hfr HS2;have k0:w2.cell? ⟨w.heap.size+1,1,none⟩=some (.slice none 0 0):=blk9 HS3.out.con 1 _ rfl;have z0:=frz9 HS3.out.con 1;have l0:w.heap.size+1<w2.heap.size:=(Array.getElem?_eq_some_iff.1 HS3.out.con).1;have HSY:Hid (ConT c w ((w2.setCell ⟨w.heap.size+1,1,none⟩ (.slice (some ⟨w2.heap.size,0,none⟩) 1 1)).alloc (.cells #[.int .i64 a] 3)) p2 (.slice (some ⟨w2.heap.size,0,none⟩) 1 1) (.slice none 0 0) (.slice none 0 0) (.slice none 0 0) ⟨10,[a],[],0,[],[]⟩):=HS3.out.varsLit [a] (by simp)
   clear HS3;go_wp2_with fail
   clear k0 z0 l0;obtain⟨av,hav⟩:∃av:Option Addr,some ⟨w2.heap.size,0,none⟩=av:=⟨_,rfl⟩;obtain⟨yy,hyy⟩:∃yy,(w2.setCell ⟨w.heap.size+1,1,none⟩ (.slice (some ⟨w2.heap.size,0,none⟩) 1 1)).alloc (.cells #[.int .i64 a] 3)=yy:=⟨_,rfl⟩;rw[hyy,hav] at HSY;rw[hyy];clear hyy hav;have HLN:Hid (([]:List MLit).length≤5000):=by show _≤_;simp
   have c1:yy.cell? ⟨w.heap.size+1,5,none⟩=some (.slice none 0 0):=blk9 HSY.out.con 5 _ rfl;have HSD:Hid (ConT c w yy.drew p2 (.slice av 1 1) (.slice none 0 0) (.slice none 0 0) (.slice none 0 0) ⟨10,[a],[],0,[],[]⟩):=HSY.out.below (Below.refl _ _).drew;have hnv:=zL3 c p2 yy.drew HSD.out.st;obtain⟨q,hq⟩:∃q,(litR c.en c.T c.nm) p2=q:=⟨_,rfl⟩;rw[hq] at hnv HE;obtain⟨x,p3⟩:=q;clear hq
   dsimp only at hnv HE
   go_region_law
    (first
      | (rw[if_pos (by rfl)];refine wp_append_own _ _ _ 37 rfl w.heap.size 88 iL _ 3 24 Tryz.underLits5 hiL hzL0 hzL1 hzL2 rfl (by decide) _ _ _ rfl (HT.own.2.2.2.alloc _) ⟨w8.heap.size,0,none⟩ 1 1 (litC x) rfl rfl (zGk w8 x) (zHi x) ?_ ?_ ?_ ?_;(have:=HLN.out;unfold maxLen;dsimp only;omega);(have:=HLN.out;dsimp only;omega);(have:=HT.base;simp;omega);intro v9 w9 hown9 hg9 _;have HU:=HT.pushLit hg9 rfl hown9;have d0:=blk9 HU.2 5 _ rfl;have z0:=frz9 HU.2 5;obtain⟨a9,b9,hv9⟩:=zAB hown9;subst hv9)
      | (rw[if_pos (by rfl)];go_simp;go_at_call 118;refine hnv.mono ?_;rintro e w8 ⟨rfl,hst8,hfr8⟩;have HT:=HSD.out.call hfr8 hst8;have c8:=blk9 HT.con 5 _ rfl;have hl8:w.heap.size+1<w8.heap.size:=(Array.getElem?_eq_some_iff.1 HT.con).1;unfold litA;dsimp only))
   all_goals
    have HSN:Hid (ConT c w (w9.setCell ⟨w.heap.size+1,5,none⟩ (.slice a9 1 b9)) p3 (.slice av 1 1) (.slice none 0 0) (.slice none 0 0) (.slice a9 1 b9) ⟨10,[a],[],0,[],[x]⟩):=HU.1;clear HT HU HSD hnv hg9 hown9 c1 c8 HSY;go_wp2_with fail
    go_meet
    refine⟨(.slice av 1 1),(.slice none 0 0),(.slice none 0 0),(.slice a9 1 b9),?_⟩;rw[HE.out];exact HSN.out
  ·subst hkk
   have HE:Hid (Q=(⟨11,[],[],0,[],[]⟩,p1)):=by show _=_;rw[HQ.out];rfl
   clear HQ;go_wp2_with fail
   go_meet
   refine⟨(.slice none 0 0),(.slice none 0 0),(.slice none 0 0),(.slice none 0 0),?_⟩;rw[HE.out];exact HS2.out
 case rest =>
  obtain⟨vv,vc,vr,vl,hT⟩:=hcut.out;have HT:Hid (ConT c w wc Q.2 vv vc vr vl Q.1):=hT;obtain⟨a1,c1,rfl⟩:=zAB hT.own.1;obtain⟨a2,c2,rfl⟩:=zAB hT.own.2.1;obtain⟨a3,c3,rfl⟩:=hT.own.2.2.1.form;obtain⟨a4,c4,rfl⟩:=zAB hT.own.2.2.2;have k0:=blk9 hT.con 0 _ rfl;have k1:=blk9 hT.con 1 _ rfl;have k2:=blk9 hT.con 2 _ rfl;have k3:=blk9 hT.con 3 _ rfl;have k4:=blk9 hT.con 4 _ rfl;have k5:=blk9 hT.con 5 _ rfl;have r0:=blk9 hT.res 0 _ rfl;have r1:=blk9 hT.res 1 _ rfl;have r2:=blk9 hT.res 2 _ rfl;have r3:=blk9 hT.res 3 _ rfl;have r4:=blk9 hT.res 4 _ rfl;have r5:=blk9 hT.res 5 _ rfl;have x0:=frz9 hT.res 0;have x1:=frz9 hT.res 1;have x2:=frz9 hT.res 2;have x3:=frz9 hT.res 3;have x4:=frz9 hT.res 4;have x5:=frz9 hT.res 5;have HEND:=HT.out.endd;clear hT hcut;go_wp2
  refine bodyPost_ret (by simp[results,Tryz.results62,go_sem, *];try rfl) rfl ?_
  obtain⟨e1,e2,e3⟩:=HEND _ _ _ _ _ _ _ rfl;exact⟨_,_,_,_,rfl,e1,e2,e3⟩
end Go.Proofs.YtdjbejlbmaiocagGreatDoor
