/- What the proof leans on, part 43. -/
import Derived.Test.YtndcpnlaadikoaaGreatDoorPartBp
set_option maxRecDepth 100000
set_option maxHeartbeats 4000000
open Go.Proofs.Tryz
namespace Go.Proofs.YtndcpnlaadikoaaGreatDoor
open Go.RowKit
theorem ConT.pushLit {c:RC} {w0 w w':World} {p:RP} {vv vc vr vl v':Value} {k:MCon} {x:MLit} {n:Nat} (h:ConT c w0 w p vv vc vr vl k) (hg:(w.alloc (.cells #[.int .i64 x.var,.int .i64 x.op,.int .i64 x.n] 76)).grownBy w' vl.ownBlock) (hn:n=k.lits.length+1) (ho:w'.ownsRow w0.heap.size 76 3 v' n (k.lits.flatMap litC++litC x)) :
 ConT c w0 (w'.setCell ⟨w0.heap.size+1,5,none⟩ v') p vv vc vr v' { k with lits:=k.lits++[x] }/\w'.heap[w0.heap.size+1]? = some (.cells #[.int .i64 k.kind,vv,vc,.int .i64 k.n,vr,vl] 69):=by
 have hv:=h.own.2.2.2;have hk:=Sz (((Z4 w _).block _ (Z8.1 h.con).1).trans h.con) hg (hv.alloc _) (by decide)
 have Hd:w'.ownsRow w0.heap.size 76 3 v' (k.lits++[x]).length ((k.lits++[x]).flatMap litC):=by
  rw[ZC,V6,<-hn,RW];simpa using ho
 have o1:=(h.own.1.alloc (.cells #[.int .i64 x.var,.int .i64 x.op,.int .i64 x.n] 76)).kept hg (Mo h.own.1 hv (by decide))
 have o2:=(h.own.2.1.alloc (.cells #[.int .i64 x.var,.int .i64 x.op,.int .i64 x.n] 76)).kept hg (Mo h.own.2.1 hv (by decide))
 have o3:=h.own.2.2.1.kept hv (by decide) (by decide) hg
 refine⟨⟨?_,?_,?_,?_,h.Rw,h.Nw,h.NBw,?_⟩,hk⟩
 ·exact ((h.st.below (Z4 _ _)).grown hg (λj hj=>by have h1:=(hv.lt j hj).1;have h2:=h.Rw;have h3:=h.Nw;have h4:=h.NBw;exact⟨by omega,by omega,by omega⟩)).set (q:=⟨w0.heap.size+1,5,none⟩) (by have:=h.Rw;show w0.heap.size+1≠c.R;omega) (by have:=h.Nw;show c.N<=w0.heap.size+1;omega) (by have:=h.NBw;show c.NB<=w0.heap.size+1;omega) _
 ·exact ((h.fr.alloc _).grown hg (λj hj=>Or.inr ((hv.lt j hj).1))).setNew (p:=⟨w0.heap.size+1,5,none⟩) (by show w0.heap.size<=w0.heap.size+1;omega) _
 ·exact (Below.heap_setCell _ _ _ _ (by show w0.heap.size≠w0.heap.size+1;omega)).trans (Sz (((Z4 w _).block _ (Z8.1 h.res).1).trans h.res) hg (hv.alloc _) (by decide))
 ·rw[heap_setCell_same w' _ 5 _ _ _ hk];rfl
 exact ConR.set (c:={ k with lits:=k.lits++[x] }) ⟨o1,o2,o3,Hd⟩ hk 5 v'
theorem ConT.pushRow {c:RC} {w0 w w':World} {p:RP} {vv vc vr vl v' xv:Value} {k:MCon} {x:List Int} {n:Nat} {cells:List Value} (h:ConT c w0 w p vv vc vr vl k) (h1:w.ownsRow w0.heap.size 42 1 vr k.rows.length cells) (h2:∀(i:Nat) (r:List Int),k.rows[i]? = some r->∃x,cells[i]? = some x/\w.ownsRow w0.heap.size 3 1 x r.length (r.map (Value.int .i64)))
 (hx:w.ownsRow w0.heap.size 3 1 xv x.length (x.map (Value.int .i64))) (hg:(w.alloc (.cells #[xv] 42)).grownBy w' vr.ownBlock) (hn:n=k.rows.length+1) (ho:w'.ownsRow w0.heap.size 42 1 v' n (cells++[xv])) :
 ConT c w0 (w'.setCell ⟨w0.heap.size+1,4,none⟩ v') p vv vc v' vl { k with rows:=k.rows++[x] }/\w'.heap[w0.heap.size+1]? = some (.cells #[.int .i64 k.kind,vv,vc,.int .i64 k.n,vr,vl] 69):=by
 have hk:=Sz (((Z4 w _).block _ (Z8.1 h.con).1).trans h.con) hg (h1.alloc _) (by decide)
 have o3:LSr w0.heap.size w0.heap.size w' v' (k.rows++[x]):=LSr.push h1 h2 hx (by rw[<-hn];exact ho) hg
 have o1:=(h.own.1.alloc (.cells #[xv] 42)).kept hg (Mo h.own.1 h1 (by decide))
 have o2:=(h.own.2.1.alloc (.cells #[xv] 42)).kept hg (Mo h.own.2.1 h1 (by decide))
 have o4:=(h.own.2.2.2.alloc (.cells #[xv] 42)).kept hg (Mo h.own.2.2.2 h1 (by decide))
 refine⟨⟨?_,?_,?_,?_,h.Rw,h.Nw,h.NBw,?_⟩,hk⟩
 ·exact ((h.st.below (Z4 _ _)).grown hg (λj hj=>by have h1:=(h1.lt j hj).1;have h2:=h.Rw;have h3:=h.Nw;have h4:=h.NBw;exact⟨by omega,by omega,by omega⟩)).set (q:=⟨w0.heap.size+1,4,none⟩) (by have:=h.Rw;show w0.heap.size+1≠c.R;omega) (by have:=h.Nw;show c.N<=w0.heap.size+1;omega) (by have:=h.NBw;show c.NB<=w0.heap.size+1;omega) _
 ·exact ((h.fr.alloc _).grown hg (λj hj=>Or.inr ((h1.lt j hj).1))).setNew (p:=⟨w0.heap.size+1,4,none⟩) (by show w0.heap.size<=w0.heap.size+1;omega) _
 ·exact (Below.heap_setCell _ _ _ _ (by show w0.heap.size≠w0.heap.size+1;omega)).trans (Sz (((Z4 w _).block _ (Z8.1 h.res).1).trans h.res) hg (h1.alloc _) (by decide))
 ·rw[heap_setCell_same w' _ 4 _ _ _ hk];rfl
 exact ConR.set (c:={ k with rows:=k.rows++[x] }) ⟨o1,o2,o3,o4⟩ hk 4 v'
theorem ConT.push8 {c:RC} {w0 w w':World} {p:RP} {g:Nat} {v':Value} {xs:List Int} {ys:List Value} (h:ConT c w0 w p (.slice none 0 0) (.slice none 0 0) (.slice none 0 0) (.slice none 0 0) ⟨8,[],[],0,[],[]⟩) (hr:w.ownsRow w0.heap.size 3 1 (.slice (some ⟨g,0,none⟩) 1 1) 1 ys) (hg:w.grownBy w' (some g)) (ho:w'.ownsRow w0.heap.size 3 1 v' xs.length (xs.map (Value.int .i64))) :
 ConT c w0 (w'.setCell ⟨w0.heap.size+1,1,none⟩ v') p v' (.slice none 0 0) (.slice none 0 0) (.slice none 0 0) ⟨8,xs,[],0,[],[]⟩/\w'.heap[w0.heap.size+1]? = some (.cells #[.int .i64 8,.slice none 0 0,.slice none 0 0,.int .i64 0,.slice none 0 0,.slice none 0 0] 69):=by
 have Jl:=(hr.lt g rfl).1;have e1:w0.heap.size+1≠g:=x_ hr h.con (by decide)
 have e2:w0.heap.size≠g:=x_ hr h.res (by decide)
 have VY:=(hg.block _ (Z8.1 h.con).1 (λe=>e1 (Zl e))).trans h.con
 have hT:ConT c w0 w' p (.slice none 0 0) (.slice none 0 0) (.slice none 0 0) (.slice none 0 0) ⟨8,[],[],0,[],[]⟩ :=
  ⟨h.st.grown hg (λj hj=>by cases hj;have h2:=h.Rw;have h3:=h.Nw;have h4:=h.NBw;exact⟨by omega,by omega,by omega⟩),h.fr.grown hg (λj hj=>by cases hj;exact Or.inr Jl),(hg.block _ (Z8.1 h.res).1 (λe=>e2 (Zl e))).trans h.res,VY,h.Rw,h.Nw,h.NBw,ConR.none _ _ _⟩
 exact⟨hT.vars ho,VY⟩
theorem gI {α:Type} (en:Int) (T:List Tok) (item:RP->α×RP):∀(f:Nat) (acc:List α) (q:Bool×RP),(Vw en T item f acc q).1.length<=acc.length+f
 | 0,acc,q=>by unfold Vw;exact Z2 _
 | f+1,acc,q=>by
   unfold Vw
   split
   ·have:=gI en T item f (acc++[(item q.2).1]) (VT en T (item q.2).2)
    simp at this;omega
   show acc.length<=_;omega
theorem zVL {α:Type} (en:Int) (T:List Tok) (item:RP->α×RP) (p:RP):(Zc en T item p).1.length<=T.length+2:=by
 have:=gI en T item (T.length+2) [] (PV en T p);unfold Zc;simpa using this
def PO (w:World) (a:Addr):Nat:=match w.cell? a with | some v=>FF v | none=>0
theorem A0 {α:Type} {en:Int} {T:List Tok} {item:RP->α×RP} (h:IC item):IC (Zc en T item):=λp=>by
 have h1:∀(s:ByteArray) p,p.k<=(Y5 en T s p).k:=D_ en T;have h2:∀(p:RP),p.k<=(PV en T p).2.k:=λp=>by
  unfold PV
  split
  ·exact ZT (h1 _ p) (h1 _ _)
  exact h1 _ p
 have h3:∀(p:RP),p.k<=(VT en T p).2.k:=λp=>by
  unfold VT
  split
  ·exact h1 _ p
  exact h1 _ p
 have h4:∀(f:Nat) (acc:List α) (q:Bool×RP),q.2.k<=(Vw en T item f acc q).2.k:=by
  intro f
  induction f with
  | zero=>intro acc q;unfold Vw;exact Z2 _
  | succ f ih =>
    intro acc q;unfold Vw
    split
    ·exact ZT (h q.2) (ZT (h3 _) (ih _ _))
    exact Z2 _
 exact ZT (h2 p) (h4 _ _ _)
theorem zTX (c:RC) (p:RP) (w:World) (h:RSt c p w) :
 Calls prog 51 #[.pointer (some ⟨c.R,0,none⟩)] w λe w'=>∃vv vc vr vl,e=.returned (conV vv vc vr vl (conR c.en c.T c.nm p).1)/\ConR w.heap.size w' vv vc vr vl (conR c.en c.T c.nm p).1/\RSt c (conR c.en c.T c.nm p).2 w'/\Fr (XR9 c.R) w w':=by
 have HS:=hI h;obtain⟨Q,hQ⟩:∃Q,conR c.en c.T c.nm p=Q:=⟨_,rfl⟩;rw[hQ];have HQ:Hid (Q=QY c.en c.T c.nm (1+(YP c.en c.T p WF.tail 0).1) (YP c.en c.T p WF.tail 0).2):=hQ.symm;have F':c.T.length<=4000:=by obtain⟨v,_,a,c,_,_,ht,_⟩:=h.blk;exact ht.1
 have Z7:=h.lt;have QG:Hid (c.N<=w.heap.size/\c.NB<=w.heap.size):=⟨h.Nw,h.nb⟩;obtain⟨iR,hiR,qO,qN,qM⟩:=info_parts j6;obtain⟨iL,gH,AZ,AY,AX⟩:=info_parts j7;obtain⟨iI,hiI,hzI0,hzI1,hzI2⟩:=info_parts Eh;clear h hQ;have Zt:Hid (Bw w ((w.alloc (.cells #[.int .i64 0,.slice none 0 0,.slice none 0 0,.int .i64 0,.slice none 0 0,.slice none 0 0] 69)).alloc (.cells #[.int .i64 0,.slice none 0 0,.slice none 0 0,.int .i64 0,.slice none 0 0,.slice none 0 0] 69))):=(Z4 _ _).alloc (by simp) _
 have I3:Hid (((w.alloc (.cells #[.int .i64 0,.slice none 0 0,.slice none 0 0,.int .i64 0,.slice none 0 0,.slice none 0 0] 69)).alloc (.cells #[.int .i64 0,.slice none 0 0,.slice none 0 0,.int .i64 0,.slice none 0 0,.slice none 0 0] 69)).heap[w.heap.size]? = some (.cells #[.int .i64 0,.slice none 0 0,.slice none 0 0,.int .i64 0,.slice none 0 0,.slice none 0 0] 69)):=((Z4 (w.alloc (.cells #[.int .i64 0,.slice none 0 0,.slice none 0 0,.int .i64 0,.slice none 0 0,.slice none 0 0] 69)) (.cells #[.int .i64 0,.slice none 0 0,.slice none 0 0,.int .i64 0,.slice none 0 0,.slice none 0 0] 69)).block w.heap.size (by simp)).trans (heap_alloc_new w _)
 have KC:Hid (((w.alloc (.cells #[.int .i64 0,.slice none 0 0,.slice none 0 0,.int .i64 0,.slice none 0 0,.slice none 0 0] 69)).alloc (.cells #[.int .i64 0,.slice none 0 0,.slice none 0 0,.int .i64 0,.slice none 0 0,.slice none 0 0] 69)).heap[w.heap.size+1]? = some (.cells #[.int .i64 0,.slice none 0 0,.slice none 0 0,.int .i64 0,.slice none 0 0,.slice none 0 0] 69)):=by
  have h:=heap_alloc_new (w.alloc (.cells #[.int .i64 0,.slice none 0 0,.slice none 0 0,.int .i64 0,.slice none 0 0,.slice none 0 0] 69)) (.cells #[.int .i64 0,.slice none 0 0,.slice none 0 0,.int .i64 0,.slice none 0 0,.slice none 0 0] 69);rw[World.size_alloc] at h;exact h
 have qL:Hid (((w.alloc (.cells #[.int .i64 0,.slice none 0 0,.slice none 0 0,.int .i64 0,.slice none 0 0,.slice none 0 0] 69)).alloc (.cells #[.int .i64 0,.slice none 0 0,.slice none 0 0,.int .i64 0,.slice none 0 0,.slice none 0 0] 69)).heap.size=w.heap.size+1+1):=by show _=_;simp
 obtain⟨Y,hY⟩:∃Y,(w.alloc (.cells #[.int .i64 0,.slice none 0 0,.slice none 0 0,.int .i64 0,.slice none 0 0,.slice none 0 0] 69)).alloc (.cells #[.int .i64 0,.slice none 0 0,.slice none 0 0,.int .i64 0,.slice none 0 0,.slice none 0 0] 69)=Y:=⟨_,rfl⟩;rw[hY] at Zt I3 KC qL;have HY:=hI hY;clear hY;have QL:Hid (SArg (Y.alloc (.cells (WF.tail.map Value.string).toArray 9)) (.slice (some ⟨w.heap.size+1+1,0,none⟩) 10 10) WF.tail):=yA Y WF.tail _ qL.o.symm (by decide)
 go_enter func51,ntmps51
 go_wp2_with fail
 rw[HY.o];refine (sq c p WF.tail zRN _ _ ?_ QL.o).mono ?_
 ·exact (HS.o.below Zt.o).below (Z4 _ _)
 rintro e w1 ⟨rfl,h1,W9⟩;have IB:Hid (0<=(YP c.en c.T p WF.tail 0).1/\(YP c.en c.T p WF.tail 0).1<=((0+WF.tail.length:Nat):Int)):=qY c.en c.T p WF.tail 0;obtain⟨q,hq⟩:∃q,YP c.en c.T p WF.tail 0=q:=⟨_,rfl⟩;rw[hq] at HQ h1 IB ⊢;obtain⟨o,p1⟩:=q;clear hq
 dsimp only at HQ h1 IB ⊢
 have ho:0<=o/\o<=10:=by have h:=IB.o;have e:WF.tail.length=10:=rfl;rw[e] at h;omega
 have xR:Fr (XR9 c.R) Y w1:=(Fr.below (Z4 _ _)).trans W9;have Za:Hid (ConT c w w1 p1 (.slice none 0 0) (.slice none 0 0) (.slice none 0 0) (.slice none 0 0) ⟨0,[],[],0,[],[]⟩):=by
  have hl:w.heap.size+1<Y.heap.size:=(Z8.1 KC.o).1;exact⟨h1,(Fr.below Zt.o).trans xR,(xR.block _ (by omega) (by show ¬_=_;omega)).trans I3.o,(xR.block _ hl (by show ¬_=_;omega)).trans KC.o,Z7,QG.o.1,QG.o.2,ConR.none _ _ _⟩
 have c0:w1.cell? ⟨w.heap.size+1,0,none⟩=some (.int .i64 0):=Z_ Za.o.con 0 _ rfl;have z0:=Z0 Za.o.con 0;obtain⟨k,hk⟩:∃k:Int,1+o=k:=⟨_,rfl⟩;have zO:IntKind.i64.wrap (1+o)=k:=by rw[IntKind.wrap_i64];omega
 have ZK:Hid (ConT c w (w1.setCell ⟨w.heap.size+1,0,none⟩ (.int .i64 k)) p1 (.slice none 0 0) (.slice none 0 0) (.slice none 0 0) (.slice none 0 0) ⟨k,[],[],0,[],[]⟩):=Za.o.kind k;rw[hk] at HQ;have X6:1<=k/\k<=11:=by omega
 clear h1 W9 xR Za Zt I3 KC qL QL HY HS;go_upto_block 0 with (fail)
 obtain⟨y0,GB⟩:∃y0,w1.setCell ⟨w.heap.size+1,0,none⟩ (.int .i64 k)=y0:=⟨_,rfl⟩;rw[GB] at ZK ⊢;clear c0 z0 zO hk GB IB ho;go_cut [] (λwx=>Hid (∃vv vc vr vl,ConT c w wx Q.2 vv vc vr vl Q.1))
 case first =>
  have VF:k=1∨k=2∨k=3∨k=4∨k=5∨k=6∨k=7∨k=8∨k=9∨k=10∨k=11:=by omega
  clear X6;rcases VF with YD | YD | YD | YD | YD | YD | YD | YD | YD | YD | YD
  ·subst YD
   have HE:Hid (Q=(⟨1,(Zc c.en c.T (vR c.en c.T c.nm) (Zc c.en c.T (kR c.en c.T) p1).2).1,(Zc c.en c.T (kR c.en c.T) p1).1,(kR c.en c.T (Zc c.en c.T (vR c.en c.T c.nm) (Zc c.en c.T (kR c.en c.T) p1).2).2).1,[],[]⟩,(kR c.en c.T (Zc c.en c.T (vR c.en c.T c.nm) (Zc c.en c.T (kR c.en c.T) p1).2).2).2)):=by show _=_;rw[HQ.o];unfold QY;rw[if_pos (by decide)]
   clear HQ;go_wp2_with fail
   refine (A4 c p1 _ ZK.o.st).mono ?_;rintro e w2 ⟨v2,rfl,Z9,ZZ,Z'⟩;obtain⟨q,hq⟩:∃q,Zc c.en c.T (kR c.en c.T) p1=q:=⟨_,rfl⟩;rw[hq] at Z9 ZZ HE;obtain⟨cs,p2⟩:=q;clear hq
   dsimp only at Z9 ZZ HE
   have HO:Hid (w2.ownsRow w.heap.size 3 1 v2 cs.length (cs.map (Value.int .i64))):=Ux Z9 ZK.o.base;obtain⟨a2,c2,hv⟩:=ZJ Z9;subst hv;clear Z9;have Zq:=hI (ZK.o.call Z' ZZ);clear ZZ Z' ZK;have k0:w2.cell? ⟨w.heap.size+1,2,none⟩=some (.slice none 0 0):=Z_ Zq.o.con 2 _ rfl;have z0:=Z0 Zq.o.con 2;have X9:Hid (ConT c w (w2.setCell ⟨w.heap.size+1,2,none⟩ (.slice a2 cs.length c2)) p2 (.slice none 0 0) (.slice a2 cs.length c2) (.slice none 0 0) (.slice none 0 0) ⟨1,[],cs,0,[],[]⟩):=Zq.o.consts HO.o;clear Zq;go_wp2_with fail
   refine (D' c p2 _ X9.o.st).mono ?_;rintro e w3 ⟨v3,rfl,Z9,ZZ,Z'⟩;obtain⟨q,hq⟩:∃q,Zc c.en c.T (vR c.en c.T c.nm) p2=q:=⟨_,rfl⟩;rw[hq] at Z9 ZZ HE;obtain⟨vs,p3⟩:=q;clear hq
   dsimp only at Z9 ZZ HE
   have HO:Hid (w3.ownsRow w.heap.size 3 1 v3 vs.length (vs.map (Value.int .i64))):=Ux Z9 X9.o.base;obtain⟨a3,c3,hv⟩:=ZJ Z9;subst hv;clear Z9;have VM:=hI (X9.o.call Z' ZZ);clear ZZ Z' X9;have k0:w3.cell? ⟨w.heap.size+1,1,none⟩=some (.slice none 0 0):=Z_ VM.o.con 1 _ rfl;have z0:=Z0 VM.o.con 1;have Wr:Hid (ConT c w (w3.setCell ⟨w.heap.size+1,1,none⟩ (.slice a3 vs.length c3)) p3 (.slice a3 vs.length c3) (.slice a2 cs.length c2) (.slice none 0 0) (.slice none 0 0) ⟨1,vs,cs,0,[],[]⟩):=VM.o.vars HO.o;clear VM;go_wp2_with fail
   refine (FI c p3 _ Wr.o.st).mono ?_;rintro e w4 ⟨rfl,ZZ,Z'⟩;obtain⟨q,hq⟩:∃q,kR c.en c.T p3=q:=⟨_,rfl⟩;rw[hq] at ZZ HE ⊢;obtain⟨n,p4⟩:=q;clear hq
   dsimp only at ZZ HE ⊢
   have Vu:=hI (Wr.o.call Z' ZZ);clear ZZ Z' Wr;have k0:w4.cell? ⟨w.heap.size+1,3,none⟩=some (.int .i64 0):=Z_ Vu.o.con 3 _ rfl;have z0:=Z0 Vu.o.con 3;have Wz:Hid (ConT c w (w4.setCell ⟨w.heap.size+1,3,none⟩ (.int .i64 n)) p4 (.slice a3 vs.length c3) (.slice a2 cs.length c2) (.slice none 0 0) (.slice none 0 0) ⟨1,vs,cs,n,[],[]⟩):=Vu.o.n n;clear Vu;go_wp2_with fail
   go_meet
   refine⟨(.slice a3 vs.length c3),(.slice a2 cs.length c2),(.slice none 0 0),(.slice none 0 0),?_⟩;rw[HE.o];exact Wz.o
  ·subst YD
   have HE:Hid (Q=(⟨2,(Zc c.en c.T (vR c.en c.T c.nm) (Zc c.en c.T (kR c.en c.T) p1).2).1,(Zc c.en c.T (kR c.en c.T) p1).1,(kR c.en c.T (Zc c.en c.T (vR c.en c.T c.nm) (Zc c.en c.T (kR c.en c.T) p1).2).2).1,[],[]⟩,(kR c.en c.T (Zc c.en c.T (vR c.en c.T c.nm) (Zc c.en c.T (kR c.en c.T) p1).2).2).2)):=by show _=_;rw[HQ.o];unfold QY;rw[if_pos (by decide)]
   clear HQ;go_wp2_with fail
   refine (A4 c p1 _ ZK.o.st).mono ?_;rintro e w2 ⟨v2,rfl,Z9,ZZ,Z'⟩;obtain⟨q,hq⟩:∃q,Zc c.en c.T (kR c.en c.T) p1=q:=⟨_,rfl⟩;rw[hq] at Z9 ZZ HE;obtain⟨cs,p2⟩:=q;clear hq
   dsimp only at Z9 ZZ HE
   have HO:Hid (w2.ownsRow w.heap.size 3 1 v2 cs.length (cs.map (Value.int .i64))):=Ux Z9 ZK.o.base;obtain⟨a2,c2,hv⟩:=ZJ Z9;subst hv;clear Z9;have Zq:=hI (ZK.o.call Z' ZZ);clear ZZ Z' ZK;have k0:w2.cell? ⟨w.heap.size+1,2,none⟩=some (.slice none 0 0):=Z_ Zq.o.con 2 _ rfl;have z0:=Z0 Zq.o.con 2;have X9:Hid (ConT c w (w2.setCell ⟨w.heap.size+1,2,none⟩ (.slice a2 cs.length c2)) p2 (.slice none 0 0) (.slice a2 cs.length c2) (.slice none 0 0) (.slice none 0 0) ⟨2,[],cs,0,[],[]⟩):=Zq.o.consts HO.o;clear Zq;go_wp2_with fail
   refine (D' c p2 _ X9.o.st).mono ?_;rintro e w3 ⟨v3,rfl,Z9,ZZ,Z'⟩;obtain⟨q,hq⟩:∃q,Zc c.en c.T (vR c.en c.T c.nm) p2=q:=⟨_,rfl⟩;rw[hq] at Z9 ZZ HE;obtain⟨vs,p3⟩:=q;clear hq
   dsimp only at Z9 ZZ HE
   have HO:Hid (w3.ownsRow w.heap.size 3 1 v3 vs.length (vs.map (Value.int .i64))):=Ux Z9 X9.o.base;obtain⟨a3,c3,hv⟩:=ZJ Z9;subst hv;clear Z9;have VM:=hI (X9.o.call Z' ZZ);clear ZZ Z' X9;have k0:w3.cell? ⟨w.heap.size+1,1,none⟩=some (.slice none 0 0):=Z_ VM.o.con 1 _ rfl;have z0:=Z0 VM.o.con 1;have Wr:Hid (ConT c w (w3.setCell ⟨w.heap.size+1,1,none⟩ (.slice a3 vs.length c3)) p3 (.slice a3 vs.length c3) (.slice a2 cs.length c2) (.slice none 0 0) (.slice none 0 0) ⟨2,vs,cs,0,[],[]⟩):=VM.o.vars HO.o;clear VM;go_wp2_with fail
   refine (FI c p3 _ Wr.o.st).mono ?_;rintro e w4 ⟨rfl,ZZ,Z'⟩;obtain⟨q,hq⟩:∃q,kR c.en c.T p3=q:=⟨_,rfl⟩;rw[hq] at ZZ HE ⊢;obtain⟨n,p4⟩:=q;clear hq
   dsimp only at ZZ HE ⊢
   have Vu:=hI (Wr.o.call Z' ZZ);clear ZZ Z' Wr;have k0:w4.cell? ⟨w.heap.size+1,3,none⟩=some (.int .i64 0):=Z_ Vu.o.con 3 _ rfl;have z0:=Z0 Vu.o.con 3;have Wz:Hid (ConT c w (w4.setCell ⟨w.heap.size+1,3,none⟩ (.int .i64 n)) p4 (.slice a3 vs.length c3) (.slice a2 cs.length c2) (.slice none 0 0) (.slice none 0 0) ⟨2,vs,cs,n,[],[]⟩):=Vu.o.n n;clear Vu;go_wp2_with fail
   go_meet
   refine⟨(.slice a3 vs.length c3),(.slice a2 cs.length c2),(.slice none 0 0),(.slice none 0 0),?_⟩;rw[HE.o];exact Wz.o
  ·subst YD
   have HE:Hid (Q=(⟨3,(Zc c.en c.T (vR c.en c.T c.nm) (Zc c.en c.T (kR c.en c.T) p1).2).1,(Zc c.en c.T (kR c.en c.T) p1).1,(kR c.en c.T (Zc c.en c.T (vR c.en c.T c.nm) (Zc c.en c.T (kR c.en c.T) p1).2).2).1,[],[]⟩,(kR c.en c.T (Zc c.en c.T (vR c.en c.T c.nm) (Zc c.en c.T (kR c.en c.T) p1).2).2).2)):=by show _=_;rw[HQ.o];unfold QY;rw[if_pos (by decide)]
   clear HQ;go_wp2_with fail
   refine (A4 c p1 _ ZK.o.st).mono ?_;rintro e w2 ⟨v2,rfl,Z9,ZZ,Z'⟩;obtain⟨q,hq⟩:∃q,Zc c.en c.T (kR c.en c.T) p1=q:=⟨_,rfl⟩;rw[hq] at Z9 ZZ HE;obtain⟨cs,p2⟩:=q;clear hq
   dsimp only at Z9 ZZ HE
   have HO:Hid (w2.ownsRow w.heap.size 3 1 v2 cs.length (cs.map (Value.int .i64))):=Ux Z9 ZK.o.base;obtain⟨a2,c2,hv⟩:=ZJ Z9;subst hv;clear Z9;have Zq:=hI (ZK.o.call Z' ZZ);clear ZZ Z' ZK;have k0:w2.cell? ⟨w.heap.size+1,2,none⟩=some (.slice none 0 0):=Z_ Zq.o.con 2 _ rfl;have z0:=Z0 Zq.o.con 2;have X9:Hid (ConT c w (w2.setCell ⟨w.heap.size+1,2,none⟩ (.slice a2 cs.length c2)) p2 (.slice none 0 0) (.slice a2 cs.length c2) (.slice none 0 0) (.slice none 0 0) ⟨3,[],cs,0,[],[]⟩):=Zq.o.consts HO.o;clear Zq;go_wp2_with fail
   refine (D' c p2 _ X9.o.st).mono ?_;rintro e w3 ⟨v3,rfl,Z9,ZZ,Z'⟩;obtain⟨q,hq⟩:∃q,Zc c.en c.T (vR c.en c.T c.nm) p2=q:=⟨_,rfl⟩;rw[hq] at Z9 ZZ HE;obtain⟨vs,p3⟩:=q;clear hq
   dsimp only at Z9 ZZ HE
   have HO:Hid (w3.ownsRow w.heap.size 3 1 v3 vs.length (vs.map (Value.int .i64))):=Ux Z9 X9.o.base;obtain⟨a3,c3,hv⟩:=ZJ Z9;subst hv;clear Z9;have VM:=hI (X9.o.call Z' ZZ);clear ZZ Z' X9;have k0:w3.cell? ⟨w.heap.size+1,1,none⟩=some (.slice none 0 0):=Z_ VM.o.con 1 _ rfl;have z0:=Z0 VM.o.con 1;have Wr:Hid (ConT c w (w3.setCell ⟨w.heap.size+1,1,none⟩ (.slice a3 vs.length c3)) p3 (.slice a3 vs.length c3) (.slice a2 cs.length c2) (.slice none 0 0) (.slice none 0 0) ⟨3,vs,cs,0,[],[]⟩):=VM.o.vars HO.o;clear VM;go_wp2_with fail
   refine (FI c p3 _ Wr.o.st).mono ?_;rintro e w4 ⟨rfl,ZZ,Z'⟩;obtain⟨q,hq⟩:∃q,kR c.en c.T p3=q:=⟨_,rfl⟩;rw[hq] at ZZ HE ⊢;obtain⟨n,p4⟩:=q;clear hq
   dsimp only at ZZ HE ⊢
   have Vu:=hI (Wr.o.call Z' ZZ);clear ZZ Z' Wr;have k0:w4.cell? ⟨w.heap.size+1,3,none⟩=some (.int .i64 0):=Z_ Vu.o.con 3 _ rfl;have z0:=Z0 Vu.o.con 3;have Wz:Hid (ConT c w (w4.setCell ⟨w.heap.size+1,3,none⟩ (.int .i64 n)) p4 (.slice a3 vs.length c3) (.slice a2 cs.length c2) (.slice none 0 0) (.slice none 0 0) ⟨3,vs,cs,n,[],[]⟩):=Vu.o.n n;clear Vu;go_wp2_with fail
   go_meet
   refine⟨(.slice a3 vs.length c3),(.slice a2 cs.length c2),(.slice none 0 0),(.slice none 0 0),?_⟩;rw[HE.o];exact Wz.o
  ·subst YD
   have HE:Hid (Q=(⟨4,(Zc c.en c.T (vR c.en c.T c.nm) p1).1,[],0,[],[]⟩,(Zc c.en c.T (vR c.en c.T c.nm) p1).2)):=by show _=_;rw[HQ.o];unfold QY;simp only[show ¬((4:Int)=1∨(4:Int)=2∨(4:Int)=3) by decide,if_false,if_true]
   clear HQ;go_wp2_with fail
   refine (D' c p1 _ ZK.o.st).mono ?_;rintro e w2 ⟨v2,rfl,Z9,ZZ,Z'⟩;obtain⟨q,hq⟩:∃q,Zc c.en c.T (vR c.en c.T c.nm) p1=q:=⟨_,rfl⟩;rw[hq] at Z9 ZZ HE;obtain⟨vs,p2⟩:=q;clear hq
   dsimp only at Z9 ZZ HE
   have HO:Hid (w2.ownsRow w.heap.size 3 1 v2 vs.length (vs.map (Value.int .i64))):=Ux Z9 ZK.o.base;obtain⟨a2,c2,hv⟩:=ZJ Z9;subst hv;clear Z9;have Zq:=hI (ZK.o.call Z' ZZ);clear ZZ Z' ZK;have k0:w2.cell? ⟨w.heap.size+1,1,none⟩=some (.slice none 0 0):=Z_ Zq.o.con 1 _ rfl;have z0:=Z0 Zq.o.con 1;have X9:Hid (ConT c w (w2.setCell ⟨w.heap.size+1,1,none⟩ (.slice a2 vs.length c2)) p2 (.slice a2 vs.length c2) (.slice none 0 0) (.slice none 0 0) (.slice none 0 0) ⟨4,vs,[],0,[],[]⟩):=Zq.o.vars HO.o;clear Zq;go_wp2_with fail
   go_meet
   refine⟨(.slice a2 vs.length c2),(.slice none 0 0),(.slice none 0 0),(.slice none 0 0),?_⟩;rw[HE.o];exact X9.o
  ·subst YD
   have HE:Hid (Q=(⟨5,[(vR c.en c.T c.nm (Zc c.en c.T (kR c.en c.T) p1).2).1,(vR c.en c.T c.nm (vR c.en c.T c.nm (Zc c.en c.T (kR c.en c.T) p1).2).2).1],(Zc c.en c.T (kR c.en c.T) p1).1,0,[],[]⟩,(vR c.en c.T c.nm (vR c.en c.T c.nm (Zc c.en c.T (kR c.en c.T) p1).2).2).2)):=by show _=_;rw[HQ.o];unfold QY;simp only[show ¬((5:Int)=1∨(5:Int)=2∨(5:Int)=3) by decide,if_false,show ¬((5:Int)=4) by decide,if_true]
   clear HQ;go_wp2_with fail
   refine (A4 c p1 _ ZK.o.st).mono ?_;rintro e w2 ⟨v2,rfl,Z9,ZZ,Z'⟩;obtain⟨q,hq⟩:∃q,Zc c.en c.T (kR c.en c.T) p1=q:=⟨_,rfl⟩;rw[hq] at Z9 ZZ HE;obtain⟨cs,p2⟩:=q;clear hq
   dsimp only at Z9 ZZ HE
   have HO:Hid (w2.ownsRow w.heap.size 3 1 v2 cs.length (cs.map (Value.int .i64))):=Ux Z9 ZK.o.base;obtain⟨a2,c2,hv⟩:=ZJ Z9;subst hv;clear Z9;have Zq:=hI (ZK.o.call Z' ZZ);clear ZZ Z' ZK;have k0:w2.cell? ⟨w.heap.size+1,2,none⟩=some (.slice none 0 0):=Z_ Zq.o.con 2 _ rfl;have z0:=Z0 Zq.o.con 2;have X9:Hid (ConT c w (w2.setCell ⟨w.heap.size+1,2,none⟩ (.slice a2 cs.length c2)) p2 (.slice none 0 0) (.slice a2 cs.length c2) (.slice none 0 0) (.slice none 0 0) ⟨5,[],cs,0,[],[]⟩):=Zq.o.consts HO.o;clear Zq;go_wp2_with fail
   refine (Ln c p2 _ X9.o.st).mono ?_;rintro e w3 ⟨rfl,ZZ,Z'⟩;obtain⟨q,hq⟩:∃q,vR c.en c.T c.nm p2=q:=⟨_,rfl⟩;rw[hq] at ZZ HE ⊢;obtain⟨a,p3⟩:=q;clear hq
   dsimp only at ZZ HE ⊢
   have VM:=hI (X9.o.call Z' ZZ);clear ZZ Z' X9;go_wp2_with fail
   refine (Ln c p3 _ VM.o.st).mono ?_;rintro e w4 ⟨rfl,ZZ,Z'⟩;obtain⟨q,hq⟩:∃q,vR c.en c.T c.nm p3=q:=⟨_,rfl⟩;rw[hq] at ZZ HE ⊢;obtain⟨b,p4⟩:=q;clear hq
   dsimp only at ZZ HE ⊢
   have Wr:=hI (VM.o.call Z' ZZ);clear ZZ Z' VM;have k0:w4.cell? ⟨w.heap.size+1,1,none⟩=some (.slice none 0 0):=Z_ Wr.o.con 1 _ rfl;have z0:=Z0 Wr.o.con 1;have l0:w.heap.size+1<w4.heap.size:=(Z8.1 Wr.o.con).1;have Vu:Hid (ConT c w ((w4.setCell ⟨w.heap.size+1,1,none⟩ (.slice (some ⟨w4.heap.size,0,none⟩) 2 2)).alloc (.cells #[.int .i64 a,.int .i64 b] 3)) p4 (.slice (some ⟨w4.heap.size,0,none⟩) 2 2) (.slice a2 cs.length c2) (.slice none 0 0) (.slice none 0 0) ⟨5,[a,b],cs,0,[],[]⟩):=Wr.o.varsLit [a,b] (by simp)
   clear Wr;go_wp2_with fail
   go_meet
   refine⟨(.slice (some ⟨w4.heap.size,0,none⟩) 2 2),(.slice a2 cs.length c2),(.slice none 0 0),(.slice none 0 0),?_⟩;rw[HE.o];exact Vu.o
  ·subst YD
   have HE:Hid (Q=(⟨6,(Zc c.en c.T (vR c.en c.T c.nm) p1).1,[],0,(Zc c.en c.T (Zc c.en c.T (kR c.en c.T)) (Zc c.en c.T (vR c.en c.T c.nm) p1).2).1,[]⟩,(Zc c.en c.T (Zc c.en c.T (kR c.en c.T)) (Zc c.en c.T (vR c.en c.T c.nm) p1).2).2)):=by show _=_;rw[HQ.o];unfold QY;simp only[show ¬((6:Int)=1∨(6:Int)=2∨(6:Int)=3) by decide,if_false,show ¬((6:Int)=4) by decide,show ¬((6:Int)=5) by decide,if_true]
   clear HQ;go_wp2_with fail
   refine (D' c p1 _ ZK.o.st).mono ?_;rintro e w2 ⟨v2,rfl,Z9,ZZ,Z'⟩;obtain⟨q,hq⟩:∃q,Zc c.en c.T (vR c.en c.T c.nm) p1=q:=⟨_,rfl⟩;rw[hq] at Z9 ZZ HE;obtain⟨vs,p2⟩:=q;clear hq
   dsimp only at Z9 ZZ HE
   have HO:Hid (w2.ownsRow w.heap.size 3 1 v2 vs.length (vs.map (Value.int .i64))):=Ux Z9 ZK.o.base;obtain⟨a2,c2,hv⟩:=ZJ Z9;subst hv;clear Z9;have Zq:=hI (ZK.o.call Z' ZZ);clear ZZ Z' ZK;have k0:w2.cell? ⟨w.heap.size+1,1,none⟩=some (.slice none 0 0):=Z_ Zq.o.con 1 _ rfl;have z0:=Z0 Zq.o.con 1;have X9:Hid (ConT c w (w2.setCell ⟨w.heap.size+1,1,none⟩ (.slice a2 vs.length c2)) p2 (.slice a2 vs.length c2) (.slice none 0 0) (.slice none 0 0) (.slice none 0 0) ⟨6,vs,[],0,[],[]⟩):=Zq.o.vars HO.o;clear Zq;obtain⟨L,hL⟩:∃L,Zc c.en c.T (Zc c.en c.T (kR c.en c.T)) p2=L:=⟨_,rfl⟩;rw[hL] at HE;have YW:Hid (Vw c.en c.T (Zc c.en c.T (kR c.en c.T)) (c.T.length+2) [] (PV c.en c.T p2)=L):=hL;clear hL;go_wp2_with fail
   refine (x7 c p2 _ X9.o.st).mono ?_;rintro e wm ⟨rfl,ZZ,Z'⟩;obtain⟨q,hq⟩:∃q,PV c.en c.T p2=q:=⟨_,rfl⟩;rw[hq] at YW ZZ ⊢;obtain⟨bm,pm⟩:=q;have Mt:=hI (X9.o.call Z' ZZ);clear ZZ Z' hq X9 k0 z0
   dsimp only
   go_wp2_with fail
   go_loopw [6] (λmo wr=>∃(f:Nat) (acc:List (List Int)) (b:Bool) (p:RP) (vx:Value),Hid (Vw c.en c.T (Zc c.en c.T (kR c.en c.T)) f acc (b,p)=L)/\mo=.bool b/\Hid (ConT c w wr p (.slice a2 vs.length c2) (.slice none 0 0) vx (.slice none 0 0) ⟨6,vs,[],0,acc,[]⟩)/\acc.length+f=c.T.length+2/\(b=true->c.T.length+2<=f+p.k)) (λ_ wr=>c.T.length+3 - PO wr ⟨w.heap.size+1,4,none⟩)
   case atStart=>exact⟨c.T.length+2,[],bm,pm,_,YW,rfl,Mt,by simp,λ_=>by omega⟩
   clear YW Mt;obtain⟨f,acc,b,p2,vx,YW,rfl,ZK,FE,Sm⟩:=hrel;have J4:=ZK.o.st.kT;obtain⟨al,cl,rfl⟩:=ZK.o.own.2.2.1.form;cases b
   ·have HL:Hid (L=(acc,p2)):=YW.o.symm.trans (xV _ _ _ _ _ _)
    clear Sm YW;go_wp2_with fail
    go_meet
    refine⟨(.slice a2 vs.length c2),(.slice none 0 0),(.slice al acc.length cl),(.slice none 0 0),?_⟩;rw[HE.o,HL.o];exact ZK.o
   have FD:=Sm rfl;obtain⟨g,rfl⟩:∃g,f=g+1:=⟨f - 1,by omega⟩
   have Yk:Hid (Vw c.en c.T (Zc c.en c.T (kR c.en c.T)) g (acc++[((Zc c.en c.T (kR c.en c.T)) p2).1]) (VT c.en c.T ((Zc c.en c.T (kR c.en c.T)) p2).2)=L):=(xW _ _ _ _ _ _).symm.trans YW.o;have QH:Hid (acc.length<=5000):=by show _<=_;omega
   have To:Hid (PO wr ⟨w.heap.size+1,4,none⟩=acc.length):=by show _=_;unfold PO;rw[Z_ ZK.o.con 4 _ rfl];rfl
   clear Sm YW;go_wp2_with fail
   have c1:wr.cell? ⟨w.heap.size+1,4,none⟩=some (.slice al acc.length cl):=Z_ ZK.o.con 4 _ rfl;have WR:Hid (ConT c w wr.drew p2 (.slice a2 vs.length c2) (.slice none 0 0) (.slice al acc.length cl) (.slice none 0 0) ⟨6,vs,[],0,acc,[]⟩):=ZK.o.below (Z6 _ _).drew;have Xs:=A4 c p2 wr.drew WR.o.st;have W_:Hid (p2.k<=((Zc c.en c.T (kR c.en c.T)) p2).2.k):=A0 (k_k c.en c.T) p2;obtain⟨q,hq⟩:∃q,(Zc c.en c.T (kR c.en c.T)) p2=q:=⟨_,rfl⟩;rw[hq] at Xs Yk W_;obtain⟨x,p3⟩:=q;clear hq
   dsimp only at Xs Yk W_
   go_region_law
    (first
      | (rw[if_pos (by rfl)];refine wp_append_own _ _ _ 56 rfl w.heap.size 42 iR _ 1 24 sD hiR qO qN qM rfl (by decide) _ _ _ rfl (QF.alloc _) ⟨w8.heap.size,0,none⟩ 1 1 [.slice a8 x.length b8] rfl rfl (sE w8 _) (by intro u hu;rcases Zh.1 hu with rfl;rfl) ?_ ?_ ?_ ?_;(have:=QH.o;unfold maxLen;dsimp only;omega);(have:=QH.o;dsimp only;omega);(have:=HT.base;simp;omega);intro v9 w9 Zp Xg _;have HU:=HT.pushRow QF hc8 hx8 Xg rfl Zp;have d0:=Z_ HU.2 4 _ rfl;have z0:=Z0 HU.2 4;obtain⟨a9,b9,Rk⟩:=ZJ Zp;subst Rk)
      | (rw[if_pos (by rfl)];go_simp;go_at_call 103;refine Xs.mono ?_;rintro e w8 ⟨v8,rfl,gG,PN,Tg⟩;have HT:=WR.o.call Tg PN;have hx8:=Ux gG WR.o.base;obtain⟨a8,b8,rq⟩:=ZJ hx8;subst rq;obtain⟨cells8,QF,hc8⟩:=HT.own.2.2.1;have c8:=Z_ HT.con 4 _ rfl;have rt:w.heap.size+1<w8.heap.size:=(Z8.1 HT.con).1;dsimp only))
   all_goals
    have Oq:=hI HU.1;clear HT HU WR Xs Xg Zp c1 c8 ZK hx8 QF hc8 gG PN Tg;go_wp2_with fail
    clear d0 z0;refine (xZ c p3 _ Oq.o.st).mono ?_;rintro e w4 ⟨rfl,h4,Vj⟩;have QZ:Hid ((VT c.en c.T p3).1=true->(VT c.en c.T p3).2.k=p3.k+1):=xX c.en c.T p3;obtain⟨q,hq⟩:∃q,VT c.en c.T p3=q:=⟨_,rfl⟩;rw[hq] at Yk h4 QZ ⊢;obtain⟨b4,p4⟩:=q;have X9:=hI (Oq.o.call Vj h4);clear h4 Vj hq Oq
    dsimp only at *
    have Yp:Hid (b4=true->c.T.length+2<=g+p4.k):=λhb=>by have h1:=QZ.o hb;have h2:=W_.o;omega
    have IE:Hid (PO w4 ⟨w.heap.size+1,4,none⟩=acc.length+1):=by show _=_;unfold PO;rw[Z_ X9.o.con 4 _ rfl];rfl
    go_wp2
    go_roundw
    case rel=>exact⟨g,acc++[x],b4,p4,_,Yk,rfl,X9,by simp;omega,Yp.o⟩
    case measure=>have h1:=To.o;have h2:=IE.o;simp only[h1,h2];omega
  ·subst YD
   have HE:Hid (Q=(⟨7,[(vR c.en c.T c.nm p1).1,(vR c.en c.T c.nm (vR c.en c.T c.nm p1).2).1,(vR c.en c.T c.nm (vR c.en c.T c.nm (vR c.en c.T c.nm p1).2).2).1],[],0,[],[]⟩,(vR c.en c.T c.nm (vR c.en c.T c.nm (vR c.en c.T c.nm p1).2).2).2)):=by show _=_;rw[HQ.o];unfold QY;simp only[show ¬((7:Int)=1∨(7:Int)=2∨(7:Int)=3) by decide,if_false,show ¬((7:Int)=4) by decide,show ¬((7:Int)=5) by decide,show ¬((7:Int)=6) by decide,if_true]
   clear HQ;go_wp2_with fail
   refine (Ln c p1 _ ZK.o.st).mono ?_;rintro e w2 ⟨rfl,ZZ,Z'⟩;obtain⟨q,hq⟩:∃q,vR c.en c.T c.nm p1=q:=⟨_,rfl⟩;rw[hq] at ZZ HE ⊢;obtain⟨a,p2⟩:=q;clear hq
   dsimp only at ZZ HE ⊢
   have Zq:=hI (ZK.o.call Z' ZZ);clear ZZ Z' ZK;go_wp2_with fail
   refine (Ln c p2 _ Zq.o.st).mono ?_;rintro e w3 ⟨rfl,ZZ,Z'⟩;obtain⟨q,hq⟩:∃q,vR c.en c.T c.nm p2=q:=⟨_,rfl⟩;rw[hq] at ZZ HE ⊢;obtain⟨b,p3⟩:=q;clear hq
   dsimp only at ZZ HE ⊢
   have X9:=hI (Zq.o.call Z' ZZ);clear ZZ Z' Zq;go_wp2_with fail
   refine (Ln c p3 _ X9.o.st).mono ?_;rintro e w4 ⟨rfl,ZZ,Z'⟩;obtain⟨q,hq⟩:∃q,vR c.en c.T c.nm p3=q:=⟨_,rfl⟩;rw[hq] at ZZ HE ⊢;obtain⟨d,p4⟩:=q;clear hq
   dsimp only at ZZ HE ⊢
   have VM:=hI (X9.o.call Z' ZZ);clear ZZ Z' X9;have k0:w4.cell? ⟨w.heap.size+1,1,none⟩=some (.slice none 0 0):=Z_ VM.o.con 1 _ rfl;have z0:=Z0 VM.o.con 1;have l0:w.heap.size+1<w4.heap.size:=(Z8.1 VM.o.con).1;have Wr:Hid (ConT c w ((w4.setCell ⟨w.heap.size+1,1,none⟩ (.slice (some ⟨w4.heap.size,0,none⟩) 3 3)).alloc (.cells #[.int .i64 a,.int .i64 b,.int .i64 d] 3)) p4 (.slice (some ⟨w4.heap.size,0,none⟩) 3 3) (.slice none 0 0) (.slice none 0 0) (.slice none 0 0) ⟨7,[a,b,d],[],0,[],[]⟩):=VM.o.varsLit [a,b,d] (by simp)
   clear VM;go_wp2_with fail
   go_meet
   refine⟨(.slice (some ⟨w4.heap.size,0,none⟩) 3 3),(.slice none 0 0),(.slice none 0 0),(.slice none 0 0),?_⟩;rw[HE.o];exact Wr.o
  ·subst YD
   have HE:Hid (Q=(⟨8,[(vR c.en c.T c.nm p1).1]++(Zc c.en c.T (vR c.en c.T c.nm) (vR c.en c.T c.nm p1).2).1,[],0,[],[]⟩,(Zc c.en c.T (vR c.en c.T c.nm) (vR c.en c.T c.nm p1).2).2)):=by show _=_;rw[HQ.o];unfold QY;simp only[show ¬((8:Int)=1∨(8:Int)=2∨(8:Int)=3) by decide,if_false,show ¬((8:Int)=4) by decide,show ¬((8:Int)=5) by decide,show ¬((8:Int)=6) by decide,show ¬((8:Int)=7) by decide,if_true]
   clear HQ;go_wp2_with fail
   refine (Ln c p1 _ ZK.o.st).mono ?_;rintro e w2 ⟨rfl,ZZ,Z'⟩;obtain⟨q,hq⟩:∃q,vR c.en c.T c.nm p1=q:=⟨_,rfl⟩;rw[hq] at ZZ HE ⊢;obtain⟨a,p2⟩:=q;clear hq
   dsimp only at ZZ HE ⊢
   have Zq:=hI (ZK.o.call Z' ZZ);clear ZZ Z' ZK;have OH:Hid ((w2.alloc (.cells #[.int .i64 a] 3)).ownsRow w.heap.size 3 1 (.slice (some ⟨w2.heap.size,0,none⟩) 1 1) 1 [.int .i64 a]):=World.ownsRow_lit (e:=3) (size:=1) w2 #[.int .i64 a] 1 Zq.o.base (by unfold maxLen;omega) rfl
   have QL:Hid (ConT c w (w2.alloc (.cells #[.int .i64 a] 3)) p2 (.slice none 0 0) (.slice none 0 0) (.slice none 0 0) (.slice none 0 0) ⟨8,[],[],0,[],[]⟩):=Zq.o.below (Z4 _ _);clear Zq;go_wp2_with fail
   refine (D' c p2 _ QL.o.st).mono ?_;rintro e w9 ⟨v9,rfl,Z9,ZZ,Z'⟩;have X8:=zVL c.en c.T (vR c.en c.T c.nm) p2;obtain⟨q,hq⟩:∃q,Zc c.en c.T (vR c.en c.T c.nm) p2=q:=⟨_,rfl⟩;rw[hq] at Z9 ZZ HE X8;obtain⟨vs,p9⟩:=q;clear hq
   dsimp only at Z9 ZZ HE X8
   obtain⟨vn,Vo⟩:∃vn,[a]++vs=vn:=⟨_,rfl⟩;have Bj:=hI Vo;rw[Vo] at HE;clear Vo;have Hh:Hid ([a].length+vs.length<=100000):=by show _<=_;simp;omega
   have Ub:=hI (QL.o.call Z' ZZ);have NP:Hid (w9.ownsRow w.heap.size 3 1 (.slice (some ⟨w2.heap.size,0,none⟩) 1 1) 1 [.int .i64 a]):=TE OH.o Z' (λj hj=>by have h1:j=c.R:=hj;rw[h1];exact Z7)
   have LK:=Z9;have U6:=Ub.o.base;obtain⟨a9,c9,hv⟩:=ZJ Z9;subst hv;clear Z9 ZZ Z' QL OH X8;go_wp2_with (at_builtin;refine wpList_plain rfl λK hK=>iv _ _ rfl w.heap.size _ [a] rfl NP.o _ vs rfl _ LK Hh.o U6 ?_)
   intro v6 w6 YS UM;have WH:w6.ownsRow w.heap.size 3 1 v6 vn.length (vn.map (Value.int .i64)):=by rw[<-Bj.o];first | exact YS | simpa using YS
   have HU:=Ub.o.push8 NP.o UM WH;have d1:=Z_ HU.2 1 _ rfl;have z1:=Z0 HU.2 1;have Oq:=hI HU.1;obtain⟨a6,c6,Cc⟩:=ZJ WH;subst Cc;clear HU UM Ub NP LK YS WH Bj Hh;refine hK _ _ ?_;go_wp2_with fail
   go_meet
   refine⟨(.slice a6 vn.length c6),(.slice none 0 0),(.slice none 0 0),(.slice none 0 0),?_⟩;rw[HE.o];exact Oq.o
  ·subst YD
   have HE:Hid (Q=(⟨9,[],[],0,[],(Zc c.en c.T (litR c.en c.T c.nm) p1).1⟩,(Zc c.en c.T (litR c.en c.T c.nm) p1).2)):=by show _=_;rw[HQ.o];unfold QY;simp only[show ¬((9:Int)=1∨(9:Int)=2∨(9:Int)=3) by decide,if_false,show ¬((9:Int)=4) by decide,show ¬((9:Int)=5) by decide,show ¬((9:Int)=6) by decide,show ¬((9:Int)=7) by decide,show ¬((9:Int)=8) by decide,if_true]
   clear HQ;obtain⟨L,hL⟩:∃L,Zc c.en c.T (litR c.en c.T c.nm) p1=L:=⟨_,rfl⟩;rw[hL] at HE;have YW:Hid (Vw c.en c.T (litR c.en c.T c.nm) (c.T.length+2) [] (PV c.en c.T p1)=L):=hL;clear hL;go_wp2_with fail
   refine (x7 c p1 _ ZK.o.st).mono ?_;rintro e wm ⟨rfl,ZZ,Z'⟩;obtain⟨q,hq⟩:∃q,PV c.en c.T p1=q:=⟨_,rfl⟩;rw[hq] at YW ZZ ⊢;obtain⟨bm,pm⟩:=q;have Mt:=hI (ZK.o.call Z' ZZ);clear ZZ Z' hq ZK
   dsimp only
   go_wp2_with fail
   go_loopw [11] (λmo wr=>∃(f:Nat) (acc:List MLit) (b:Bool) (p:RP) (vx:Value),Hid (Vw c.en c.T (litR c.en c.T c.nm) f acc (b,p)=L)/\mo=.bool b/\Hid (ConT c w wr p (.slice none 0 0) (.slice none 0 0) (.slice none 0 0) vx ⟨9,[],[],0,[],acc⟩)/\acc.length+f=c.T.length+2/\(b=true->c.T.length+2<=f+p.k)) (λ_ wr=>c.T.length+3 - PO wr ⟨w.heap.size+1,5,none⟩)
   case atStart=>exact⟨c.T.length+2,[],bm,pm,_,YW,rfl,Mt,by simp,λ_=>by omega⟩
   clear YW Mt;obtain⟨f,acc,b,p2,vx,YW,rfl,ZK,FE,Sm⟩:=hrel;have J4:=ZK.o.st.kT;obtain⟨al,cl,rfl⟩:=ZJ ZK.o.own.2.2.2;cases b
   ·have HL:Hid (L=(acc,p2)):=YW.o.symm.trans (xV _ _ _ _ _ _)
    clear Sm YW;go_wp2_with fail
    go_meet
    refine⟨(.slice none 0 0),(.slice none 0 0),(.slice none 0 0),(.slice al acc.length cl),?_⟩;rw[HE.o,HL.o];exact ZK.o
   have FD:=Sm rfl;obtain⟨g,rfl⟩:∃g,f=g+1:=⟨f - 1,by omega⟩
   have Yk:Hid (Vw c.en c.T (litR c.en c.T c.nm) g (acc++[((litR c.en c.T c.nm) p2).1]) (VT c.en c.T ((litR c.en c.T c.nm) p2).2)=L):=(xW _ _ _ _ _ _).symm.trans YW.o;have QH:Hid (acc.length<=5000):=by show _<=_;omega
   have To:Hid (PO wr ⟨w.heap.size+1,5,none⟩=acc.length):=by show _=_;unfold PO;rw[Z_ ZK.o.con 5 _ rfl];rfl
   clear Sm YW;go_wp2_with fail
   have c1:wr.cell? ⟨w.heap.size+1,5,none⟩=some (.slice al acc.length cl):=Z_ ZK.o.con 5 _ rfl;have WR:Hid (ConT c w wr.drew p2 (.slice none 0 0) (.slice none 0 0) (.slice none 0 0) (.slice al acc.length cl) ⟨9,[],[],0,[],acc⟩):=ZK.o.below (Z6 _ _).drew;have Xs:=gR c p2 wr.drew WR.o.st;have W_:Hid (p2.k<=((litR c.en c.T c.nm) p2).2.k):=qZ c.en c.T c.nm p2;obtain⟨q,hq⟩:∃q,(litR c.en c.T c.nm) p2=q:=⟨_,rfl⟩;rw[hq] at Xs Yk W_;obtain⟨x,p3⟩:=q;clear hq
   dsimp only at Xs Yk W_
   go_region_law
    (first
      | (rw[if_pos (by rfl)];refine wp_append_own _ _ _ 27 rfl w.heap.size 76 iL _ 3 24 yG gH AZ AY AX rfl (by decide) _ _ _ rfl (HT.own.2.2.2.alloc _) ⟨w8.heap.size,0,none⟩ 1 1 (litC x) rfl rfl (yH w8 x) (yI x) ?_ ?_ ?_ ?_;(have:=QH.o;unfold maxLen;dsimp only;omega);(have:=QH.o;dsimp only;omega);(have:=HT.base;simp;omega);intro v9 w9 Zp Xg _;have HU:=HT.pushLit Xg rfl Zp;have d0:=Z_ HU.2 5 _ rfl;have z0:=Z0 HU.2 5;obtain⟨a9,b9,Rk⟩:=ZJ Zp;subst Rk)
      | (rw[if_pos (by rfl)];go_simp;go_at_call 106;refine Xs.mono ?_;rintro e w8 ⟨rfl,PN,Tg⟩;have HT:=WR.o.call Tg PN;have c8:=Z_ HT.con 5 _ rfl;have rt:w.heap.size+1<w8.heap.size:=(Z8.1 HT.con).1;unfold litA;dsimp only))
   all_goals
    have Oq:=hI HU.1;clear HT HU WR Xs Xg Zp c1 c8 ZK PN Tg;go_wp2_with fail
    clear d0 z0;refine (xZ c p3 _ Oq.o.st).mono ?_;rintro e w4 ⟨rfl,h4,Vj⟩;have QZ:Hid ((VT c.en c.T p3).1=true->(VT c.en c.T p3).2.k=p3.k+1):=xX c.en c.T p3;obtain⟨q,hq⟩:∃q,VT c.en c.T p3=q:=⟨_,rfl⟩;rw[hq] at Yk h4 QZ ⊢;obtain⟨b4,p4⟩:=q;have X9:=hI (Oq.o.call Vj h4);clear h4 Vj hq Oq
    dsimp only at *
    have Yp:Hid (b4=true->c.T.length+2<=g+p4.k):=λhb=>by have h1:=QZ.o hb;have h2:=W_.o;omega
    have IE:Hid (PO w4 ⟨w.heap.size+1,5,none⟩=acc.length+1):=by show _=_;unfold PO;rw[Z_ X9.o.con 5 _ rfl];rfl
    go_wp2
    go_roundw
    case rel=>exact⟨g,acc++[x],b4,p4,_,Yk,rfl,X9,by simp;omega,Yp.o⟩
    case measure=>have h1:=To.o;have h2:=IE.o;simp only[h1,h2];omega
  ·subst YD
   have HE:Hid (Q=(⟨10,[(vR c.en c.T c.nm p1).1],[],0,[],[(litR c.en c.T c.nm (vR c.en c.T c.nm p1).2).1]⟩,(litR c.en c.T c.nm (vR c.en c.T c.nm p1).2).2)):=by show _=_;rw[HQ.o];unfold QY;simp only[show ¬((10:Int)=1∨(10:Int)=2∨(10:Int)=3) by decide,if_false,show ¬((10:Int)=4) by decide,show ¬((10:Int)=5) by decide,show ¬((10:Int)=6) by decide,show ¬((10:Int)=7) by decide,show ¬((10:Int)=8) by decide,show ¬((10:Int)=9) by decide,if_true]
   clear HQ;go_wp2_with fail
   refine (Ln c p1 _ ZK.o.st).mono ?_;rintro e w2 ⟨rfl,ZZ,Z'⟩;obtain⟨q,hq⟩:∃q,vR c.en c.T c.nm p1=q:=⟨_,rfl⟩;rw[hq] at ZZ HE ⊢;obtain⟨a,p2⟩:=q;clear hq
   dsimp only at ZZ HE ⊢
   have Zq:=hI (ZK.o.call Z' ZZ);clear ZZ Z' ZK;have k0:w2.cell? ⟨w.heap.size+1,1,none⟩=some (.slice none 0 0):=Z_ Zq.o.con 1 _ rfl;have z0:=Z0 Zq.o.con 1;have l0:w.heap.size+1<w2.heap.size:=(Z8.1 Zq.o.con).1;have G8:Hid (ConT c w ((w2.setCell ⟨w.heap.size+1,1,none⟩ (.slice (some ⟨w2.heap.size,0,none⟩) 1 1)).alloc (.cells #[.int .i64 a] 3)) p2 (.slice (some ⟨w2.heap.size,0,none⟩) 1 1) (.slice none 0 0) (.slice none 0 0) (.slice none 0 0) ⟨10,[a],[],0,[],[]⟩):=Zq.o.varsLit [a] (by simp)
   clear Zq;go_wp2_with fail
   clear k0 z0 l0;obtain⟨av,zR⟩:∃av:Option Addr,some ⟨w2.heap.size,0,none⟩=av:=⟨_,rfl⟩;obtain⟨yy,qK⟩:∃yy,(w2.setCell ⟨w.heap.size+1,1,none⟩ (.slice (some ⟨w2.heap.size,0,none⟩) 1 1)).alloc (.cells #[.int .i64 a] 3)=yy:=⟨_,rfl⟩;rw[qK,zR] at G8;rw[qK];clear qK zR;have QH:Hid (([]:List MLit).length<=5000):=by show _<=_;simp
   have c1:yy.cell? ⟨w.heap.size+1,5,none⟩=some (.slice none 0 0):=Z_ G8.o.con 5 _ rfl;have WR:Hid (ConT c w yy.drew p2 (.slice av 1 1) (.slice none 0 0) (.slice none 0 0) (.slice none 0 0) ⟨10,[a],[],0,[],[]⟩):=G8.o.below (Z6 _ _).drew;have Xs:=gR c p2 yy.drew WR.o.st;obtain⟨q,hq⟩:∃q,(litR c.en c.T c.nm) p2=q:=⟨_,rfl⟩;rw[hq] at Xs HE;obtain⟨x,p3⟩:=q;clear hq
   dsimp only at Xs HE
   go_region_law
    (first
      | (rw[if_pos (by rfl)];refine wp_append_own _ _ _ 27 rfl w.heap.size 76 iL _ 3 24 yG gH AZ AY AX rfl (by decide) _ _ _ rfl (HT.own.2.2.2.alloc _) ⟨w8.heap.size,0,none⟩ 1 1 (litC x) rfl rfl (yH w8 x) (yI x) ?_ ?_ ?_ ?_;(have:=QH.o;unfold maxLen;dsimp only;omega);(have:=QH.o;dsimp only;omega);(have:=HT.base;simp;omega);intro v9 w9 Zp Xg _;have HU:=HT.pushLit Xg rfl Zp;have d0:=Z_ HU.2 5 _ rfl;have z0:=Z0 HU.2 5;obtain⟨a9,b9,Rk⟩:=ZJ Zp;subst Rk)
      | (rw[if_pos (by rfl)];go_simp;go_at_call 106;refine Xs.mono ?_;rintro e w8 ⟨rfl,PN,Tg⟩;have HT:=WR.o.call Tg PN;have c8:=Z_ HT.con 5 _ rfl;have rt:w.heap.size+1<w8.heap.size:=(Z8.1 HT.con).1;unfold litA;dsimp only))
   all_goals
    have Oq:=hI HU.1;clear HT HU WR Xs Xg Zp c1 c8 G8;go_wp2_with fail
    go_meet
    refine⟨(.slice av 1 1),(.slice none 0 0),(.slice none 0 0),(.slice a9 1 b9),?_⟩;rw[HE.o];exact Oq.o
  subst YD;have HE:Hid (Q=(⟨11,[],[],0,[],[]⟩,p1)):=by show _=_;rw[HQ.o];rfl
  clear HQ;go_wp2_with fail
  go_meet
  refine⟨(.slice none 0 0),(.slice none 0 0),(.slice none 0 0),(.slice none 0 0),?_⟩;rw[HE.o];exact ZK.o
 obtain⟨vv,vc,vr,vl,hT⟩:=hcut.o;have HT:=hI hT;obtain⟨a1,c1,rfl⟩:=ZJ hT.own.1;obtain⟨a2,c2,rfl⟩:=ZJ hT.own.2.1;obtain⟨a3,c3,rfl⟩:=hT.own.2.2.1.form;obtain⟨a4,c4,rfl⟩:=ZJ hT.own.2.2.2;have k0:=Z_ hT.con 0 _ rfl;have k1:=Z_ hT.con 1 _ rfl;have k2:=Z_ hT.con 2 _ rfl;have k3:=Z_ hT.con 3 _ rfl;have k4:=Z_ hT.con 4 _ rfl;have k5:=Z_ hT.con 5 _ rfl;have r0:=Z_ hT.res 0 _ rfl;have r1:=Z_ hT.res 1 _ rfl;have r2:=Z_ hT.res 2 _ rfl;have r3:=Z_ hT.res 3 _ rfl;have r4:=Z_ hT.res 4 _ rfl;have r5:=Z_ hT.res 5 _ rfl;have x0:=Z0 hT.res 0;have x1:=Z0 hT.res 1;have x2:=Z0 hT.res 2;have x3:=Z0 hT.res 3;have x4:=Z0 hT.res 4;have x5:=Z0 hT.res 5;have Q7:=HT.o.endd;clear hT hcut;go_wp2
 refine bodyPost_ret (by simp[results,results51,go_sem, *];try rfl) rfl ?_
 obtain⟨e1,e2,e3⟩:=Q7 _ _ _ _ _ _ _ rfl;exact⟨_,_,_,_,rfl,e1,e2,e3⟩
end Go.Proofs.YtndcpnlaadikoaaGreatDoor
