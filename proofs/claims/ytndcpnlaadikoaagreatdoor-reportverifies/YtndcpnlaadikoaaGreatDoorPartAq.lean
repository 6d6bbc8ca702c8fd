/- What the proof leans on, part 17. -/
import Derived.Test.YtndcpnlaadikoaaGreatDoorPartAp
set_option maxRecDepth 100000
set_option maxHeartbeats 6400000
open Go.Proofs.Tryz
namespace Go.Proofs.YtndcpnlaadikoaaGreatDoor
open Go.RowKit Go.Maps
theorem mE (vs:List MVar) (t:MStep):∀(a p:List MStep),zBf vs (a++[t]) p=(if ((zBf vs a p).map λx=>zAH vs x.cla).contains (zAH vs t.cla) then zBf vs a p else zBf vs a p++[t])
 | [],p=>by simp[zBf]
 | x :: r,p=>by rw[O3];unfold zBf;exact mE vs t r _
theorem mD (vs:List MVar):∀(a p:List MStep),(zBf vs a p).length<=p.length+a.length
 | [],p=>by simp[zBf]
 | x :: r,p=>by
   unfold zBf;have:=mD vs r (if (p.map λx=>zAH vs x.cla).contains (zAH vs x.cla) then p else p++[x])
   have h2:(if (p.map λx=>zAH vs x.cla).contains (zAH vs x.cla) then p else p++[x]).length<=p.length+1:=by split <;> simp
   rw[Xe];omega
theorem zQj (L:List SV):∀c∈L.map UY,c.length=3:=by
 intro c hc;obtain⟨x,_,rfl⟩:=Zj.1 hc;rfl
theorem mC {base:Nat} {w:World} {a:Option Addr} {c:Nat} {T:List SV} (h:zCQ base w (.slice a T.length c) T) (i:Nat) (x:SV) (hi:T[i]? = some x):∃b off,a=some ⟨b,off,none⟩/\b<w.heap.size /\
 w.cell? ⟨b,off+i * 3,none⟩=some (.int .i64 x.1.kind)/\w.cell? ⟨b,off+i * 3+1,none⟩=some (.int .i64 x.1.con)/\w.cell? ⟨b,off+i * 3+2,none⟩=some x.2:=by
 rcases h.1.2 with ⟨he,hn⟩ | ⟨g,cap,cur,he,_,hh,_⟩
 ·have:=(ZN.1 hi).1
  omega
 cases he
 have hc:∀(j:Nat) (u:Value),j<3->(UY x)[j]? = some u->w.cell? ⟨g,i * 3+j,none⟩=some u:=λj u hj hu=>by
  have KK:=(ZN.1 hi).1;have h3:(T.map UY).flatten[i * 3+j]? = some u:=by
   have h4:(T.map UY)[i]? = some (UY x):=by rw[YN,hi];rfl
   have h5:=C3 3 i (T.map UY) (zQj T);have h6:(T.map UY).drop i=UY x :: (T.map UY).drop (i+1):=by
    have hl:i<(T.map UY).length:=by simpa using KK
    rw[Yc hl]
    congr 1
    rw[ZA hl] at h4;exact Zl h4
   have h7:((T.map UY).flatten.drop (i * 3))[j]? = some u:=by
    rw[h5,h6,RR,V8 (by simpa[UY] using hj)]
    exact hu
   rwa [K'] at h7
  have Z7:=(ZN.1 h3).1;rw[h.1.1] at Z7;rw[h.1.cellAt (i * 3+j) Z7];exact h3
 refine⟨g,0,rfl,(Z8.1 hh).1,?_,?_,?_⟩
 ·have:=hc 0 _ (by omega) rfl
  simpa using this
 ·have:=hc 1 _ (by omega) rfl
  simpa using this
 have:=hc 2 _ (by omega) rfl
 simpa using this
def XP (s mb:Nat) (prv:Value) (k:Nat):Prop:=k=s∨k=mb∨prv.ownBlock=some k
structure PvI (W w:World) (s r mb:Nat) (sv pv cv prv pav:Value) (vs:List MVar) (S:Sk) (base:Nat) (stv:Value) (T:List SV) (k:Nat) (wr:World) (prv':Value) (L':List SV):Prop where
 sk:SkD W wr s r mb sv pv cv prv' pav L' ((zBf vs ((T.take k).map (·.1)) S.proof).map λx=>zAH vs x.cla) ⟨S.cs,S.fuel,zBf vs ((T.take k).map (·.1)) S.proof,S.path⟩
 st:zCQ base wr stv T
 ap:∀g,prv'.ownBlock=some g->stv.ownBlock≠some g
 fr:Fr (XP s mb prv) w wr
 hq:prv'.ownBlock=prv.ownBlock∨∀g,prv'.ownBlock=some g->w.heap.size<=g
 pb:∀g,pav.ownBlock=some g->g<base
 tf:TFr w wr
theorem PvI.below {W w:World} {s r mb:Nat} {sv pv cv prv pav:Value} {vs:List MVar} {S:Sk} {base:Nat} {stv:Value} {T:List SV} {k:Nat} {wr w2:World} {prv':Value} {L':List SV} (h:PvI W w s r mb sv pv cv prv pav vs S base stv T k wr prv' L') (hb:Bw wr w2):PvI W w s r mb sv pv cv prv pav vs S base stv T k w2 prv' L' :=
 ⟨h.sk.below hb,h.st.below hb,h.ap,h.fr.trans (Fr.below hb),h.hq,h.pb,h.tf.trans (TFr.below hb)⟩
theorem zST (vs:List MVar) (Zf:Vb vs) (pt:List (List Nat)) (W:World) (s r mb:Nat) (sv pv cv prv pav:Value) (hB:SkB W s r mb sv pv vs pt) (L:List SV) (S:Sk) (hS:S.proof.length<=6000) (T:List SV) (hT:T.length<=1500) (base:Nat) (stv:Value) (w:World)
 (hD:SkD W w s r mb sv pv cv prv pav L (S.proof.map λx=>zAH vs x.cla) S) (ZZ:zCQ base w stv T) (Yv:W.heap.size<=base) (mB:∀g,pav.ownBlock=some g->g<base) (mA:∀g,prv.ownBlock=some g->g<base) :
 Calls prog 199 #[.pointer (some ⟨s,0,none⟩),stv] w λe w'=>e=.returned (.tuple #[])/\∃prv' L',SkD W w' s r mb sv pv cv prv' pav L' ((zBf vs (T.map (·.1)) S.proof).map λx=>zAH vs x.cla) ⟨S.cs,S.fuel,zBf vs (T.map (·.1)) S.proof,S.path⟩/\Fr (XP s mb prv) w w'/\TFr w w':=by
 obtain⟨i0,WJ,Ze,Y_,Zb⟩:=info_parts mS;have YQ:=hI Zf;have UZ:=hI hB;have HPL:Hid (∀k,(zBf vs ((T.take k).map (·.1)) S.proof).length<=7500):=λk=>by
  have:=mD vs ((T.take k).map (·.1)) S.proof
  rw[YU,X_] at this;omega
 have Hg:Hid ((T.take T.length).map (·.1)=T.map (·.1)):=by show _=_;rw[Qv]
 have HI:Hid (PvI W w s r mb sv pv cv prv pav vs S base stv T 0 w prv L):=by
  refine⟨hD,ZZ,λg hg he=>?_,Fr.refl _ _,Or.inl rfl,mB,TFr.refl _⟩
  have:=mA g hg;have:=(ZZ.1.lt g he).1;omega
 obtain⟨asv,csv,R'⟩:∃a c,sv=.slice a vs.length c:=by obtain⟨a,c,h,_⟩:=(hB.keep w hD.fr).1;exact⟨a,c,h⟩
 obtain⟨ast,cst,rfl⟩:=ZJ ZZ.1;have hTm:T.length<=1500:=hT;have Ws:=hI Yv;subst R';clear hD ZZ Zf hB mB mA hT Yv;go_enter func199,ntmps199
 go_wp2_with fail
 go_loopw [11] (λi wr=>∃(k:Nat) (prv':Value) (L':List SV),k<=T.length/\i=.int .i64 k/\PvI W w s r mb (.slice asv vs.length csv) pv cv prv pav vs S base (.slice ast T.length cst) T k wr prv' L') (λi _=>T.length - (intOf i).toNat)
 case atStart=>exact⟨0,prv,L,by omega,rfl,HI.o⟩
 obtain⟨k,prv',L',hk,rfl,hII⟩:=hrel;have HJ:=hI hII;clear hII HI;by_cases Z7:k<T.length
 ·obtain⟨x,hx⟩:∃x,T[k]? = some x:=⟨T[k],by simp[Z7]⟩
  obtain⟨b,off,ha,YF,c0,c1,c2⟩:=mC HJ.o.st k x hx;subst ha;obtain⟨⟨xk,xc,xcl⟩,xv⟩:=x;have QN:Hid (LOwn base wr xv xcl):=HJ.o.st.2 _ (Zz hx);obtain⟨axv,cxv,rfl⟩:=ZJ (show wr.ownsRow _ _ _ _ _ _ from QN.o)
  simp only at c0 c1 c2;have Xt:Hid (zBf vs ((T.take (k+1)).map (·.1)) S.proof=(if ((zBf vs ((T.take k).map (·.1)) S.proof).map λx=>zAH vs x.cla).contains (zAH vs xcl) then zBf vs ((T.take k).map (·.1)) S.proof else zBf vs ((T.take k).map (·.1)) S.proof++[⟨xk,xc,xcl⟩])):=by
   show _=_;rw[Y1,hx,YY];exact mE vs _ _ _
  have Pp:=HPL.o k;clear hx;go_wp2_with fail
  obtain⟨Y,hY⟩:∃Y,wr.alloc (.cells #[.int .i64 xk,.int .i64 xc,.slice axv xcl.length cxv] 39)=Y:=⟨_,rfl⟩;rw[hY];have LJ:Bw wr Y:=by rw[<-hY];exact Z4 _ _
  have zx:=hI (HJ.o.below LJ);have ud:Hid (LOwn base Y (.slice axv xcl.length cxv) xcl):=YZ (show wr.ownsRow _ _ _ _ _ _ from QN.o) LJ
  obtain⟨q,hq⟩:∃q,wr.heap.size=q:=⟨_,rfl⟩;have d0:Y.cell? ⟨q,0,none⟩=some (.int .i64 xk):=by rw[<-hY,<-hq];simp
  have d1:Y.cell? ⟨q,1,none⟩=some (.int .i64 xc):=by rw[<-hY,<-hq];simp
  have d2:Y.cell? ⟨q,2,none⟩=some (.slice axv xcl.length cxv):=by rw[<-hY,<-hq];simp
  have dl:q<Y.heap.size:=by rw[<-hY,<-hq];simp
  rw[hq];have CC:Hid (W.heap.size<=q):=by rw[<-hq];exact HJ.o.sk.fr.size
  have HJQ:Hid (∀g,prv'.ownBlock=some g->g<q):=λg hg=>by rw[<-hq];exact (HJ.o.sk.prf.1.lt g hg).2
  obtain⟨s0,s1,s2,s3,s4,s5,s6⟩:=zx.o.sk.cells;obtain⟨h,hh⟩:∃h,zAH vs xcl=h:=⟨_,rfl⟩;have VC:Hid (h<2 ^ 36):=by rw[<-hh];exact Qh vs YQ.o.1 _
  rw[hh] at Xt;have EN:Hid (∀Z,Bw Y Z->Calls prog 85 #[.slice asv vs.length csv,.slice axv xcl.length cxv] Z λe w'=>e=.returned (.int .u64 (h:Int))/\Bw Z w'):=λZ hZ=>by
   rw[<-hh];exact Jp vs YQ.o xcl _ _ Z ((UZ.o.keep _ ((zx.o.below hZ).sk.fr)).1) (LOwn.arg (YZ (show Y.ownsRow _ _ _ _ _ _ from ud.o) hZ))
  have HHH:=hI hh;clear hh hY LJ HJ QN c0 c1 c2 YF hq;go_region_law
   (first
     | (rw[if_pos (by rfl)];go_simp;go_at_call 85;refine (EN.o _ (Z6 _ _).drew).mono ?_;rintro e w3 ⟨rfl,ZG⟩;have hB3:Bw Y w3:=(Z6 _ _).drew.trans ZG;dsimp only))
  all_goals
   have NY:=hI (zx.o.below hB3);have Jd:Hid (LOwn base w3 (.slice axv xcl.length cxv) xcl):=YZ (show Y.ownsRow _ _ _ _ _ _ from ud.o) hB3
   have e0:=(hB3.cell (p:=⟨q,0,none⟩) dl).trans d0;have e1:=(hB3.cell (p:=⟨q,1,none⟩) dl).trans d1;have e2:=(hB3.cell (p:=⟨q,2,none⟩) dl).trans d2;have el:q<w3.heap.size:=ZQ dl hB3.size;have Rx:=zUZ h VC.o;clear d0 d1 d2 dl s0 s1 s2 s3 s4 s5 s6 ZG hB3 zx ud EN;obtain⟨s0,s1,s2,s3,s4,s5,s6⟩:=NY.o.sk.cells;have TU:=NY.o.sk.map;obtain⟨P,hP⟩:∃P,zBf vs ((T.take k).map (·.1)) S.proof=P:=⟨_,rfl⟩
   rw[hP] at Xt TU Pp;cases hc:(P.map λx=>zAH vs x.cla).contains h
   ·rw[hc] at Xt
    have hh:Maps.has (setU (H:=Unit) (P.map λx=>zAH vs x.cla)) (.int .u64 (h:Int))=false:=by rw[mI];exact hc
    clear hc;go_wp2_with (first
     | (at_lookup;refine wpList_lookup_own_unit _ rfl _ _ 114 rfl 136 282 ug uf (At _) mb _ _ rfl TU _ _ rfl Rx ?_)
     | (at_mapUpdate;refine wpList_mapUpdate_own _ rfl _ _ _ 114 rfl 136 282 ug uf (unitElem (H:=Unit)) mb _ _ rfl (TU.alloc _) (by unfold maxLen;rw[YU];omega) _ _ _ rfl rfl Rx _ [] unitElem_mk ?_;intro w5 XK Uq)
     | fail)
    have Tu:=NY.o.sk;rw[hP] at Tu;have I9:Hid (SkD W w5 s r mb (.slice asv vs.length csv) pv cv prv' pav L' ((P.map λx=>zAH vs x.cla)++[h]) ⟨S.cs,S.fuel,P,S.path⟩):=(Tu.below (Z4 _ _)).key h _ rfl Uq XK
    have uc:mb<w3.heap.size:=TU.lt;have zw:some q≠some mb:=λhe=>by
     have h1:=UZ.o.mlt;have h2:=CC.o;have:=Zl he;omega
    have f0:w5.cell? ⟨q,0,none⟩=some (.int .i64 xk):=Uq.cell (((Z4 _ _).cell (p:=⟨q,0,none⟩) el).trans e0) zw;have f1:w5.cell? ⟨q,1,none⟩=some (.int .i64 xc):=Uq.cell (((Z4 _ _).cell (p:=⟨q,1,none⟩) el).trans e1) zw;have f2:w5.cell? ⟨q,2,none⟩=some (.slice axv xcl.length cxv):=Uq.cell (((Z4 _ _).cell (p:=⟨q,2,none⟩) el).trans e2) zw;have fl:q<w5.heap.size:=by have:=Uq.size;simp at this;omega
    have km:∀{B:Nat} {e:TypeId} {n1 n2:Nat} {v:Value} {xs:List Value},w3.ownsRow B e n1 v n2 xs->w5.ownsRow B e n1 v n2 xs:=λho=>(ho.alloc (.cells #[] 282)).kept Uq (Or.inr (EC (ho.alloc (.cells #[] 282)) (TU.alloc (.cells #[] 282))))
    have Ho:Hid (LOwn base w5 (.slice axv xcl.length cxv) xcl):=km Jd.o;have EB:Hid (zCQ base w5 (.slice (some ⟨b,off,none⟩) T.length cst) T):=⟨km NY.o.st.1,λy hy=>km (NY.o.st.2 y hy)⟩
    have QJ:Hid (Fr (XP s mb prv) w w5):=(NY.o.fr.alloc _).grown Uq (λk hk=>Or.inl (Or.inr (Or.inl (Zl hk).symm)))
    have ub:Hid (TFr w w5):=(NY.o.tf.trans (TFr.below (Z4 _ _))).trans (TFr.map (TU.alloc _) Uq);have mz:Hid (∀g,prv'.ownBlock=some g->(Value.slice (some ⟨b,off,none⟩) T.length cst).ownBlock≠some g):=NY.o.ap;have my:Hid (prv'.ownBlock=prv.ownBlock∨∀g,prv'.ownBlock=some g->w.heap.size<=g):=NY.o.hq;have Y6:Hid (∀g,pav.ownBlock=some g->g<base):=NY.o.pb;have Je:L'.length<=7500:=by have h9:=Tu.prfE;simp only at h9;rw[<-h9,YU] at Pp;exact Pp
    clear Uq XK TU km Tu Rx hh s0 s1 s2 s3 s4 s5 s6 e0 e1 e2 el NY Jd zw uc;obtain⟨apr,cpr,rfl⟩:=ZJ I9.o.prf.1;obtain⟨s0,s1,s2,s3,s4,s5,s6⟩:=I9.o.cells;have hWs:W.heap.size<=w5.heap.size:=I9.o.fr.size;have GR:w5.ownsRow W.heap.size 39 3 (.slice apr L'.length cpr) L'.length (L'.map UY).flatten:=I9.o.prf.1;go_wp2_with fail
    go_region_law
     (first
       | (rw[if_pos (by rfl)];refine um _ _ _ 32 rfl W.heap.size 39 i0 _ 3 40 uy WJ Ze Y_ Zb rfl (by decide) _ _ _ rfl (GR.drew.alloc _) ⟨w5.heap.size,0,none⟩ 1 1 (UY (⟨xk,xc,xcl⟩,.slice axv xcl.length cxv)) rfl rfl (ux w5.drew (⟨xk,xc,xcl⟩,.slice axv xcl.length cxv)) (by intro u hu;simp[UY] at hu;rcases hu with rfl | rfl | rfl <;> rfl) ?_ ?_ ?_ ?_;(unfold maxLen;omega);omega;(simp;omega);intro v7 w7 WH LH Kw;obtain⟨a7,c7,ua⟩:=ZJ WH;subst ua
          have Tm:=Sz (I9.o.below ((Z6 _ _).drew.alloc (Z2 _) _)).blkS LH (GR.drew.alloc _) (by decide)
          have t3:w7.cell? ⟨s,3,none⟩=some (.slice apr L'.length cpr):=Z_ Tm 3 _ rfl;have z3:w7.frozen? ⟨s,3,none⟩=false:=Z0 Tm 3;have l3:s<w7.heap.size:=(Z8.1 Tm).1))
    all_goals
     have t_:Hid (PvI W w s r mb (.slice asv vs.length csv) pv cv prv pav vs S base (.slice (some ⟨b,off,none⟩) T.length cst) T (k+1) (w7.setCell ⟨s,3,none⟩ (.slice a7 (L'.length+1) c7)) (.slice a7 (L'.length+1) c7) (L'++[(⟨xk,xc,xcl⟩,.slice axv xcl.length cxv)])):=by
      have Yd:Bw w5 (w5.drew.alloc (.cells #[.int .i64 xk,.int .i64 xc,.slice axv xcl.length cxv] 39)):=(Z6 _ _).drew.alloc (Z2 _) _;have h2:zBf vs ((T.take (k+1)).map (·.1)) S.proof=P++[⟨xk,xc,xcl⟩]:=by rw[Xt.o];rfl
      have Rf:LOwn base (w5.drew.alloc (.cells #[.int .i64 xk,.int .i64 xc,.slice axv xcl.length cxv] 39)) (.slice axv xcl.length cxv) xcl:=YZ (show w5.ownsRow _ _ _ _ _ _ from Ho.o) Yd
      have MT:=I9.o.push (x:=(⟨xk,xc,xcl⟩,.slice axv xcl.length cxv)) Yd (Ri Ws.o Rf) (λg hg he=>by
       have:=Y6.o g he;have:=(World.ownsRow.lt (show w5.ownsRow _ _ _ _ _ _ from Ho.o) g hg).1
       omega) LH rfl WH
      have hT7:zCQ base w7 (.slice (some ⟨b,off,none⟩) T.length cst) T:=by
       have mx:=EB.o.below Yd;refine⟨mx.1.kept LH ?_,λy hy=>P_ (mx.2 y hy) LH (GR.drew.alloc _) (by decide)⟩
       cases hpo:(Value.slice (some ⟨b,off,none⟩) T.length cst).ownBlock with
       | none=>exact Or.inl rfl
       | some g=>exact Or.inr λhe=>mz.o g he.symm hpo
      refine⟨?_,hT7.set Tm (by decide) (by decide) 3 _,λg hg he=>?_,?_,?_,Y6.o,((ub.o.trans (TFr.below Yd)).trans (TFr.grown (GR.drew.alloc _) LH zUa)).trans (TFr.set Tm zz 3 _)⟩
      ·rw[h2,YY]
       simp only[VH,T9,HHH.o];exact MT
      ·rcases Kw with VL | VL
       ·exact mz.o g (VL.symm.trans hg) he
       rw[VL] at hg;have:=(EB.o.1.lt g he).2;have:=Zl hg;simp at this;omega
      ·refine ((QJ.o.trans (Fr.below Yd)).grown LH (λk hk=>?_)).setX (p:=⟨s,3,none⟩) (Or.inl rfl) _
       rcases my.o with hq | hq
       ·exact Or.inl (Or.inr (Or.inr (hq.symm.trans hk)))
       exact Or.inr (hq k hk)
      rcases Kw with VL | VL
      ·rcases my.o with hq | hq
       ·exact Or.inl (VL.trans hq)
       exact Or.inr λg hg=>hq g (VL.symm.trans hg)
      refine Or.inr λg hg=>?_
      rw[VL] at hg;have:=QJ.o.size;have:=Zl hg;simp at this;omega
     go_wp2
     go_roundw
     case rel=>exact⟨k+1,_,_,by omega,by go_num,t_.o⟩
     case measure=>simp[intOf];omega
   rw[hc] at Xt;have hh:Maps.has (setU (H:=Unit) (P.map λx=>zAH vs x.cla)) (.int .u64 (h:Int))=true:=by rw[mI];exact hc
   clear hc;go_wp2_with (first
    | (at_lookup;refine wpList_lookup_own_unit _ rfl _ _ 114 rfl 136 282 ug uf (At _) mb _ _ rfl TU _ _ rfl Rx ?_)
    | fail)
   have t_:Hid (PvI W w s r mb (.slice asv vs.length csv) pv cv prv pav vs S base (.slice (some ⟨b,off,none⟩) T.length cst) T (k+1) (w3.alloc (.cells #[] 282)) prv' L'):=by
    have h1:=NY.o.below (Z4 w3 (.cells #[] 282));have h2:zBf vs ((T.take (k+1)).map (·.1)) S.proof=zBf vs ((T.take k).map (·.1)) S.proof:=by rw[Xt.o,hP];rfl
    refine⟨?_,h1.st,h1.ap,h1.fr,h1.hq,h1.pb,h1.tf⟩;rw[h2];exact h1.sk
   go_roundw
   case rel=>exact⟨k+1,_,_,by omega,by go_num,t_.o⟩
   case measure=>simp[intOf];omega
 have hkt:k=T.length:=by omega
 subst hkt;have HF:=HJ.o.sk;rw[Hg.o] at HF;have VK:=HJ.o.fr;have Ji:=HJ.o.tf;go_wp2
 go_end0
 exact⟨rfl,_,_,HF,VK,Ji⟩
open Go.RowKit
theorem zSU (s:Sto) (k:Nat) (x:List Int) (b:Int) (h:s[k]? = some x):fewF s k (s.drop k) b=fewF s (k+1) (s.drop (k+1)) (if 1<x.length/\(b<0∨x.length<(s.getD b.toNat []).length) then (k:Int) else b):=by
 have hk:=(ZN.1 h).1;have:s[k]=x:=by rw[ZA hk] at h;exact Zl h
 rw[Yc hk,this];rfl
theorem zQk (s:Sto) (hs:s.length<=6) (v:Value) (w:World) (hv:RArg w v s) :
 Calls prog 126 #[v] w λe w'=>e=.returned (.int .i64 (R_ s))/\w'=w:=by
 obtain⟨a,c,rfl,hl,hr⟩:=hv;have HV:=hI hr;unfold maxLen at hl;obtain⟨WS,hl⟩:=hl;obtain⟨R,hR⟩:∃R,R_ s=R:=⟨_,rfl⟩;rw[hR];have HR:=hI hR;clear hr hR;go_enter func126,ntmps126
 go_wp2_with fail
 go_loopw [3,8] (λbv i wr=>∃(k:Nat) (b:Int),k<=s.length/\i=.int .i64 k/\bv=.int .i64 b/\-1<=b/\b<(s.length:Int)/\Hid (fewF s k (s.drop k) b=R)/\wr=w) (λ_ i _=>s.length - (intOf i).toNat)
 case atStart=>exact⟨0,-1,by omega,rfl,rfl,by omega,by omega,HR,rfl⟩
 obtain⟨k,b,hk,rfl,rfl,WB,Z5,hf,rfl⟩:=hrel;by_cases Z7:k<s.length
 ·obtain⟨x,hx⟩:∃x,s[k]? = some x:=⟨s[k],by simp[Z7]⟩
  have HF:=hf.o;rw[zSU s k x b hx] at HF;obtain⟨bb,off,y,Wv,Tn,hc,a5,c5,rfl,⟨hm5,Nj⟩,_⟩:=HV.o k x hx;subst Wv;unfold maxLen at Nj;by_cases h1:1<x.length
  ·have GQ:(1:Int)<(x.length:Int):=by omega
   by_cases h2:b<0
   ·rw[if_pos ⟨h1,Or.inl h2⟩] at HF
    have Zo:=hI HF;clear HF hf hx;go_wp2
    go_roundw
    case rel=>exact⟨k+1,(k:Int),by omega,by go_num,rfl,by omega,by omega,Zo,trivial⟩
    case measure=>simp[intOf];omega
   obtain⟨bn,rfl⟩:∃bn:Nat,b=(bn:Int):=⟨b.toNat,by omega⟩
   have Ug:bn<s.length:=by omega
   obtain⟨z,hz⟩:∃z,s[bn]? = some z:=⟨s[bn],by simp[Ug]⟩
   obtain⟨bb2,off2,y2,GP,hlb2,Yb,a6,c6,rfl,⟨hn5,vN⟩,_⟩:=HV.o bn z hz;cases GP
   unfold maxLen at vN;have zv:s.getD ((bn:Int)).toNat []=z:=by rw[YK,ZO,hz];rfl
   rw[zv] at HF;by_cases h3:x.length<z.length
   ·rw[if_pos ⟨h1,Or.inr h3⟩] at HF
    have CB:(x.length:Int)<(z.length:Int):=by omega
    have Zo:=hI HF;clear HF hf hx hz zv;go_wp2
    go_roundw
    case rel=>exact⟨k+1,(k:Int),by omega,by go_num,rfl,by omega,by omega,Zo,trivial⟩
    case measure=>simp[intOf];omega
   rw[if_neg (λh=>by rcases h.2 with h | h <;> omega)] at HF
   have CB:¬(x.length:Int)<(z.length:Int):=by omega
   have Zo:=hI HF;clear HF hf hx hz zv;go_wp2
   go_roundw
   case rel=>exact⟨k+1,(bn:Int),by omega,by go_num,rfl,by omega,by omega,Zo,trivial⟩
   case measure=>simp[intOf];omega
  have GQ:¬(1:Int)<(x.length:Int):=by omega
  rw[if_neg (λh=>h1 h.1)] at HF
  have Zo:=hI HF;clear HF hf hx;go_wp2
  go_roundw
  case rel=>exact⟨k+1,b,by omega,by go_num,rfl,by omega,by omega,Zo,trivial⟩
  case measure=>simp[intOf];omega
 have Zo:Hid (b=R):=by
  have:=hf.o;rw[QA (by omega)] at this
  exact this
 clear hf;go_wp2
 go_ret
 exact⟨Zm Zo.o,rfl⟩
theorem zUb (l:MLit) (c:Cla) (k:Nat) (x:MLit) (h:c[k]? = some x):idxL l (c.drop k)=if Dq l x then 0 else idxL l (c.drop (k+1))+1:=by
 have hk:=(ZN.1 h).1;have:c[k]=x:=by rw[ZA hk] at h;exact Zl h
 rw[Yc hk,this];rfl
theorem zQl (l:MLit) (c:Cla) (hm:l∈c) (Zr:c.length<=900) (v:Value) (w:World) (hv:LArg w v c) :
 Calls prog 200 #[v,.agg #[.int .i64 l.var,.int .i64 l.op,.int .i64 l.n]] w λe w'=>e=.returned (.int .i64 (idxL l c:Nat))/\Bw w w':=by
 obtain⟨a,cc,rfl,hl,hr⟩:=hv;have HV:=hI hr
 have HI:Hid (idxL l c<c.length):=vQ l c hm;unfold maxLen at hl;obtain⟨WS,hl⟩:=hl;obtain⟨R,hR⟩:∃R,idxL l c=R:=⟨_,rfl⟩;rw[hR] at HI ⊢;have HR:Hid (0+idxL l (c.drop 0)=R):=by show 0+idxL l (c.drop 0)=R;rw[List.drop_zero,Zn];exact hR
 clear hr hR hm;go_enter func200,ntmps200
 go_wp2_with fail
 go_loopw [8] (λi wr=>∃k:Nat,k<=c.length/\i=.int .i64 k/\Hid (k+idxL l (c.drop k)=R)/\Below (w.heap.size+1) (w.alloc (.cells #[.int .i64 l.var,.int .i64 l.op,.int .i64 l.n] 76)) wr) (λi _=>c.length - (intOf i).toNat)
 case atStart=>exact⟨0,by omega,rfl,HR,Z6 _ _⟩
 obtain⟨k,hk,rfl,hf,Z3⟩:=hrel;have Qe:Bw w wr:=(Z4 _ _).trans (Z3.mono (by omega))
 have g0:wr.cell? ⟨w.heap.size,0,none⟩=some (.int .i64 l.var):=(Z3.cell (p:=⟨w.heap.size,0,none⟩) (by simp)).trans (by simp)
 have g1:wr.cell? ⟨w.heap.size,1,none⟩=some (.int .i64 l.op):=(Z3.cell (p:=⟨w.heap.size,1,none⟩) (by simp)).trans (by simp)
 have g2:wr.cell? ⟨w.heap.size,2,none⟩=some (.int .i64 l.n):=(Z3.cell (p:=⟨w.heap.size,2,none⟩) (by simp)).trans (by simp)
 have HB:=hI Qe;have ZW:=hI Z3;clear Z3 Qe;by_cases Z7:k<c.length
 ·obtain⟨x,hx⟩:∃x,c[k]? = some x:=⟨c[k],by simp[Z7]⟩
  have HF:=hf.o;rw[zUb l c k x hx] at HF;obtain⟨bb,off,Wv,Tn,c0,c1,c2⟩:=HV.o k x hx;subst Wv;have e0:=(HB.o.cell (p:=⟨bb,off+k * 3,none⟩) Tn).trans c0;have e1:=(HB.o.cell (p:=⟨bb,off+k * 3+1,none⟩) Tn).trans c1;have e2:=(HB.o.cell (p:=⟨bb,off+k * 3+2,none⟩) Tn).trans c2;clear c0 c1 c2;by_cases hs:Dq l x=true
  ·rw[if_pos hs] at HF
   have Zo:Hid (k=R):=by show k=R;omega
   obtain rfl:=(vS l x).1 hs;clear HF hf hx hs;go_wp2_with fail
   go_quiet (fail)
   go_wp2_with fail
   go_ret
   exact⟨Zm (by rw[Zo.o]),below_drewN HB.o _⟩
  rw[if_neg hs] at HF;have Zo:Hid (k+1+idxL l (c.drop (k+1))=R):=by show _=R;omega
  clear HF hf hx;obtain⟨lv,lo,ln⟩:=l;obtain⟨xv,xo,xn⟩:=x;simp only at g0 g1 g2 e0 e1 e2 Zo HR;by_cases q1:lv=xv
  ·by_cases q2:lo=xo
   ·have q3:¬ln=xn:=λh=>hs ((vS _ _).2 (by rw[q1,q2,h]))
    subst q1 q2;have q3':(ln==xn)=false:=by simpa using q3
    clear hs;go_wp2_with fail
    go_quiet (fail)
    go_wp2
    go_roundw
    case rel=>exact⟨k+1,by omega,by go_num,Zo,below_drewN ZW.o _⟩
    case measure=>simp[intOf];omega
   have q2':(lo==xo)=false:=by simpa using q2
   subst q1;clear hs;go_wp2_with fail
   go_quiet (fail)
   go_wp2
   go_roundw
   case rel=>exact⟨k+1,by omega,by go_num,Zo,below_drewN ZW.o _⟩
   case measure=>simp[intOf];omega
  have q1':(lv==xv)=false:=by simpa using q1
  clear hs;go_wp2_with fail
  go_quiet (fail)
  go_wp2
  go_roundw
  case rel=>exact⟨k+1,by omega,by go_num,Zo,below_drewN ZW.o _⟩
  case measure=>simp[intOf];omega
 exfalso
 have:=hf.o;have:=HI.o;omega
theorem SkD.add {W w w':World} {s r mb:Nat} {sv pv cv cv' prv pav:Value} {L:List SV} {M:List Nat} {S:Sk} {V:World} {h:Nat} (hD:SkD W w s r mb sv pv cv prv pav L M S) (hV:V.heap.size=W.heap.size) (hR:RulD V w' r sv pv cv' (S.cs++[h])) (hf:Fr (λk=>k=r∨cv.ownBlock=some k) w w') :
 SkD W w' s r mb sv pv cv' prv pav L M ⟨S.cs++[h],S.fuel,S.proof,S.path⟩:=by
 have Wj:cv.ownBlock≠some r:=G6 hD.own hD.blkR (by decide)
 have Wx:cv.ownBlock≠some s:=G6 hD.own hD.blkS (by decide)
 have nX:∀{B:Nat} {e:TypeId} {n1 n2:Nat} {v:Value} {xs:List Value},w.ownsRow B e n1 v n2 xs->e≠136->e≠141->w'.ownsRow B e n1 v n2 xs:=λho he hr=>by
  refine EP ho hf λg hg hx=>?_
  rcases hx with hx | hx
  ·subst hx
   exact G6 ho hD.blkR (Ne.symm hr) hg
  rcases C7 ho hD.own he with h1 | h1
  ·rw[h1] at hg;cases hg
  exact h1 (hg.trans hx.symm)
 refine⟨hR.blk,(hf.block s (Z8.1 hD.blkS).1 (λhx=>?_)).trans hD.blkS,?_,hR.lt36,⟨nX hD.prf.1 (by decide) (by decide),λx hx=>nX (hD.prf.2 x hx) (by decide) (by decide)⟩,hD.prfE,?_,nX hD.path (by decide) (by decide),hD.apart,?_⟩
 ·rcases hx with hx | hx
  ·exact hD.rs hx.symm
  exact Wx hx
 ·rw[<-hV];exact hR.own
 ·obtain⟨es,clock,h1,h2⟩:=hD.map
  refine⟨es,clock,(hf.block mb (Z8.1 h1).1 (λhx=>?_)).trans h1,h2⟩
  rcases hx with hx | hx
  ·exact hD.nr hx.symm
  exact EC hD.own hD.map hx
 refine⟨hf.os.trans hD.fr.os,hf.tape.trans hD.fr.tape,hf.output.trans hD.fr.output,ZT hD.fr.size hf.size,λk hk hn=>(hf.block k (ZQ hk hD.fr.size) (λhx=>?_)).trans (hD.fr.block k hk hn)⟩
 rcases hx with hx | hx
 ·exact hn (Or.inl hx)
 have:=(hD.own.lt k hx).1;omega
def oldW (w:World) (n:Nat):World:={ w with heap:=w.heap.extract 0 n }
theorem GO (w:World) (n:Nat) (h:n<=w.heap.size):(oldW w n).heap.size=n:=by
 show (w.heap.extract 0 n).size=n;simp;omega
theorem zWD {X:Nat->Prop} (w:World) (n:Nat) (h:n<=w.heap.size):Fr X (oldW w n) w :=
 ⟨rfl,rfl,rfl,by rw[GO w n h];exact h,λk hk _=>by
   rw[GO w n h] at hk;show w.heap[k]? = (w.heap.extract 0 n)[k]?;rw[Array.getElem?_extract];simp;intro h9;omega⟩
theorem SkD.rulD {W w:World} {s r mb:Nat} {sv pv cv prv pav:Value} {L:List SV} {M:List Nat} {S:Sk} (hD:SkD W w s r mb sv pv cv prv pav L M S):RulD (oldW w W.heap.size) w r sv pv cv S.cs :=
 ⟨hD.blkR,by rw[GO w _ hD.fr.size];exact hD.own,hD.lt36,zWD w _ hD.fr.size⟩
theorem SkD.rul {W w:World} {s r mb:Nat} {sv pv cv prv pav:Value} {L:List SV} {M:List Nat} {S:Sk} {vs:List MVar} {pt:List (List Nat)} (hB:SkB W s r mb sv pv vs pt) (hD:SkD W w s r mb sv pv cv prv pav L M S):Rul (oldW w W.heap.size) r sv pv vs pt:=by
 refine⟨by rw[GO w _ hD.fr.size];exact hB.rlt,λw' hf=>hB.keep w' ?_⟩
 have hz:=GO w _ hD.fr.size;refine⟨hf.os.trans hD.fr.os,hf.tape.trans hD.fr.tape,hf.output.trans hD.fr.output,by rw[<-hz];exact hf.size,λk hk hn=>?_⟩
 have h1:=hf.block k (by rw[hz];exact hk) (λhe=>hn (Or.inl he))
 have h2:(oldW w W.heap.size).heap[k]? = w.heap[k]? := by
  show (w.heap.extract 0 W.heap.size)[k]? = w.heap[k]?;rw[Array.getElem?_extract];have h8:=hD.fr.size;simp;intro h9;omega
 exact h1.trans (h2.trans (hD.fr.block k hk hn))
theorem zUc (vs:List MVar) (Zf:Vb vs) (XH:1<=vs.length) (pt:List (List Nat)) (W:World) (s r mb:Nat) (sv pv cv prv pav:Value) (hB:SkB W s r mb sv pv vs pt) (L:List SV) (S:Sk) (hS:S.proof.length<=6000) (Wx:S.cs.length+S.fuel<=1000) (hp:S.path.length<=36) (hz:Wh vs pt S=0) (w:World)
 (hD:SkD W w s r mb sv pv cv prv pav L (S.proof.map λx=>zAH vs x.cla) S) :
 Calls prog 124 #[.pointer (some ⟨s,0,none⟩)] w λe w'=>e=.returned (.int .i64 (Wt vs pt S).1)/\TFr w w'/\∃cv' prv' pav' L',SkD W w' s r mb sv pv cv' prv' pav' L' ((Wt vs pt S).2.proof.map λx=>zAH vs x.cla) (Wt vs pt S).2:=by
 obtain⟨R,hR⟩:∃R,Wt vs pt S=R:=⟨_,rfl⟩;rw[hR];unfold Wt at hR;have YQ:=hI Zf;have UZ:=hI hB;have HD:=hI hD
 obtain⟨asv,csv,R'⟩:∃a c,sv=.slice a vs.length c:=by obtain⟨a,c,h,_⟩:=(hB.keep w hD.fr).1;exact⟨a,c,h⟩
 subst R';obtain⟨apa,cpa,rfl⟩:=ZJ hD.path;obtain⟨apr,cpr,rfl⟩:=ZJ hD.prf.1;obtain⟨s0,s1,s2,s3,s4,s5,s6⟩:=hD.cells;have z2:=hD.frz 2;have mw:S.fuel<=1000:=by omega
 by_cases h0:S.fuel=0
 ·rw[if_pos h0] at hR
  subst hR;have s3':w.cell? ⟨s,2,none⟩=some (.int .i64 0):=by rw[s3,h0];rfl
  clear s3 hD hB Zf hz;go_enter func124,ntmps124
  go_wp2
  go_ret
  exact⟨rfl,TFr.refl _,_,_,_,_,HD.o⟩
 rw[if_neg h0] at hR;have HR:=(show Hid _ from hR)
 obtain⟨f,hf⟩:∃f,S.fuel=f+1:=⟨S.fuel - 1,by omega⟩
 have t7:CO vs S.cs pt S.path=(Rt vs S.cs pt S.path,true):=by
  unfold CO Pw;unfold Wh at hz;rw[hz];rfl
 obtain⟨C,hC⟩:∃C,Rt vs S.cs pt S.path=C:=⟨_,rfl⟩;have mu:∀x∈C,x∈S.path:=λx hx=>bO vs S.cs pt S.path x (by rw[hC];exact hx)
 have I8:C.length<=S.path.length:=by rw[<-hC];exact bN vs S.cs pt S.path
 rw[hC] at t7 HR;have s3':w.cell? ⟨s,2,none⟩=some (.int .i64 ((f:Int)+1)):=by rw[s3,hf];congr 2
 have CA:Hid (SkD W (w.setCell ⟨s,2,none⟩ (.int .i64 (f:Int))) s r mb (.slice asv vs.length csv) pv cv (.slice apr L.length cpr) (.slice apa S.path.length cpa) L (S.proof.map λx=>zAH vs x.cla) ⟨S.cs,f,S.proof,S.path⟩):=HD.o.burn f
 rw[hf] at HR;have ms:Hid (TFr w (w.setCell ⟨s,2,none⟩ (.int .i64 (f:Int)))):=TFr.set HD.o.blkS zz 2 _;have W9:f<=1000:=by omega
 have hcs1:S.cs.length<=1000:=by omega
 have OM:Hid (∀Z,SkD W Z s r mb (.slice asv vs.length csv) pv cv (.slice apr L.length cpr) (.slice apa S.path.length cpa) L (S.proof.map λx=>zAH vs x.cla) ⟨S.cs,f,S.proof,S.path⟩ ->
  Calls prog 84 #[.pointer (some ⟨r,0,none⟩),.slice apa S.path.length cpa] Z λe w'=>∃x,e=.returned (.tuple #[x,.bool true])/\LOwn Z.heap.size w' x C/\Bw Z w'):=λZ hZ=>by
  have:=zQg vs Zf XH S.cs pt S.path (by omega) r _ pv cv _ Z (hZ.rules hB) (LOwn.arg hZ.path)
  rw[t7] at this;exact this
 clear s3 hD hB Zf hz hf h0 t7 hC Wx HD;go_enter func124,ntmps124
 go_wp2_with fail
 obtain⟨Y,hY⟩:∃Y,w.setCell ⟨s,2,none⟩ (.int .i64 (f:Int))=Y:=⟨_,rfl⟩;rw[hY] at CA ms ⊢;clear hY s0 s1 s2 s3' s4 s5 s6 z2;obtain⟨s0,s1,s2,s3,s4,s5,s6⟩:=CA.o.cells;go_region_law
  (first
    | (rw[if_pos (by rfl)];go_simp;go_at_call 84;refine (OM.o _ (CA.o.below (Z6 _ _).drew)).mono ?_;rintro e w2 ⟨x,rfl,GN,ZY⟩;have Vl:Bw Y w2:=(Z6 _ _).drew.trans ZY;obtain⟨ax,cx,MS⟩:=ZJ (show w2.ownsRow _ _ _ _ _ _ from GN);subst MS;dsimp only))
 all_goals
  have Uf:=(show Hid _ from CA.o.below Vl)
  have TX:Hid (TFr w w2):=ms.o.trans (TFr.below Vl);have tZ:=hI GN;clear GN ZY Vl s0 s1 s2 s3 s4 s5 s6;obtain⟨s0,s1,s2,s3,s4,s5,s6⟩:=Uf.o.cells;go_wp2_with fail
  refine (zQh vs YQ.o XH pt S.cs (by omega) C (by omega) r _ pv cv _ w2 (Uf.o.rules UZ.o) (LOwn.arg tZ.o)).mono ?_
  rintro e w3 ⟨stv,T,rfl,mr,ZZ,hTl,ZG⟩;have P4:=(show Hid _ from Uf.o.below ZG)
  have tY:Hid (TFr w w3):=TX.o.trans (TFr.below ZG);have Jd:Hid (LOwn Y.heap.size w3 (.slice ax C.length cx) C):=YZ (show w2.ownsRow _ _ _ _ _ _ from tZ.o) ZG
  have Kv:=hI ZZ;have AL:=hI mr
  have Y6:Hid (∀g,(Value.slice apa S.path.length cpa).ownBlock=some g->g<w2.heap.size):=λg hg=>(Uf.o.path.lt g hg).2
  have mq:Hid (∀g,(Value.slice apr L.length cpr).ownBlock=some g->g<w2.heap.size):=λg hg=>(Uf.o.prf.1.lt g hg).2
  have Cz:Hid (W.heap.size<=w2.heap.size):=Uf.o.fr.size;obtain⟨ast,cst,rfl⟩:=ZJ ZZ.1;clear mr ZZ ZG s0 s1 s2 s3 s4 s5 s6;obtain⟨s0,s1,s2,s3,s4,s5,s6⟩:=P4.o.cells;go_wp2_with fail
  refine (zST vs YQ.o pt W s r mb _ pv cv _ _ UZ.o L ⟨S.cs,f,S.proof,S.path⟩ hS T hTl w2.heap.size _ w3 P4.o Kv.o Cz.o Y6.o mq.o).mono ?_;rintro e w4 ⟨rfl,prv',L',P3,Vj,GS⟩;have Ku:=hI (tY.o.trans GS);clear GS;have EA:Hid (LOwn Y.heap.size w4 (.slice ax C.length cx) C):=by
   have ho:w3.ownsRow Y.heap.size 76 3 (.slice ax C.length cx) C.length (U_ C):=Jd.o;refine EP ho Vj λg hg hx=>?_
   rcases hx with hx | hx | hx
   ·subst hx
    exact G6 ho P4.o.blkS (by decide) hg
   ·subst hx
    exact EC ho P4.o.map hg
   rcases C7 ho P4.o.prf.1 (by decide) with h1 | h1
   ·rw[h1] at hg;cases hg
   exact h1 (hg.trans hx.symm)
  rw[AL.o] at P3;obtain⟨PR,tX⟩:∃PR,zBf vs (Hy vs S.cs pt C) S.proof=PR:=⟨_,rfl⟩;simp only at P3;rw[tX] at P3;have Wq:=HR.o;rw[tX] at Wq;have Po:=hI P3
  have Je:PR.length=L'.length:=by have h9:=P3.prfE;simp only at h9;rw[<-h9,YU]
  obtain⟨ap4,cp4,rfl⟩:=ZJ P3.prf.1;clear P3 Vj tX s0 s1 s2 s3 s4 s5 s6 Uf P4 tZ Jd Kv AL Y6 mq Cz CA OM HR;obtain⟨s0,s1,s2,s3,s4,s5,s6⟩:=Po.o.cells;by_cases h6:6000<L'.length
  ·have h6':(6000:Int)<(L'.length:Int):=by omega
   rw[if_pos (by omega)] at Wq
   subst Wq;clear Je;go_wp2
   go_ret
   exact⟨rfl,Ku.o,_,_,_,_,Po.o⟩
  have h6':¬(6000:Int)<(L'.length:Int):=by omega
  rw[if_neg (by omega)] at Wq
  by_cases XN:C.length=0
  ·rw[if_pos XN] at Wq
   subst Wq;have X':C=[]:=Xo.1 XN;subst X';clear Je;go_wp2
   go_ret
   exact⟨rfl,Ku.o,_,_,_,_,Po.o⟩
  rw[if_neg XN] at Wq;have QT:Hid _:=Wq;clear Wq Je;have Yb:¬(C.length:Int)=0:=by omega
  have xt:0<C.length:=by omega
  have tW:¬C=[]:=λh=>by rw[h] at XN;exact XN rfl
  go_wp2_with fail
  refine (nC vs YQ.o pt S.cs (by omega) C (oldW w4 W.heap.size) r _ pv cv _ w4 (Po.o.rul UZ.o) Po.o.rulD (LOwn.arg EA.o)).mono ?_
  rintro e w5 ⟨rfl,cv',Ng,RA⟩;have Rm:=Po.o.add (GO w4 _ Po.o.fr.size) Ng RA;have EB:Hid (TFr w w5):=Ku.o.trans ⟨RA.os,RA.tape,RA.output,RA.size,λk cs t z hk ht=>RA.block k (Z8.1 hk).1 λhx=>by
   rcases hx with hx | hx
   ·subst hx
    have:=hk.symm.trans Po.o.blkR;simp only[Option.some.injEq,Obj.cells.injEq] at this;rw[this.2.1] at ht;exact mG ht
   ·rcases Po.o.own.2 with ⟨hv,_⟩ | ⟨g,cap,cur,hv,_,hh,_⟩
    ·rw[hv] at hx;cases hx
    ·rw[hv] at hx
     have:g=k:=by simpa[Value.ownBlock] using hx
     subst this;have:=hk.symm.trans hh;simp only[Option.some.injEq,Obj.cells.injEq] at this;rw[this.2.1] at ht;exact mH ht⟩
  have Ho:Hid (LOwn Y.heap.size w5 (.slice ax C.length cx) C):=by
   have ho:w4.ownsRow Y.heap.size 76 3 (.slice ax C.length cx) C.length (U_ C):=EA.o;refine EP ho RA λg hg hx=>?_
   rcases hx with hx | hx
   ·subst hx
    exact G6 ho Po.o.blkR (by decide) hg
   rcases C7 ho Po.o.own (by decide) with h1 | h1
   ·rw[h1] at hg;cases hg
   exact h1 (hg.trans hx.symm)
  clear Ng RA EA Po s0 s1 s2 s3 s4 s5 s6;have Fb:Jr C∈C:=bM C XN;have Ez:Jr C∈S.path:=mu _ Fb;have Jl:C[C.length - 1]? = some (Jr C):=by unfold Jr;rw[ZO,ZA (by omega)];rfl
  obtain⟨l,hl⟩:∃l,Jr C=l:=⟨_,rfl⟩;rw[hl] at Fb Ez Jl QT;have tV:=vQ l S.path Ez;have NX:Hid (∀Z,Bw w5 Z->Calls prog 200 #[.slice apa S.path.length cpa,.agg #[.int .i64 l.var,.int .i64 l.op,.int .i64 l.n]] Z λe w'=>e=.returned (.int .i64 (idxL l S.path:Nat))/\Bw Z w'):=λZ hZ =>
   zQl l S.path Ez (by omega) _ Z (LOwn.arg (YZ (show w5.ownsRow _ _ _ _ _ _ from Rm.path) hZ))
  obtain⟨ix,Vn⟩:∃ix,idxL l S.path=ix:=⟨_,rfl⟩;rw[Vn] at tV NX QT;obtain⟨bx,ox,Wv,WV,x0,x1,x2⟩:=mM Ho.o (C.length - 1) l Jl;subst Wv;obtain⟨g,hg,Ni,QU⟩:∃g,apa=some ⟨g,0,none⟩/\S.path.length<=cpa/\cpa<=9223372036854775807:=by
   have ho:w5.ownsRow W.heap.size 76 3 (.slice apa S.path.length cpa) S.path.length (U_ S.path):=Rm.path;rcases ho.2 with ⟨_,hn⟩ | ⟨g,cap,cur,he,_,_,k1,k2,_⟩
   ·omega
   cases he
   exact⟨g,rfl,k1,k2⟩
  subst hg;have nc:ix<=cpa:=by omega
  have Cy:Hid _:=Rm;obtain⟨s0,s1,s2,s3,s4,s5,s6⟩:=Rm.cells;obtain⟨m,hm⟩:∃m,C.length=m+1:=⟨C.length - 1,by omega⟩
  rw[show C.length - 1=m by omega] at x0 x1 x2
  have hC5:C.length<=36:=by omega
  clear Jl Fb Ez hl Vn mu Ho Yb XN xt tW Rm I8;go_wp2_with fail
  have hm36:m<=36:=by omega
  have K3:m<m+1:=by omega
  have zu:(m:Int)<(m:Int)+1:=by omega
  have hwm:IntKind.i64.wrap (m:Int)=(m:Int):=by rw[IntKind.wrap_i64];omega
  clear hm hC5;go_region_law
   (first
     | (rw[if_pos (by rfl)];go_simp;go_at_call 200;refine (NX.o _ (Z6 _ _).drew).mono ?_;rintro e w6 ⟨rfl,Yz⟩;have LG:Bw w5 w6:=(Z6 _ _).drew.trans Yz;have t6:=(LG.cell (p:=⟨s,5,none⟩) s0).trans s6;have z6:=(Cy.o.below LG).frz 5;have l6:s<w6.heap.size:=ZQ s0 LG.size;dsimp only))
  all_goals
   have HD6:=(Cy.o.below LG).cutp ix (by omega) rfl
   have HT6:=(EB.o.trans (TFr.below LG)).trans (TFr.set (Cy.o.below LG).blkS zz 5 (.slice (some ⟨g,0,none⟩) ix cpa));go_wp2
   go_ret
   rw[<-QT.o];exact⟨rfl,HT6,_,_,_,_,HD6⟩
end Go.Proofs.YtndcpnlaadikoaaGreatDoor
