/- What the proof leans on, part 36. -/
import Derived.Test.YtndcpnlaadikoaaGreatDoorPartBi
import Derived.Test.YtndcpnlaadikoaaGreatDoorPartBb
set_option maxRecDepth 100000
set_option maxHeartbeats 6400000
open Go.Proofs.Tryz
namespace Go.Proofs.YtndcpnlaadikoaaGreatDoor
open Go.RowKit Go.Maps
theorem SkD.setO {W w:World} {s r mb:Nat} {sv pv cv prv pav:Value} {L:List SV} {M:List Nat} {S:Sk} {C:Nat} {cs:Array Value} {t:TypeId} (h:SkD W w s r mb sv pv cv prv pav L M S) (hC:w.heap[C]? = some (.cells cs t)) (ht:TNo t) (yh:W.heap.size<=C) (i:Nat) (u:Value):SkD W (w.setCell ⟨C,i,none⟩ u) s r mb sv pv cv prv pav L M S:=by
 have ZP:∀(q:Nat) (cs':Array Value) (t':TypeId),w.heap[q]? = some (.cells cs' t')->t'≠t->q≠C:=λq cs' t' hq hn he=>by
  subst he;have:=hq.symm.trans hC;simp only[Option.some.injEq,Obj.cells.injEq] at this;exact hn this.2.1
 exact⟨(CF w ⟨C,i,none⟩ u r (ZP r _ _ h.blkR (Ne.symm ht.1))).trans h.blkR,(CF w ⟨C,i,none⟩ u s (ZP s _ _ h.blkS (Ne.symm ht.2.1))).trans h.blkS,V_ h.own hC ht.2.2.1 i u,h.lt36,h.prf.set hC ht.2.2.2.1 ht.2.2.2.2 i u,h.prfE,h.map.setCell (Ne.symm (CG hC h.map)) u,V_ h.path hC ht.2.2.2.2 i u,h.apart,h.fr.setNew (p:=⟨C,i,none⟩) yh u⟩
theorem yg:TNo 118:=by unfold TNo;decide
theorem rU:TNo 53:=by unfold TNo;decide
theorem rT:TNo 25:=by unfold TNo;decide
theorem iU:TNo 3:=by unfold TNo;decide
theorem TFr.ofAdd {W w w':World} {s r mb:Nat} {sv pv cv prv pav:Value} {L:List SV} {M:List Nat} {S:Sk} (h:SkD W w s r mb sv pv cv prv pav L M S) (hf:Fr (λk=>k=r∨cv.ownBlock=some k) w w'):TFr w w' :=
 ⟨hf.os,hf.tape,hf.output,hf.size,λk cs t z hk ht=>hf.block k (Z8.1 hk).1 λhx=>by
   rcases hx with hx | hx
   ·subst hx
    have:=hk.symm.trans h.blkR;simp only[Option.some.injEq,Obj.cells.injEq] at this;rw[this.2.1] at ht;exact mG ht
   ·rcases h.own.2 with ⟨hv,_⟩ | ⟨g,cap,cur,hv,_,hh,_⟩
    ·rw[hv] at hx;cases hx
    ·rw[hv] at hx
     have:g=k:=by simpa[Value.ownBlock] using hx
     subst this;have:=hk.symm.trans hh;simp only[Option.some.injEq,Obj.cells.injEq] at this;rw[this.2.1] at ht;exact mH ht⟩
structure ClS (m:Mod) (A:Ans) (W:World) (s r mb C qm qa:Nat) (sv cs pv:Value) (v x:Value) (wr:World) (R:Int×List Int×Sk) (best:List Int) (bv cv prv pav:Value) (L:List SV):Prop where
 ans:zGS m R best=A
 ver:v=.int .i64 R.1
 val:wr.ownsRow W.heap.size 3 1 x R.2.1.length (R.2.1.map (Value.int .i64))
 ok:R.1=1->SkO m.vars R.2.2/\R.2.2.cs.length+R.2.2.fuel+zFW m R<=400
 sol:R.1=1->Sol m R.2.1
 sk:SkD W wr s r mb sv pv cv prv pav L (R.2.2.proof.map λx=>zAH m.vars x.cla) R.2.2
 blkC:wr.heap[C]? = some (.cells #[.pointer (some ⟨s,0,none⟩),bv] 118)
 blkM:wr.heap[qm]? = some (.cells #[sv,cs,.int .i64 m.goal,.int .i64 m.var] 25)
 blkA:wr.heap[qa]? = some (.cells #[.int .i64 0,.slice none 0 0,.slice none 0 0] 53)
 bst:wr.ownsRow W.heap.size 3 1 bv best.length (best.map (Value.int .i64))
def ClI (m:Mod) (A:Ans) (W:World) (s r mb C qm qa:Nat) (sv cs pv:Value) (v x:Value) (wr:World) (n:Nat):Prop :=
 ∃(R:Int×List Int×Sk) (best:List Int) (bv cv prv pav:Value) (L:List SV),zFW m R=n/\ClS m A W s r mb C qm qa sv cs pv v x wr R best bv cv prv pav L
theorem iT (m:Mod) (hm:Zs m=0) (W:World) (s r mb:Nat) (sv pv cv prv pav:Value) (hB:SkB W s r mb sv pv m.vars (ptsM m)) (L:List SV) (S:Sk) (hS:SkO m.vars S) (w:World) (hD:SkD W w s r mb sv pv cv prv pav L (S.proof.map λx=>zAH m.vars x.cla) S) :
 Calls prog 66 #[.pointer (some ⟨s,0,none⟩)] w λe w'=>∃x,e=.returned (.tuple #[.int .i64 (X3 m.vars (ptsM m) S).1,x])/\w'.ownsRow W.heap.size 3 1 x (X3 m.vars (ptsM m) S).2.1.length ((X3 m.vars (ptsM m) S).2.1.map (Value.int .i64))/\TFr w w' /\
  ∃cv' prv' pav' L',SkD W w' s r mb sv pv cv' prv' pav' L' ((X3 m.vars (ptsM m) S).2.2.proof.map λx=>zAH m.vars x.cla) (X3 m.vars (ptsM m) S).2.2 :=
 (mi m.vars (LZ m hm) (Ai m hm) (ptsM m) W s r mb sv pv cv prv pav hB L S hS w hD).mono (by
   rintro e w' ⟨x,h1,h2,h3,h4⟩;exact⟨x,h1,World.ownsRow.mono h2 hD.fr.size,h3,h4⟩)
theorem zTH (m:Mod) (hm:Zs m=0) (hg:m.goal=1∨m.goal=2) (fuel:Nat) (hf:fuel<=300) (W:World) (s r mb C:Nat) (sv cs pv:Value) (hB:SkB W s r mb sv pv m.vars (ptsM m)) (w:World)
 (hD:SkD W w s r mb sv pv (.slice none 0 0) (.slice none 0 0) (.slice none 0 0) [] [] ⟨[],fuel,[],[]⟩) (hC:w.heap[C]? = some (.cells #[.pointer (some ⟨s,0,none⟩),.slice none 0 0] 118)) (yh:W.heap.size<=C) :
 Calls prog 67 #[.pointer (some ⟨C,0,none⟩),modV sv cs m] w λe w'=>∃vv pp,e=.returned (.agg #[.int .i64 (Lq m fuel).verdict,vv,pp])/\AnsQ W.heap.size w' vv pp (Lq m fuel)/\Fr (XS s r mb) W w':=by
 obtain⟨A,hA⟩:∃A,Lq m fuel=A:=⟨_,rfl⟩;rw[hA];have HA:Hid (zGS m (X3 m.vars (ptsM m) ⟨[],fuel,[],[]⟩) []=A):=hA;have UZ:=hI hB;have HM:=hI hm;have HG:=hI hg;have zr:=hI yh;have iS:=(show Hid _ from hD)
 have hWw:=hD.fr.size;have I8:C<w.heap.size:=(Z8.1 hC).1;have yo:=hI hC;clear hA hD hB hm hg yh;unfold modV;go_enter func67,ntmps67
 have c0:=Z_ hC 0 _ rfl;have c1:=Z_ hC 1 _ rfl;clear hC;go_wp2_with fail
 obtain⟨Jx,YA⟩:=zm w (.cells #[sv,cs,.int .i64 m.goal,.int .i64 m.var] 25) (.cells #[.int .i64 0,.slice none 0 0,.slice none 0 0] 53);have Yt:Bw w ((w.alloc (.cells #[sv,cs,.int .i64 m.goal,.int .i64 m.var] 25)).alloc (.cells #[.int .i64 0,.slice none 0 0,.slice none 0 0] 53)):=(Z4 _ _).alloc (by simp) _
 refine (iT m HM.o W s r mb sv pv _ _ _ UZ.o [] ⟨[],fuel,[],[]⟩ (tM m.vars (fuel:Int) (by omega)) _ (iS.o.below Yt)).mono ?_
 rintro e w1 ⟨x,rfl,Xc,LF,cv1,prv1,pav1,L1,hd1⟩;have HI:Hid (∃n,ClI m A W s r mb C w.heap.size (w.heap.size+1) sv cs pv (.int .i64 (X3 m.vars (ptsM m) ⟨[],fuel,[],[]⟩).1) x w1 n):=by
  refine⟨_,X3 m.vars (ptsM m) ⟨[],fuel,[],[]⟩,[],.slice none 0 0,cv1,prv1,pav1,L1,rfl,HA.o,rfl,Xc,λh=>?_,λh=>(J3 m HM.o _ h).1,hd1,?_,?_,?_,ZH _ _ _ _⟩
  ·obtain⟨k1,k2⟩:=iW m.vars (Py m HM.o) (ptsM m) ⟨[],fuel,[],[]⟩ (tM m.vars (fuel:Int) (by omega)) h
   have:=zWT m HM.o (X3 m.vars (ptsM m) ⟨[],fuel,[],[]⟩) (λh=>(J3 m HM.o _ h).1)
   refine⟨k1,?_⟩;simp only[Tw] at k2;omega
  ·have h1:=(Yt.block C I8).trans yo.o
   exact (LF.block _ _ _ _ h1 yg).trans h1
  ·exact (LF.block _ _ _ _ Jx rT).trans Jx
  exact (LF.block _ _ _ _ YA rU).trans YA
 obtain⟨X1,iQ⟩:∃X1,(X3 m.vars (ptsM m) ⟨[],fuel,[],[]⟩).1=X1:=⟨_,rfl⟩;rw[iQ] at HI ⊢;have J8:C<w.heap.size:=I8;clear Xc LF hd1 Jx YA Yt iQ HA yo iS c0 c1;go_wp2_with fail
 go_loopw [5,6] (λv x wr=>∃n,ClI m A W s r mb C w.heap.size (w.heap.size+1) sv cs pv v x wr n) (λv x wr=>zEn (ClI m A W s r mb C w.heap.size (w.heap.size+1) sv cs pv v x wr))
 case atStart=>exact HI.o
 have Sy:=mn hrel;obtain⟨N,hN⟩:∃N,zEn (ClI m A W s r mb C w.heap.size (w.heap.size+1) sv cs pv u5 u6 wr)=N:=⟨_,rfl⟩;have HN:=hI hN;rw[hN] at Sy;clear hrel HI hN;obtain⟨R,best,bv,cv,prv,pav,L,IM,XD⟩:=Sy;obtain rfl:=XD.ver;have UA:=hI IM;have XR:=hI XD;obtain⟨ax,cx,rfl⟩:=ZJ XD.val;obtain⟨ab,cb,rfl⟩:=ZJ XD.bst;have ZZ:=yi m HM.o HG.o R best XD.sol;rw[XD.ans] at ZZ;have c0:=Z_ XD.blkC 0 _ rfl;have c1:=Z_ XD.blkC 1 _ rfl;have cz:=Z0 XD.blkC 1;have cl:=(Z8.1 XD.blkC).1;have hWr:=XD.sk.fr.size;clear IM XD;by_cases h1:R.1=1
 ·rw[if_pos h1] at ZZ
  have Yx:=hI ZZ;have F1:Hid (Sol m R.2.1):=XR.o.sol h1;have OG:Hid (SkO m.vars R.2.2/\R.2.2.cs.length+R.2.2.fuel+zFW m R<=400):=XR.o.ok h1;have IG:Hid (zFW m (X3 m.vars (ptsM m) (Q2 m R))<N):=by rw[<-UA.o];exact yj m HM.o HG.o R h1 F1.o
  rw[h1] at HN ⊢;have Lz:Hid (SkD W (wr.setCell ⟨C,1,none⟩ (.slice ax R.2.1.length cx)) s r mb sv pv cv prv pav L (R.2.2.proof.map λx=>zAH m.vars x.cla) R.2.2):=XR.o.sk.setO XR.o.blkC yg zr.o 1 _
  have Bv:Hid ((wr.setCell ⟨C,1,none⟩ (.slice ax R.2.1.length cx)).heap[C]? = some (.cells #[.pointer (some ⟨s,0,none⟩),.slice ax R.2.1.length cx] 118)):=by show _=_;rw[heap_setCell_same wr C 1 _ _ _ XR.o.blkC];rfl
  have rS:∀(q:Nat) (cs':Array Value) (t':TypeId),wr.heap[q]? = some (.cells cs' t')->t'≠118->q≠C:=λq cs' t' hq hn he=>by
   subst he;have:=hq.symm.trans XR.o.blkC;simp only[Option.some.injEq,Obj.cells.injEq] at this;exact hn this.2.1
  have IF:Hid ((wr.setCell ⟨C,1,none⟩ (.slice ax R.2.1.length cx)).heap[w.heap.size]? = some (.cells #[sv,cs,.int .i64 m.goal,.int .i64 m.var] 25)):=(CF wr ⟨C,1,none⟩ _ _ (rS _ _ _ XR.o.blkM (by decide))).trans XR.o.blkM
  have rR:Hid ((wr.setCell ⟨C,1,none⟩ (.slice ax R.2.1.length cx)).heap[w.heap.size+1]? = some (.cells #[.int .i64 0,.slice none 0 0,.slice none 0 0] 53)):=(CF wr ⟨C,1,none⟩ _ _ (rS _ _ _ XR.o.blkA (by decide))).trans XR.o.blkA
  have yf:Hid ((wr.setCell ⟨C,1,none⟩ (.slice ax R.2.1.length cx)).ownsRow W.heap.size 3 1 (.slice ax R.2.1.length cx) R.2.1.length (R.2.1.map (Value.int .i64))):=V_ XR.o.val XR.o.blkC (by decide) 1 _
  clear ZZ h1 rS;go_wp2_with fail
  obtain⟨Y,hY⟩:∃Y,wr.setCell ⟨C,1,none⟩ (.slice ax R.2.1.length cx)=Y:=⟨_,rfl⟩;rw[hY] at Lz Bv IF rR yf ⊢;clear hY c0 c1 cz cl XR;have c0:=Z_ Bv.o 0 _ rfl;have cl:=(Z8.1 Bv.o).1;have m0:=Z_ IF.o 0 _ rfl;have m1:=Z_ IF.o 1 _ rfl;have m2:=Z_ IF.o 2 _ rfl;have m3:=Z_ IF.o 3 _ rfl;have ml:=(Z8.1 IF.o).1;obtain⟨s0,s1,s2,s3,s4,s5,s6⟩:=Lz.o.cells;have Ev:Hid (∀Z,Bw Y Z->Calls prog 117 #[.agg #[sv,cs,.int .i64 m.goal,.int .i64 m.var],.slice ax R.2.1.length cx] Z λe w'=>∃x,e=.returned x/\LOwn Z.heap.size w' x (VX m R.2.1)/\Bw Z w'):=λZ hZ=>by
   obtain⟨q1,q2,_⟩:=I6 m HM.o;have hr:=yk m HM.o _ F1.o;have hb:=Ae m HM.o m.var.toNat (by omega)
   refine l9 m R.2.1 ⟨q1,by rw[F1.o.1.1];exact q2⟩ ⟨by omega,by omega⟩ sv cs _ Z (Dc (YZ yf.o hZ))
  have Wx:R.2.2.cs.length<=1000:=by have:=OG.o.2;omega
  go_region_law
   (first
     | (rw[if_pos (by rfl)];go_simp;go_at_call 117;refine (Ev.o _ (Z6 _ _).drew).mono ?_;rintro e w3 ⟨x,rfl,Pm,ZG⟩;have hB3:Bw Y w3:=(Z6 _ _).drew.trans ZG;obtain⟨a3,c3,MS⟩:=ZJ (show w3.ownsRow _ _ _ _ _ _ from Pm);subst MS;have e0:=(hB3.cell (p:=⟨C,0,none⟩) cl).trans c0;have e1:=(hB3.cell (p:=⟨s,1,none⟩) s0).trans s2;have el:C<w3.heap.size:=ZQ cl hB3.size;have el2:s<w3.heap.size:=ZQ s0 hB3.size;dsimp only)
     | (rw[if_pos (by rfl)];go_simp;go_at_call 83;refine (nC m.vars (LZ m HM.o) (ptsM m) R.2.2.cs (by omega) (VX m R.2.1) (oldW w3 W.heap.size) r sv pv cv _ w3 ((Lz.o.below hB3).rul UZ.o) (Lz.o.below hB3).rulD (LOwn.arg Pm)).mono ?_;rintro e w4 ⟨rfl,cv4,hr4,Vj⟩;dsimp only))
  all_goals
   have zo:=(Lz.o.below hB3).add (GO w3 _ (Lz.o.below hB3).fr.size) hr4 Vj;have Ku:TFr Y w4:=(TFr.below hB3).trans (TFr.ofAdd (Lz.o.below hB3) Vj);have J2:=(Ku.block _ _ _ _ Bv.o yg).trans Bv.o;have IE:=(Ku.block _ _ _ _ IF.o rT).trans IF.o;have Lp:=(Ku.block _ _ _ _ rR.o rU).trans rR.o;have IJ:=Ku.own yf.o iU;have rQ:=hI zo
   have Bu:=(show Hid _ from J2)
   have Bt:=(show Hid _ from IE)
   have Bs:=(show Hid _ from Lp)
   have rP:=(show Hid _ from IJ)
   have f0:=Z_ J2 0 _ rfl;have fl:=(Z8.1 J2).1;clear zo Ku J2 IE Lp IJ hr4 Vj Pm ZG hB3 e0 e1 el el2 c0 cl m0 m1 m2 m3 ml s0 s1 s2 s3 s4 s5 s6;go_wp2_with fail
   refine (iT m HM.o W s r mb sv pv _ _ _ UZ.o L (Q2 m R) ⟨OG.o.1.prf,by have:=OG.o.2;unfold Q2;simp only[ZC,V6];omega,OG.o.1.path⟩ w4 rQ.o).mono ?_
   rintro e w5 ⟨x5,rfl,Br,Mp,cv5,prv5,pav5,L5,Rm⟩;have Kr:Hid (ClI m A W s r mb C w.heap.size (w.heap.size+1) sv cs pv (.int .i64 (X3 m.vars (ptsM m) (Q2 m R)).1) x5 w5 (zFW m (X3 m.vars (ptsM m) (Q2 m R)))):=by
    refine⟨_,R.2.1,.slice ax R.2.1.length cx,cv5,prv5,pav5,L5,rfl,Yx.o.symm,rfl,Br,λh=>?_,λh=>(J3 m HM.o _ h).1,Rm,(Mp.block _ _ _ _ Bu.o yg).trans Bu.o,(Mp.block _ _ _ _ Bt.o rT).trans Bt.o,(Mp.block _ _ _ _ Bs.o rU).trans Bs.o,Mp.own rP.o iU⟩
    obtain⟨k1,k2⟩:=iW m.vars (Py m HM.o) (ptsM m) (Q2 m R) ⟨OG.o.1.prf,by have:=OG.o.2;unfold Q2;simp only[ZC,V6];omega,OG.o.1.path⟩ h
    refine⟨k1,?_⟩;have h2:=IG.o;have h3:=UA.o;have h4:=OG.o.2;have h5:(Q2 m R).cs.length+(Q2 m R).fuel=R.2.2.cs.length+1+R.2.2.fuel:=by unfold Q2;simp only[ZC,V6]
    omega
   obtain⟨X5,iP⟩:∃X5,(X3 m.vars (ptsM m) (Q2 m R)).1=X5:=⟨_,rfl⟩;rw[iP] at Kr ⊢;clear Br Mp Rm iP f0 fl;go_wp2
   go_roundw
   case rel=>exact⟨_,Kr.o⟩
   case measure=>exact UW (tT Kr.o) (by rw[HN.o];exact IG.o)
 rw[if_neg h1] at ZZ;have GQ:(R.1==1)=false:=by simpa using h1
 have r0:=Z_ XR.o.blkA 0 _ rfl;have r1:=Z_ XR.o.blkA 1 _ rfl;have r2:=Z_ XR.o.blkA 2 _ rfl;have z0:=Z0 XR.o.blkA 0;have z1:=Z0 XR.o.blkA 1;have z2:=Z0 XR.o.blkA 2;have rl:=(Z8.1 XR.o.blkA).1;have VK:Hid (∀u0 u1 u2,Fr (XS s r mb) W (((wr.setCell ⟨w.heap.size+1,0,none⟩ u0).setCell ⟨w.heap.size+1,1,none⟩ u1).setCell ⟨w.heap.size+1,2,none⟩ u2)):=λu0 u1 u2 =>
  ((XR.o.sk.fr.setNew (p:=⟨w.heap.size+1,0,none⟩) (by simp only;omega) u0).setNew (p:=⟨w.heap.size+1,1,none⟩) (by simp only;omega) u1).setNew (p:=⟨w.heap.size+1,2,none⟩) (by simp only;omega) u2
 have Ws:Hid (wr.heap[w.heap.size+1]? = some (.cells #[.int .i64 0,.slice none 0 0,.slice none 0 0] 53)):=XR.o.blkA;have Wa:Hid (wr.ownsRow W.heap.size 3 1 (.slice ab best.length cb) best.length (best.map (Value.int .i64))):=XR.o.bst;have St:=(show Hid _ from XR.o.sk)
 obtain⟨apr,cpr,rfl⟩:=ZJ XR.o.sk.prf.1;obtain⟨s0,s1,s2,s3,s4,s5,s6⟩:=XR.o.sk.cells;by_cases h3:R.1=3
 ·rw[if_pos h3] at ZZ
  have R4:=hI ZZ;rw[h3];clear ZZ h1 GQ h3 HN XR St c0 c1 cz cl s0 s1 s2 s3 s4 s5 s6;go_wp2
  refine bodyPost_ret (by simp[results,results67,go_sem, *];try rfl) rfl ?_
  rw[R4.o];exact⟨_,_,rfl,Ew _ _ _,VK.o _ _ _⟩
 rw[if_neg h3] at ZZ;have CB:(R.1==3)=false:=by simpa using h3
 by_cases hb:0<best.length
 ·rw[if_pos hb] at ZZ
  have R4:=hI ZZ;have XI:(0:Int)<(best.length:Int):=by omega
  have ZY:¬best=[]:=λh=>by rw[h] at hb;cases hb
  have HQ:Hid (∀u0 u1 u2,AnsQ W.heap.size (((wr.setCell ⟨w.heap.size+1,0,none⟩ u0).setCell ⟨w.heap.size+1,1,none⟩ u1).setCell ⟨w.heap.size+1,2,none⟩ u2) (.slice ab best.length cb) (.slice apr L.length cpr) ⟨1,best,R.2.2.proof⟩):=λu0 u1 u2 =>
   AnsQ.set3 (w:=wr) ⟨Wa.o,L,St.o.prf,St.o.prfE⟩ Ws.o u0 u1 u2
  clear ZZ h1 h3 HN XR St cz;obtain⟨V1,Bq⟩:∃V1,R.1=V1:=⟨_,rfl⟩;rw[Bq] at GQ CB ⊢;clear Bq;go_wp2_with fail
  go_region_law (fail)
  all_goals
   go_wp2
   refine bodyPost_ret (by simp[results,results67,go_sem, *];try rfl) rfl ?_
   rw[R4.o];exact⟨_,_,rfl,(HQ.o _ _ _).below (Z6 _ _).drew,(VK.o _ _ _).trans (Fr.below (Z6 _ _).drew)⟩
 rw[if_neg hb] at ZZ;have R4:=hI ZZ;have XI:¬(0:Int)<(best.length:Int):=by omega
 have ZY:best=[]:=Xo.1 (by omega)
 have HQ:Hid (∀u0 u1 u2,AnsQ W.heap.size (((wr.setCell ⟨w.heap.size+1,0,none⟩ u0).setCell ⟨w.heap.size+1,1,none⟩ u1).setCell ⟨w.heap.size+1,2,none⟩ u2) (.slice ab best.length cb) (.slice apr L.length cpr) ⟨R.1,best,R.2.2.proof⟩):=λu0 u1 u2 =>
  AnsQ.set3 (w:=wr) ⟨Wa.o,L,St.o.prf,St.o.prfE⟩ Ws.o u0 u1 u2
 clear ZZ h1 h3 HN XR St cz Wa;obtain⟨V1,Bq⟩:∃V1,R.1=V1:=⟨_,rfl⟩;rw[Bq] at GQ CB R4 HQ ⊢;subst ZY;clear Bq;go_wp2_with fail
 go_region_law (fail)
 all_goals
  go_wp2
  refine bodyPost_ret (by simp[results,results67,go_sem, *];try rfl) rfl ?_
  rw[R4.o];exact⟨_,_,rfl,(HQ.o _ _ _).below (Z6 _ _).drew,(VK.o _ _ _).trans (Fr.below (Z6 _ _).drew)⟩
theorem AnsQ.mono {base base':Nat} {w:World} {vv pp:Value} {a:Ans} (h:AnsQ base w vv pp a) (hb:base'<=base):AnsQ base' w vv pp a:=by
 obtain⟨L,h1,h2⟩:=h.prf;exact⟨World.ownsRow.mono h.val hb,L,h1.mono hb,h2⟩
theorem AnsQ.forms {base:Nat} {w:World} {vv pp:Value} {a:Ans} (h:AnsQ base w vv pp a):(∃a1 c1,vv=.slice a1 a.values.length c1)/\∃a2 n2 c2,pp=.slice a2 n2 c2:=by
 obtain⟨L,h1,_⟩:=h.prf;obtain⟨a2,c2,h3⟩:=ZJ h1.1;exact⟨ZJ h.val,a2,_,c2,h3⟩
theorem iO (m:Mod) (fuel:Int) (vs cs:Value) (w:World) (Y8:MArg w vs cs m) (hT:TabT w) :
 Calls prog 26 #[modV vs cs m,.int .i64 fuel] w λe w'=>∃vv pp,e=.returned (.tuple #[.agg #[.int .i64 (So m fuel).1.verdict,vv,pp],.int .i64 (So m fuel).2])/\AnsQ w.heap.size w' vv pp (So m fuel).1/\Bw w w':=by
 have Y3:Hid (∀w',Bw w w'->MArg w' vs cs m):=λw' h=>MArg.below h Y8
 have HT:Hid (∀w',Bw w w'->TabT w'):=λw' h=>hT.below h
 obtain⟨⟨a1,c1,rfl,_,_⟩,⟨a2,c2,rfl,_,_⟩⟩:=Y8;obtain⟨R,hR⟩:∃R,So m fuel=R:=⟨_,rfl⟩;rw[hR];obtain⟨er,Yy⟩:∃er,Zs m=er:=⟨_,rfl⟩;have Xj:=hI Yy;unfold So at hR;rw[Yy] at hR;have HR:=(show Hid _ from hR)
 clear hR Yy hT;unfold modV;obtain⟨HA,HB⟩:=zm w (.cells #[.slice a1 m.vars.length c1,.slice a2 m.cons.length c2,.int .i64 m.goal,.int .i64 m.var] 25) (.cells #[.int .i64 0,.slice none 0 0,.slice none 0 0] 53);have Yt:Bw w ((w.alloc (.cells #[.slice a1 m.vars.length c1,.slice a2 m.cons.length c2,.int .i64 m.goal,.int .i64 m.var] 25)).alloc (.cells #[.int .i64 0,.slice none 0 0,.slice none 0 0] 53)):=(Z4 _ _).alloc (by simp) _
 have sF:=(show Hid _ from HA)
 have iN:=(show Hid _ from HB)
 have WI:=(show Hid _ from Yt)
 clear HA HB Yt;by_cases hg:m.goal=0
 ·have hR:=HR.o
  rw[if_pos hg] at hR;have EE:Hid (I7 m fuel=R):=hR;have WW:Hid (∀Z,Bw w Z->Calls prog 25 #[.agg #[.slice a1 m.vars.length c1,.slice a2 m.cons.length c2,.int .i64 m.goal,.int .i64 m.var],.int .i64 fuel] Z λe w'=>∃vv pp,e=.returned (.tuple #[.agg #[.int .i64 R.1.verdict,vv,pp],.int .i64 R.2])/\AnsQ Z.heap.size w' vv pp R.1/\Bw Z w'):=λZ hZ=>by
   rw[<-EE.o];exact zSa m fuel (.slice a1 m.vars.length c1) (.slice a2 m.cons.length c2) Z (Y3.o _ hZ) (HT.o _ hZ)
  obtain⟨⟨rv,rx,rp⟩,re⟩:=R;have zi:(m.goal==0)=true:=by simpa using hg
  clear hR HR hg EE;go_enter func26,ntmps26
  go_wp2_with fail
  refine (WW.o _ WI.o).mono ?_;rintro e w1 ⟨vv,pp,rfl,hq,Z5⟩;obtain⟨⟨av,cv,rfl⟩,ap,np,cp,rfl⟩:=hq.forms;have ZU:Hid (w1.heap[w.heap.size+1]? = some (.cells #[.int .i64 0,.slice none 0 0,.slice none 0 0] 53)):=(Z5.block _ (by simp)).trans iN.o
  have XE:Hid (Bw w w1):=WI.o.trans (Z5.mono (by simp;omega))
  have Vt:w.heap.size+2<=w1.heap.size:=by simpa using Z5.size
  have HQ:Hid (∀u0 u1 u2,AnsQ w.heap.size (((w1.setCell ⟨w.heap.size+1,0,none⟩ u0).setCell ⟨w.heap.size+1,1,none⟩ u1).setCell ⟨w.heap.size+1,2,none⟩ u2) (.slice av rx.length cv) (.slice ap np cp) ⟨rv,rx,rp⟩):=λu0 u1 u2=>AnsQ.set3 (hq.mono (by simp;omega)) ZU.o u0 u1 u2
  have UK:Hid (∀u0 u1 u2,Bw w (((w1.setCell ⟨w.heap.size+1,0,none⟩ u0).setCell ⟨w.heap.size+1,1,none⟩ u1).setCell ⟨w.heap.size+1,2,none⟩ u2)):=λu0 u1 u2=>((XE.o.setCell (by simp only;omega) _).setCell (by simp only;omega) _).setCell (by simp only;omega) _
  have r0:=Z_ ZU.o 0 _ rfl;have r1:=Z_ ZU.o 1 _ rfl;have r2:=Z_ ZU.o 2 _ rfl;have z0:=Z0 ZU.o 0;have z1:=Z0 ZU.o 1;have z2:=Z0 ZU.o 2;have lr:w.heap.size+1<w1.heap.size:=by omega
  clear hq Z5;go_wp2
  refine bodyPost_ret (by simp[results,results26,go_sem, *];try rfl) rfl ?_
  exact⟨_,_,rfl,HQ.o _ _ _,UK.o _ _ _⟩
 have hR:=HR.o;rw[if_neg hg] at hR;have zi:(m.goal==0)=false:=by simpa using hg
 have Yl:=(show Hid _ from hR)
 clear hR HR;go_enter func26,ntmps26
 go_wp2_with fail
 refine (JE m (.slice a1 m.vars.length c1) (.slice a2 m.cons.length c2) _ (Y3.o _ WI.o)).mono ?_;rintro e w1 ⟨rfl,Z5⟩;rw[Xj.o];have Uy:Hid (w1.heap[w.heap.size]? = some (.cells #[.slice a1 m.vars.length c1,.slice a2 m.cons.length c2,.int .i64 m.goal,.int .i64 m.var] 25)):=(Z5.block _ (by simp;omega)).trans sF.o
 have ZU:Hid (w1.heap[w.heap.size+1]? = some (.cells #[.int .i64 0,.slice none 0 0,.slice none 0 0] 53)):=(Z5.block _ (by simp)).trans iN.o
 have XE:Hid (Bw w w1):=WI.o.trans (Z5.mono (by simp;omega))
 have Vt:w.heap.size+2<=w1.heap.size:=by simpa using Z5.size
 clear Z5;have g0:=Z_ Uy.o 0 _ rfl;have g1:=Z_ Uy.o 1 _ rfl;have g2:=Z_ Uy.o 2 _ rfl;have g3:=Z_ Uy.o 3 _ rfl;have r0:=Z_ ZU.o 0 _ rfl;have r1:=Z_ ZU.o 1 _ rfl;have r2:=Z_ ZU.o 2 _ rfl;have z0:=Z0 ZU.o 0;have z1:=Z0 ZU.o 1;have z2:=Z0 ZU.o 2;have lq:w.heap.size<w1.heap.size:=by omega
 have lr:w.heap.size+1<w1.heap.size:=by omega
 have UK:Hid (∀u0 u1 u2,Bw w (((w1.setCell ⟨w.heap.size+1,0,none⟩ u0).setCell ⟨w.heap.size+1,1,none⟩ u1).setCell ⟨w.heap.size+1,2,none⟩ u2)):=λu0 u1 u2=>((XE.o.setCell (by simp only;omega) _).setCell (by simp only;omega) _).setCell (by simp only;omega) _
 by_cases he:er=0
 ·subst he
  have hR:=Yl.o;rw[if_pos rfl] at hR;by_cases hf:fuel<0∨300<fuel
  ·rw[if_pos hf] at hR
   have HN:Hid ((GF,(3:Int))=R):=hR;clear hR Yl;by_cases R7:fuel<0
   ·clear hf
    go_wp2
    refine bodyPost_ret (by simp[results,results26,go_sem, *];try rfl) rfl ?_
    rw[<-HN.o];exact⟨_,_,rfl,Ew _ _ _,UK.o _ _ _⟩
   have W9:300<fuel:=by rcases hf with h | h;exact absurd h R7;exact h
   clear hf;go_wp2
   refine bodyPost_ret (by simp[results,results26,go_sem, *];try rfl) rfl ?_
   rw[<-HN.o];exact⟨_,_,rfl,Ew _ _ _,UK.o _ _ _⟩
  rw[if_neg hf] at hR;have R7:¬fuel<0:=λh=>hf (Or.inl h)
  have W9:¬300<fuel:=λh=>hf (Or.inr h)
  obtain⟨fn,rfl⟩:∃fn:Nat,fuel=(fn:Int):=⟨fuel.toNat,by omega⟩
  have Zy:Hid ((Lq m (fn:Int),(0:Int))=R):=hR;have xE:fn<=300:=by omega
  have HGG:Hid (m.goal=1∨m.goal=2):=by
   rcases (I6 m Xj.o).2.2 with h | h
   ·exact absurd h hg
   exact h
  clear hR Yl hf hg;go_wp2_with fail
  refine (ma m Xj.o fn (.slice a1 m.vars.length c1) (.slice a2 m.cons.length c2) w1 (Y3.o _ XE.o) (HT.o _ XE.o)).mono ?_;rintro e W ⟨s,rfl,r,mb,pv,hB,hD,Xi,hr,hs,Re⟩;have UZ:=hI hB;have WR:=(show Hid _ from hD)
  have ZW:=hI Xi;have Ap:=Xi.size;clear hB hD Xi r0 r1 r2 z0 z1 z2;have q0:=(ZW.o.cell (p:=⟨w.heap.size,0,none⟩) lq).trans g0;have q1:=(ZW.o.cell (p:=⟨w.heap.size,1,none⟩) lq).trans g1;have q2:=(ZW.o.cell (p:=⟨w.heap.size,2,none⟩) lq).trans g2;have q3:=(ZW.o.cell (p:=⟨w.heap.size,3,none⟩) lq).trans g3;have lqW:w.heap.size<W.heap.size:=by omega
  clear g0 g1 g2 g3;go_wp2_with fail
  have iM:=heap_alloc_new W (.cells #[.pointer (some ⟨s,0,none⟩),.slice none 0 0] 118);refine (zTH m Xj.o HGG.o fn xE W s r mb W.heap.size (.slice a1 m.vars.length c1) (.slice a2 m.cons.length c2) pv UZ.o _ (WR.o.below (Z4 _ _)) iM (Z2 _)).mono ?_;rintro e w2 ⟨vv,pp,rfl,hq,Z'⟩;obtain⟨⟨av,cv,rfl⟩,ap,np,cp,rfl⟩:=hq.forms;have ZI:Hid (w2.heap[w.heap.size+1]? = some (.cells #[.int .i64 0,.slice none 0 0,.slice none 0 0] 53)):=(Z'.block _ (by omega) (by unfold XS;omega)).trans ((ZW.o.block _ lr).trans ZU.o)
  have Ko:Hid (Bw w w2):=by
   have h1:=XE.o.trans (ZW.o.mono XE.o.size);exact⟨Z'.os.trans h1.os,Z'.tape.trans h1.tape,Z'.output.trans h1.output,ZT h1.size Z'.size,λk hk=>(Z'.block k (ZQ hk h1.size) (by unfold XS;have:=XE.o.size;omega)).trans (h1.block k hk)⟩
  have WT:w.heap.size+1<w2.heap.size:=(Z8.1 ZI.o).1;have HQ:Hid (∀u0 u1 u2,AnsQ w.heap.size (((w2.setCell ⟨w.heap.size+1,0,none⟩ u0).setCell ⟨w.heap.size+1,1,none⟩ u1).setCell ⟨w.heap.size+1,2,none⟩ u2) (.slice av (Lq m (fn:Int)).values.length cv) (.slice ap np cp) (Lq m (fn:Int))):=λu0 u1 u2=>AnsQ.set3 (hq.mono (by omega)) ZI.o u0 u1 u2
  have rO:Hid (∀u0 u1 u2,Bw w (((w2.setCell ⟨w.heap.size+1,0,none⟩ u0).setCell ⟨w.heap.size+1,1,none⟩ u1).setCell ⟨w.heap.size+1,2,none⟩ u2)):=λu0 u1 u2=>((Ko.o.setCell (by simp only;omega) _).setCell (by simp only;omega) _).setCell (by simp only;omega) _
  obtain⟨⟨tv,tx,tp⟩,iK⟩:∃T,Lq m (fn:Int)=T:=⟨_,rfl⟩;rw[iK] at HQ Zy ⊢;have r0:=Z_ ZI.o 0 _ rfl;have r1:=Z_ ZI.o 1 _ rfl;have r2:=Z_ ZI.o 2 _ rfl;have z0:=Z0 ZI.o 0;have z1:=Z0 ZI.o 1;have z2:=Z0 ZI.o 2;clear hq Z' iK q0 q1 q2 q3 iM hs hr Re;go_wp2
  refine bodyPost_ret (by simp[results,results26,go_sem, *];try rfl) rfl ?_
  rw[<-Zy.o];exact⟨_,_,rfl,HQ.o _ _ _,rO.o _ _ _⟩
 have hR:=Yl.o;rw[if_neg he] at hR;have HN:Hid ((GF,er)=R):=hR;have Qo:(er != 0)=true:=by simpa using he
 clear hR Yl he;go_wp2
 refine bodyPost_ret (by simp[results,results26,go_sem, *];try rfl) rfl ?_
 rw[<-HN.o];exact⟨_,_,rfl,Ew _ _ _,UK.o _ _ _⟩
def twoC:MCon:=⟨1,[0,1],[1,-1],-1,[],[]⟩
theorem zWU:PA [0,1]=[0,1]:=by
 unfold PA;exact List.mergeSort_of_pairwise (by decide)
theorem zRC:YC twoC=[0,1]:=by
 have h1:Tr twoC=[0,1]:=by rfl
 unfold YC;rw[h1,zWU]
 decide
def twoP:List Nat:=[129,257,258]
theorem iJ:XB twoM.vars twoC=twoP:=by
 unfold XB;rw[zRC]
 decide +kernel
theorem iH:ptsM twoM=[twoP]:=by
 show [XB twoM.vars twoC]=_;rw[iJ]
theorem iG:So twoM 20=(Lq twoM 20,0):=by
 unfold So;rw[if_neg (by decide),if_pos K2,if_neg (by decide)]
def R1:Int×List Int×Sk:=X3 twoM.vars [twoP] (Ex 20)
theorem zWx:LD twoM 20=R1:=by unfold LD R1;rw[iH]
theorem rN:R1=(1,[0,1],⟨[],20,[],[⟨0,4,0⟩,⟨1,4,1⟩]⟩):=by kernel_rfl
def S2:Sk:=⟨[zAH twoM.vars [⟨1,1,0⟩]],20,[],[⟨0,4,0⟩,⟨1,4,1⟩]⟩
theorem zWy:Q2 twoM R1=S2:=by rw[rN];kernel_rfl
def R2:Int×List Int×Sk:=X3 twoM.vars [twoP] S2
theorem rM:R2.1=2:=by kernel_rfl
theorem zXD:decide (0<R2.2.2.proof.length)=true:=by kernel_rfl
theorem iF:Lq twoM 20=⟨1,[0,1],R2.2.2.proof⟩:=by
 unfold Lq;have h1:R1.1=1:=by rw[rN]
 have hs:(LD twoM 20).1=1->Sol twoM (LD twoM 20).2.1:=λh=>(J3 twoM K2 _ h).1
 rw[yi twoM K2 (Or.inl rfl) _ _ hs,zWx,if_pos h1,zWy,iH];have h2:R2.1=1->Sol twoM R2.2.1:=λh=>by rw[rM] at h;cases h
 show zGS twoM R2 R1.2.1=_;rw[yi twoM K2 (Or.inl rfl) _ _ h2,if_neg (by rw[rM];decide),if_neg (by rw[rM];decide),rN]
 rfl
theorem zXE:U9 twoM [0,2]=([⟨1,1,1⟩],0):=by
 unfold U9;rw[if_pos K2]
 kernel_rfl
theorem iE:∃P,So twoM 20=(⟨1,[0,1],P⟩,0)/\0<P.length:=⟨R2.2.2.proof,by rw[iG,iF],of_decide_eq_true zXD⟩
open Go.RowKit
theorem zRD (w:World) (a b:Int) (B:Nat) (hB:B=w.heap.size):IArg (w.alloc (.cells #[.int .i64 a,.int .i64 b] 3)) (.slice (some ⟨B,0,none⟩) 2 2) [a,b]:=by
 subst hB;refine⟨_,2,rfl,⟨by simp,by unfold maxLen;omega⟩,λi z hz=>?_⟩
 match i,hz with
 | 0,hz =>
   cases hz
   exact⟨_,0,rfl,by simp,Zu _ _ _ 0 (by simp)⟩
 | 1,hz =>
   cases hz
   exact⟨_,0,rfl,by simp,Zu _ _ _ 1 (by simp)⟩
theorem rL:We varW:=by unfold We varW;simp[go_sem]
theorem rK:We colW:=by unfold We colW;simp[go_sem]
theorem rJ:We TR:=by unfold We TR;simp[go_sem]
theorem J1:We YV:=by unfold We YV;simp[go_sem]
theorem rI:We conW:=by unfold We conW;simp[go_sem]
theorem iD:We Oz:=by unfold We Oz;simp[go_sem]
theorem zTJ (N R M:Nat) (en:Int) (names:List ByteArray) (w:World) (l:List Tok) (h:Rd N R M en w l) (hn:NmS w M names) (ZP:∀n∈names,n.data.toList≠[]) :
 Calls prog 223 #[.pointer (some ⟨R,0,none⟩)] w (Vy (J_ en names l) (λi v _=>v=.tuple #[.int .i64 i.1,.int .i64 i.2]) N R M en (λk=>k=R) w):=by
 have HB:=hI h;have HN:=hI hn;have Vx:=hI ZP;have TQ:M≠R:=h.1.2.2;obtain⟨P,hP⟩:∃P,J_ en names l=P:=⟨_,rfl⟩;have HP:Hid (P=(Zv en Oz l).bind λ_ l=>(VJ en SY l).bind λg l=>if g=0 then (Zv en YV l).bind λ_ l=>.ok (g,0) l else (X7 en names l).bind λv l=>(Zv en YV l).bind λ_ l=>.ok (g,v) l):=by show _=_;rw[<-hP];rfl
 rw[hP];clear h hP hn ZP;go_enter func223,ntmps223
 go_wp2_with fail
 refine (TF N R M en Oz iD w l HB.o).mono ?_;intro e w1 hp;cases hs:Zv en Oz l with
 | bad x er =>
   rw[hs] at hp;obtain⟨rfl,Z'⟩:=hp;have Y6:Hid (P=.bad x er):=by show _=_;rw[HP.o,hs];rfl
   clear hs;go_wp2
   exact⟨rfl,by rw[Y6.o];exact⟨rfl,Z'⟩⟩
 | ok t q =>
   rw[hs] at hp;obtain⟨v,rfl,rfl,ZV,Z'⟩:=hp;have Yl:=hI ZV;have Xh:=hI Z'
   have TG:Hid (NmS w1 M names):=HN.o.old (Z'.block M HN.o.lt TQ);have Xt:Hid (P=(VJ en SY q).bind λg l=>if g=0 then (Zv en YV l).bind λ_ l=>.ok (g,0) l else (X7 en names l).bind λv l=>(Zv en YV l).bind λ_ l=>.ok (g,v) l):=by show _=_;rw[HP.o,hs];rfl
   clear hs ZV Z' HP;go_wp2_with fail
   refine (zOf w1).mono ?_;rintro e w2 ⟨sv,rfl,R',ZY⟩;have WW:=hI R';obtain⟨as_,cs_,rfl,_,_⟩:=R';have Zy:=hI (Yl.o.below ZY);have Zo:Hid (Fr (λk=>k=R) w w2):=Xh.o.trans (Fr.below ZY)
   have YE:Hid (NmS w2 M names):=TG.o.old (ZY.block M TG.o.lt);clear ZY;go_wp2_with fail
   refine (sI N R M en SY _ w2 q Zy.o WW.o).mono ?_;intro e w3 hp;cases hs:VJ en SY q with
   | bad x er =>
     rw[hs] at hp;obtain⟨rfl,Z'⟩:=hp;have ZR:=Zo.o.trans Z';have Y6:Hid (P=.bad x er):=by show _=_;rw[Xt.o,hs];rfl
     clear hs Z';go_wp2
     exact⟨rfl,by rw[Y6.o];exact⟨rfl,ZR⟩⟩
   | ok g q2 =>
     rw[hs] at hp;obtain⟨v,rfl,rfl,ZV,Z'⟩:=hp;have Ys:=hI ZV;have Yw:=hI (Zo.o.trans Z')
     have R4:Hid (NmS w3 M names):=YE.o.old (Z'.block M YE.o.lt TQ);have YB:Hid (P=if g=0 then (Zv en YV q2).bind λ_ l=>.ok (g,0) l else (X7 en names q2).bind λv l=>(Zv en YV l).bind λ_ l=>.ok (g,v) l):=by show _=_;rw[Xt.o,hs];rfl
     clear hs ZV Z' Xt;by_cases hg:g=0
     ·subst hg
      have WG:Hid (P=(Zv en YV q2).bind λ_ l=>.ok (0,0) l):=by show _=_;rw[YB.o,if_pos rfl]
      clear YB;go_wp2_with fail
      refine (TF N R M en YV J1 w3 q2 Ys.o).mono ?_;intro e w4 hp;cases hs:Zv en YV q2 with
      | bad x er =>
        rw[hs] at hp;obtain⟨rfl,Z'⟩:=hp;have ZR:=Yw.o.trans Z';have Y6:Hid (P=.bad x er):=by show _=_;rw[WG.o,hs];rfl
        clear hs Z';go_wp2
        exact⟨rfl,by rw[Y6.o];exact⟨rfl,ZR⟩⟩
      | ok t3 q3 =>
        rw[hs] at hp;obtain⟨v,rfl,rfl,ZV,Z'⟩:=hp;have ZR:=Yw.o.trans Z';have Y6:Hid (P=.ok (0,0) q3):=by show _=_;rw[WG.o,hs];rfl
        clear hs Z';go_wp2
        go_ret2
        rw[Y6.o];exact⟨_,rfl,rfl,ZV,ZR⟩
     have WG:Hid (P=(X7 en names q2).bind λv l=>(Zv en YV l).bind λ_ l=>.ok (g,v) l):=by show _=_;rw[YB.o,if_neg hg]
     have hg2:(g != 0)=true:=by simpa using hg
     clear YB hg;go_wp2_with fail
     refine (Lw N R M en names w3 q2 Ys.o R4.o Vx.o).mono ?_;intro e w4 hp;cases hs:X7 en names q2 with
     | bad x er =>
       rw[hs] at hp;obtain⟨rfl,Z'⟩:=hp;have ZR:=Yw.o.trans Z';have Y6:Hid (P=.bad x er):=by show _=_;rw[WG.o,hs];rfl
       clear hs Z';go_wp2
       exact⟨rfl,by rw[Y6.o];exact⟨rfl,ZR⟩⟩
     | ok a q3 =>
       rw[hs] at hp;obtain⟨v,rfl,rfl,ZV,Z'⟩:=hp;have Wq:=hI ZV;have UX:=hI (Yw.o.trans Z')
       have J0:Hid (P=(Zv en YV q3).bind λ_ l=>.ok (g,a) l):=by show _=_;rw[WG.o,hs];rfl
       clear hs ZV Z' WG;go_wp2_with fail
       refine (TF N R M en YV J1 w4 q3 Wq.o).mono ?_;intro e w5 hp;cases hs:Zv en YV q3 with
       | bad x er =>
         rw[hs] at hp;obtain⟨rfl,Z'⟩:=hp;have ZR:=UX.o.trans Z';have Y6:Hid (P=.bad x er):=by show _=_;rw[J0.o,hs];rfl
         clear hs Z';go_wp2
         exact⟨rfl,by rw[Y6.o];exact⟨rfl,ZR⟩⟩
       | ok t4 q4 =>
         rw[hs] at hp;obtain⟨v,rfl,rfl,ZV,Z'⟩:=hp;have ZR:=UX.o.trans Z';have Y6:Hid (P=.ok (g,a) q4):=by show _=_;rw[J0.o,hs];rfl
         clear hs Z';go_wp2
         go_ret2
         rw[Y6.o];exact⟨_,rfl,rfl,ZV,ZR⟩
end Go.Proofs.YtndcpnlaadikoaaGreatDoor
