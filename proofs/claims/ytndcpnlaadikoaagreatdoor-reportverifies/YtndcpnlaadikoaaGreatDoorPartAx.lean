/- What the proof leans on, part 24. -/
import Derived.Test.YtndcpnlaadikoaaGreatDoorPartAw
set_option maxRecDepth 100000
set_option maxHeartbeats 6400000
open Go.Proofs.Tryz
namespace Go.Proofs.YtndcpnlaadikoaaGreatDoor
open Go.RowKit
theorem sP {α:Type} (f:α->Int) (l:List α) (k:Nat) (x:α) (h:l[k]? = some x):Y4 ((l.drop k).map f)=if f x=0 then Y4 ((l.drop (k+1)).map f) else f x:=by
 have hk:=(ZN.1 h).1;have e:l[k]=x:=by rw[ZA hk] at h;exact Zl h
 rw[Yc hk,e,VH];rfl
theorem kD (m:Mod) (c:Cla) (a:Option Addr) (cap:Nat) (cs v:Value) (w:World) (hm:m.vars.length<=maxLen) (hv:LArg w v c) :
 Calls prog 39 #[.agg #[.slice a m.vars.length cap,cs,.int .i64 m.goal,.int .i64 m.var],v] w λe w'=>e=.returned (.int .i64 (claE m.vars c))/\Bw w w':=by
 have HA:=hI hv;have HM:=hI hm;obtain⟨a2,c2,rfl,⟨X6,WY⟩,_⟩:=hv;unfold maxLen at WY;obtain⟨R,hR⟩:∃R,claE m.vars c=R:=⟨_,rfl⟩;rw[hR];unfold claE at hR;have HR:Hid ((if 40<c.length then 2 else Y4 (c.map (litE m.vars)))=R):=hR
 clear hm hR;by_cases P1:40<c.length
 ·have HE:Hid (R=2):=by rw[<-HR.o,if_pos P1];rfl
  have Gk:((40:Int)<(c.length:Int)):=by omega
  go_enter func39,ntmps39
  go_wp2
  go_ret
  exact⟨by rw[HE.o];rfl,Z4 _ _⟩
 have HF:Hid (Y4 ((c.drop 0).map (litE m.vars))=R):=by rw[<-HR.o,if_neg P1];rfl
 have Gk:¬((40:Int)<(c.length:Int)):=by omega
 clear P1;go_enter func39,ntmps39
 go_wp2_with fail
 have Zt:Hid (Bw w (w.alloc (.cells #[.slice a m.vars.length cap,cs,.int .i64 m.goal,.int .i64 m.var] 25))):=Z4 _ _;have XL:Hid ((w.alloc (.cells #[.slice a m.vars.length cap,cs,.int .i64 m.goal,.int .i64 m.var] 25)).heap[w.heap.size]? = some (.cells #[.slice a m.vars.length cap,cs,.int .i64 m.goal,.int .i64 m.var] 25)):=heap_alloc_new _ _;obtain⟨W,hW⟩:∃W,w.alloc (.cells #[.slice a m.vars.length cap,cs,.int .i64 m.goal,.int .i64 m.var] 25)=W:=⟨_,rfl⟩;rw[hW] at Zt XL ⊢;clear hW;go_loopw [5,6] (λi _ wr=>∃k:Nat,k<=c.length/\i=.int .i64 k/\Hid (Y4 ((c.drop k).map (litE m.vars))=R)/\Bw W wr) (λi _ _=>c.length - (intOf i).toNat)
 case atStart=>exact⟨0,by omega,rfl,HF,Z6 _ _⟩
 obtain⟨k,hk,rfl,Z',Z3⟩:=hrel;have VK:=hI Z';have ZW:=hI Z3;have Y7:=hI (Zt.o.trans (Z3.mono Zt.o.size));clear Z';by_cases Z7:k<c.length
 ·obtain⟨x,hx⟩:∃x,c[k]? = some x:=⟨c[k],by simp[Z7]⟩
  have HX:Hid ((if litE m.vars x=0 then Y4 ((c.drop (k+1)).map (litE m.vars)) else litE m.vars x)=R):=by rw[<-VK.o,sP _ c k x hx];rfl
  obtain⟨b,off,hb,YF,h0,h1,h2⟩:=LArg.nth (LArg.below Y7.o HA.o) k x hx;subst hb;have hN:=(Z3.block _ (Z8.1 XL.o).1).trans XL.o;have l0:=(Z8.1 hN).1;have q0:=Z_ hN 0 _ rfl;have q1:=Z_ hN 1 _ rfl;have q2:=Z_ hN 2 _ rfl;have q3:=Z_ hN 3 _ rfl;obtain⟨E,hE⟩:∃E,litE m.vars x=E:=⟨_,rfl⟩;have HE:=hI hE;rw[hE] at HX;clear hx hN Z3 hE;go_wp2_with fail
  go_region_held3 (λw'=>Bw wr w'/\w'.cell? ⟨w.heap.size,0,none⟩=some (.slice a m.vars.length cap)/\w'.cell? ⟨w.heap.size,1,none⟩=some cs/\w'.cell? ⟨w.heap.size,2,none⟩=some (.int .i64 m.goal)/\w'.cell? ⟨w.heap.size,3,none⟩=some (.int .i64 m.var)/\w'.cell? ⟨b,off+k * 3,none⟩=some (.int .i64 x.var)/\w'.cell? ⟨b,off+k * 3+1,none⟩=some (.int .i64 x.op)/\w'.cell? ⟨b,off+k * 3+2,none⟩=some (.int .i64 x.n))
   ((refine (λ(hB:Bw wr _)=>⟨hB,(hB.cell (p:=⟨w.heap.size,0,none⟩) l0).trans q0,(hB.cell (p:=⟨w.heap.size,1,none⟩) l0).trans q1,(hB.cell (p:=⟨w.heap.size,2,none⟩) l0).trans q2,(hB.cell (p:=⟨w.heap.size,3,none⟩) l0).trans q3,(hB.cell (p:=⟨b,off+k * 3,none⟩) YF).trans h0,(hB.cell (p:=⟨b,off+k * 3+1,none⟩) YF).trans h1,(hB.cell (p:=⟨b,off+k * 3+2,none⟩) YF).trans h2⟩:Bw wr _->_) ?_;first | exact (Z6 _ _).drew | exact Ue (by assumption) Yu))
   ((go_at_call 92;refine (l7 m x a cap cs _ HM.o).mono ?_;rintro e w3 ⟨rfl,Yu⟩;have hB3:=Ue (by assumption) Yu))
  rw[HE.o];have ZM:=hI (ZW.o.trans (hB3.mono ZW.o.size));clear l0 q0 q1 q2 q3 h0 h1 h2 YF hB3 Yu;by_cases he:E=0
  ·have YE:Hid (Y4 ((c.drop (k+1)).map (litE m.vars))=R):=by rw[<-HX.o,if_pos he];rfl
   subst he;go_wp2
   go_roundw
   case rel=>exact⟨k+1,by omega,by go_num,YE,ZM.o⟩
   case measure=>simp[intOf];omega
  have YE:Hid (E=R):=by rw[<-HX.o,if_neg he];rfl
  have te:(E != 0)=true:=by simpa using he
  clear he;go_wp2
  go_ret
  exact⟨by rw[<-YE.o];rfl,Zt.o.trans (ZM.o.mono Zt.o.size)⟩
 have HE:Hid (R=0):=by rw[<-VK.o,QA (by omega)];rfl
 clear Z3;go_wp2
 go_ret
 exact⟨by rw[HE.o];rfl,Y7.o⟩
theorem zKD (m:Mod) (l:List Cla) (a:Option Addr) (cap:Nat) (a0:Option Addr) (c0:Nat) (v:Value) (w:World) (hm:m.vars.length<=maxLen) (hv:WQ w v l) :
 Calls prog 38 #[.agg #[.slice a m.vars.length cap,.slice a0 m.cons.length c0,.int .i64 m.goal,.int .i64 m.var],v] w λe w'=>e=.returned (.int .i64 (Ry m.vars l))/\Bw w w':=by
 have HA:=hI hv;have HM:=hI hm;obtain⟨a2,c2,rfl,⟨X6,WY⟩,_⟩:=hv;unfold maxLen at WY;obtain⟨R,hR⟩:∃R,Ry m.vars l=R:=⟨_,rfl⟩;rw[hR];unfold Ry at hR;have HR:Hid ((if 600<l.length then 2 else Y4 (l.map (claE m.vars)))=R):=hR
 clear hm hR;by_cases P1:600<l.length
 ·have HE:Hid (R=2):=by rw[<-HR.o,if_pos P1];rfl
  have Gk:((600:Int)<(l.length:Int)):=by omega
  go_enter func38,ntmps38
  go_wp2
  go_ret
  exact⟨by rw[HE.o];rfl,Z4 _ _⟩
 have HF:Hid (Y4 ((l.drop 0).map (claE m.vars))=R):=by rw[<-HR.o,if_neg P1];rfl
 have Gk:¬((600:Int)<(l.length:Int)):=by omega
 clear P1;go_enter func38,ntmps38
 go_wp2_with fail
 have Zt:Hid (Bw w (w.alloc (.cells #[.slice a m.vars.length cap,.slice a0 m.cons.length c0,.int .i64 m.goal,.int .i64 m.var] 25))):=Z4 _ _;have XL:Hid ((w.alloc (.cells #[.slice a m.vars.length cap,.slice a0 m.cons.length c0,.int .i64 m.goal,.int .i64 m.var] 25)).heap[w.heap.size]? = some (.cells #[.slice a m.vars.length cap,.slice a0 m.cons.length c0,.int .i64 m.goal,.int .i64 m.var] 25)):=heap_alloc_new _ _;obtain⟨W,hW⟩:∃W,w.alloc (.cells #[.slice a m.vars.length cap,.slice a0 m.cons.length c0,.int .i64 m.goal,.int .i64 m.var] 25)=W:=⟨_,rfl⟩;rw[hW] at Zt XL ⊢;clear hW;go_loopw [5,6] (λi _ wr=>∃k:Nat,k<=l.length/\i=.int .i64 k/\Hid (Y4 ((l.drop k).map (claE m.vars))=R)/\Bw W wr) (λi _ _=>l.length - (intOf i).toNat)
 case atStart=>exact⟨0,by omega,rfl,HF,Z6 _ _⟩
 obtain⟨k,hk,rfl,Z',Z3⟩:=hrel;have VK:=hI Z';have ZW:=hI Z3;have Y7:=hI (Zt.o.trans (Z3.mono Zt.o.size));clear Z';by_cases Z7:k<l.length
 ·obtain⟨x,hx⟩:∃x,l[k]? = some x:=⟨l[k],by simp[Z7]⟩
  have HX:Hid ((if claE m.vars x=0 then Y4 ((l.drop (k+1)).map (claE m.vars)) else claE m.vars x)=R):=by rw[<-VK.o,sP _ l k x hx];rfl
  obtain⟨_,_,WT,_,Yq⟩:=WQ.below Y7.o HA.o;cases WT
  obtain⟨b,off,xv,hb,YF,h2,Pg⟩:=Yq k x hx;subst hb;have QN:=hI Pg;obtain⟨a5,c5,rfl,_,_⟩:=Pg;have hN:=(Z3.block _ (Z8.1 XL.o).1).trans XL.o;have l0:=(Z8.1 hN).1;have q0:=Z_ hN 0 _ rfl;have q1:=Z_ hN 1 _ rfl;have q2:=Z_ hN 2 _ rfl;have q3:=Z_ hN 3 _ rfl;obtain⟨E,hE⟩:∃E,claE m.vars x=E:=⟨_,rfl⟩;have HE:=hI hE;rw[hE] at HX;clear hx hN Z3 hE Yq;go_wp2_with fail
  go_region_held3 (λw'=>Bw wr w'/\w'.cell? ⟨w.heap.size,0,none⟩=some (.slice a m.vars.length cap)/\w'.cell? ⟨w.heap.size,1,none⟩=some (.slice a0 m.cons.length c0)/\w'.cell? ⟨w.heap.size,2,none⟩=some (.int .i64 m.goal)/\w'.cell? ⟨w.heap.size,3,none⟩=some (.int .i64 m.var)/\w'.cell? ⟨b,off+k,none⟩=some (.slice a5 x.length c5))
   ((refine (λ(hB:Bw wr _)=>⟨hB,(hB.cell (p:=⟨w.heap.size,0,none⟩) l0).trans q0,(hB.cell (p:=⟨w.heap.size,1,none⟩) l0).trans q1,(hB.cell (p:=⟨w.heap.size,2,none⟩) l0).trans q2,(hB.cell (p:=⟨w.heap.size,3,none⟩) l0).trans q3,(hB.cell (p:=⟨b,off+k,none⟩) YF).trans h2⟩:Bw wr _->_) ?_;first | exact (Z6 _ _).drew | exact Ue (by assumption) Yu))
   ((go_at_call 39;refine (kD m x a cap _ _ _ HM.o (lE (by assumption) QN.o)).mono ?_;rintro e w3 ⟨rfl,Yu⟩;have hB3:=Ue (by assumption) Yu))
  rw[HE.o];have ZM:=hI (ZW.o.trans (hB3.mono ZW.o.size));clear l0 q0 q1 q2 q3 h2 YF hB3 Yu;by_cases he:E=0
  ·have YE:Hid (Y4 ((l.drop (k+1)).map (claE m.vars))=R):=by rw[<-HX.o,if_pos he];rfl
   subst he;go_wp2
   go_roundw
   case rel=>exact⟨k+1,by omega,by go_num,YE,ZM.o⟩
   case measure=>simp[intOf];omega
  have YE:Hid (E=R):=by rw[<-HX.o,if_neg he];rfl
  have te:(E != 0)=true:=by simpa using he
  clear he;go_wp2
  go_ret
  exact⟨by rw[<-YE.o];rfl,Zt.o.trans (ZM.o.mono Zt.o.size)⟩
 have HE:Hid (R=0):=by rw[<-VK.o,QA (by omega)];rfl
 clear Z3;go_wp2
 go_ret
 exact⟨by rw[HE.o];rfl,Y7.o⟩
def PY (m:Mod) (given:List Cla) (l:List MStep):Int :=
 if 600<given.length∨6000<l.length then 2 else if Ry m.vars given=0 then
  (if Y4 (l.map λs=>claE m.vars s.cla)=0 then (if l.all (U8 m.cons.length) then 0 else 5) else Y4 (l.map λs=>claE m.vars s.cla)) else Ry m.vars given
theorem zWv {α:Type} (f:α->Bool) (l:List α) (k:Nat) (x:α) (h:l[k]? = some x):(l.drop k).all f=(f x&&(l.drop (k+1)).all f):=by
 have hk:=(ZN.1 h).1;have e:l[k]=x:=by rw[ZA hk] at h;exact Zl h
 rw[Yc hk,e,List.all_cons]
theorem kC (m:Mod) (given:List Cla) (l:List MStep) (vs cs u v:Value) (w:World) (Y8:MArg w vs cs m) (hu:WQ w u given) (hv:Uc w v l) :
 Calls prog 9 #[modV vs cs m,u,v] w λe w'=>e=.returned (.int .i64 (PY m given l))/\Bw w w':=by
 have HA:=hI hv;have HU:=hI hu;obtain⟨⟨a,cap,rfl,Y0,_⟩,⟨a0,c0,rfl,B4,_⟩⟩:=Y8;have HM:Hid (m.vars.length<=maxLen):=ZT Y0.1 Y0.2;unfold maxLen at B4;obtain⟨sO,B4⟩:=B4;obtain⟨a2,c2,rfl,⟨WS,Yn⟩,_⟩:=hv;obtain⟨a3,c3,rfl,⟨hg1,hg2⟩,_⟩:=hu;unfold maxLen at Yn hg2;obtain⟨R,hR⟩:∃R,PY m given l=R:=⟨_,rfl⟩;rw[hR];unfold PY at hR;obtain⟨G,hG⟩:∃G,Ry m.vars given=G:=⟨_,rfl⟩;have HG:=hI hG;rw[hG] at hR;obtain⟨R1,sN⟩:∃R1,Y4 (l.map λs=>claE m.vars s.cla)=R1:=⟨_,rfl⟩
 have Yl:Hid (Y4 ((l.drop 0).map λs=>claE m.vars s.cla)=R1):=sN
 rw[sN] at hR;obtain⟨R2,Tk⟩:∃R2,l.all (U8 m.cons.length)=R2:=⟨_,rfl⟩;have Zy:Hid ((l.drop 0).all (U8 m.cons.length)=R2):=Tk;rw[Tk] at hR;have HR:Hid ((if 600<given.length∨6000<l.length then 2 else if G=0 then (if R1=0 then (if R2 then (0:Int) else 5) else R1) else G)=R):=hR
 unfold modV;clear Y0 hR hG sN Tk;by_cases h6:600<given.length
 ·have HE:Hid (R=2):=by rw[<-HR.o,if_pos (Or.inl h6)];rfl
  have t1:(600:Int)<(given.length:Int):=by omega
  go_enter func9,ntmps9
  go_wp2
  go_ret
  exact⟨by rw[HE.o];rfl,Z4 _ _⟩
 have t1:¬((600:Int)<(given.length:Int)):=by omega
 by_cases h7:6000<l.length
 ·have HE:Hid (R=2):=by rw[<-HR.o,if_pos (Or.inr h7)];rfl
  have t2:(6000:Int)<(l.length:Int):=by omega
  go_enter func9,ntmps9
  go_wp2
  go_ret
  exact⟨by rw[HE.o];rfl,Z4 _ _⟩
 have t2:¬((6000:Int)<(l.length:Int)):=by omega
 have kB:Hid ((if G=0 then (if R1=0 then (if R2 then (0:Int) else 5) else R1) else G)=R):=by rw[<-HR.o,if_neg (show ¬(600<given.length∨6000<l.length) from λh=>h.elim h6 h7)];rfl
 clear h6 h7;go_enter func9,ntmps9
 go_wp2_with fail
 refine (zKD m given a cap a0 c0 _ _ HM.o (WQ.below (Z4 _ _) HU.o)).mono ?_;rintro e w1 ⟨rfl,Z5⟩;rw[HG.o];have Zt:Hid (Bw w w1):=(Z4 _ _).trans (Z5.mono (by simp))
 have XL:Hid (w1.heap[w.heap.size]? = some (.cells #[.slice a m.vars.length cap,.slice a0 m.cons.length c0,.int .i64 m.goal,.int .i64 m.var] 25)):=(Z5.block _ (by simp)).trans (heap_alloc_new _ _)
 clear Z5;by_cases hG:G=0
 case neg =>
  have HE:Hid (G=R):=by rw[<-kB.o,if_neg hG];rfl
  have te:(G != 0)=true:=by simpa using hG
  clear hG;go_wp2
  go_ret
  exact⟨by rw[<-HE.o];rfl,Zt.o⟩
 have Hs:Hid ((if R1=0 then (if R2 then (0:Int) else 5) else R1)=R):=by rw[<-kB.o,if_pos hG];rfl
 subst hG;go_wp2_with fail
 go_loopw [7,8] (λ_ i wr=>∃k:Nat,k<=l.length/\i=.int .i64 k/\Hid (Y4 ((l.drop k).map λs=>claE m.vars s.cla)=R1)/\Bw w1 wr) (λ_ i _=>l.length - (intOf i).toNat)
 case atStart=>exact⟨0,by omega,rfl,Yl,Z6 _ _⟩
 obtain⟨k,hk,rfl,Z',Z3⟩:=hrel;have VK:=hI Z'
 have ZW:=hI Z3;have Y7:=hI (Zt.o.trans (Z3.mono Zt.o.size));clear Z';by_cases Z7:k<l.length
 ·obtain⟨x,hx⟩:∃x,l[k]? = some x:=⟨l[k],by simp[Z7]⟩
  have HX:Hid ((if claE m.vars x.cla=0 then Y4 ((l.drop (k+1)).map λs=>claE m.vars s.cla) else claE m.vars x.cla)=R1):=by rw[<-VK.o,sP _ l k x hx];rfl
  obtain⟨_,_,WT,_,Yq⟩:=Uc.below Y7.o HA.o;cases WT
  obtain⟨b,off,xv,hb,YF,h0,h1,h2,Pg⟩:=Yq k x hx;subst hb;have QN:=hI Pg;obtain⟨a5,c5,rfl,_,_⟩:=Pg;have hN:=(Z3.block _ (Z8.1 XL.o).1).trans XL.o;have l0:=(Z8.1 hN).1;have q0:=Z_ hN 0 _ rfl;have q1:=Z_ hN 1 _ rfl;have q2:=Z_ hN 2 _ rfl;have q3:=Z_ hN 3 _ rfl;obtain⟨E,hE⟩:∃E,claE m.vars x.cla=E:=⟨_,rfl⟩;have HE:=hI hE;rw[hE] at HX;clear hx hN Z3 Yq h0 h1 hE;go_wp2_with fail
  go_region_held3 (λw'=>Bw wr w'/\w'.cell? ⟨w.heap.size,0,none⟩=some (.slice a m.vars.length cap)/\w'.cell? ⟨w.heap.size,1,none⟩=some (.slice a0 m.cons.length c0)/\w'.cell? ⟨w.heap.size,2,none⟩=some (.int .i64 m.goal)/\w'.cell? ⟨w.heap.size,3,none⟩=some (.int .i64 m.var)/\w'.cell? ⟨b,off+k * 3+2,none⟩=some (.slice a5 x.cla.length c5))
   ((refine (λ(hB:Bw wr _)=>⟨hB,(hB.cell (p:=⟨w.heap.size,0,none⟩) l0).trans q0,(hB.cell (p:=⟨w.heap.size,1,none⟩) l0).trans q1,(hB.cell (p:=⟨w.heap.size,2,none⟩) l0).trans q2,(hB.cell (p:=⟨w.heap.size,3,none⟩) l0).trans q3,(hB.cell (p:=⟨b,off+k * 3+2,none⟩) YF).trans h2⟩:Bw wr _->_) ?_;first | exact (Z6 _ _).drew | exact Ue (by assumption) Yu))
   ((go_at_call 39;refine (kD m x.cla a cap _ _ _ HM.o (lE (by assumption) QN.o)).mono ?_;rintro e w3 ⟨rfl,Yu⟩;have hB3:=Ue (by assumption) Yu))
  rw[HE.o];have ZM:=hI (ZW.o.trans (hB3.mono ZW.o.size));clear l0 q0 q1 q2 q3 h2 YF hB3 Yu;by_cases he:E=0
  ·have YE:Hid (Y4 ((l.drop (k+1)).map λs=>claE m.vars s.cla)=R1):=by rw[<-HX.o,if_pos he];rfl
   subst he;go_wp2
   go_roundw
   case rel=>exact⟨k+1,by omega,by go_num,YE,ZM.o⟩
   case measure=>simp[intOf];omega
  have YE:Hid (E=R):=by
   have h:E=R1:=by rw[<-HX.o,if_neg he]
   rw[<-Hs.o,if_neg (by rw[<-h];exact he)];exact h
  have te:(E != 0)=true:=by simpa using he
  clear he;go_wp2
  go_ret
  exact⟨by rw[<-YE.o];rfl,Zt.o.trans (ZM.o.mono Zt.o.size)⟩
 have Tl:Hid ((if R2 then (0:Int) else 5)=R):=by
  have h:R1=0:=by rw[<-VK.o,QA (by omega)];rfl
  rw[<-Hs.o,if_pos h];rfl
 clear Z3;obtain⟨W,hW⟩:∃W:World,W=wr:=⟨_,rfl⟩;go_wp2_with fail
 rw[<-hW] at ZW Y7 ⊢;clear hW Z7 hk;go_loopw [9] (λi wr=>∃k:Nat,k<=l.length/\i=.int .i64 k/\Hid ((l.drop k).all (U8 m.cons.length)=R2)/\Bw W wr) (λi _=>l.length - (intOf i).toNat)
 case atStart=>exact⟨0,by omega,rfl,Zy,Z6 _ _⟩
 obtain⟨k2,WY,rfl,kA,Z3⟩:=hrel;have EG:=hI kA;have Wa:=hI Z3;have Vq:=hI (Y7.o.trans (Z3.mono Y7.o.size));clear kA;by_cases Z7:k2<l.length
 ·obtain⟨x,hx⟩:∃x,l[k2]? = some x:=⟨l[k2],by simp[Z7]⟩
  have yM:Hid ((U8 m.cons.length x&&(l.drop (k2+1)).all (U8 m.cons.length))=R2):=by rw[<-EG.o,zWv _ l k2 x hx];rfl
  obtain⟨_,_,WT,_,Yq⟩:=Uc.below Vq.o HA.o;cases WT
  obtain⟨b,off,xv,hb,YF,h0,h1,h2,Pg⟩:=Yq k2 x hx;subst hb;have B3:=ZW.o.trans (Z3.mono ZW.o.size);have hN:=(B3.block _ (Z8.1 XL.o).1).trans XL.o;have l0:=(Z8.1 hN).1;have q1:=Z_ hN 1 _ rfl;obtain⟨kd,cn,cla⟩:=x
  dsimp only at h0 h1
  clear hx hN Z3 Yq h2 Pg B3;by_cases Yr:kd=1
  ·subst Yr
   obtain⟨T,hT⟩:∃T,U8 m.cons.length ⟨1,cn,cla⟩=T:=⟨_,rfl⟩;have Ev:Hid ((decide ((0:Int)<=cn)&&decide (cn<=IntKind.i64.wrap ((m.cons.length:Int) - 1)))=T):=by
    show _=_;rw[<-hT,show IntKind.i64.wrap ((m.cons.length:Int) - 1)=(m.cons.length:Int) - 1 by rw[IntKind.wrap_i64];omega]
    unfold U8;rw[Yg];simp;omega
   rw[hT] at yM;clear hT;go_wp2_with fail
   go_region_held3 (λw'=>Bw wr w'/\w'.cell? ⟨w.heap.size,1,none⟩=some (.slice a0 m.cons.length c0)/\w'.cell? ⟨b,off+k2 * 3,none⟩=some (.int .i64 1)/\w'.cell? ⟨b,off+k2 * 3+1,none⟩=some (.int .i64 cn))
    ((refine (λ(hB:Bw wr _)=>⟨hB,(hB.cell (p:=⟨w.heap.size,1,none⟩) l0).trans q1,(hB.cell (p:=⟨b,off+k2 * 3,none⟩) YF).trans h0,(hB.cell (p:=⟨b,off+k2 * 3+1,none⟩) YF).trans h1⟩:Bw wr _->_) ?_;first | exact (Z6 _ _).drew | exact za (by assumption) V'))
    ((go_at_call 40;refine (Rb _ _ _ _).mono ?_;rintro e w3 ⟨rfl,V'⟩;rw[Ev.o];have hB3:=za (by assumption) V'))
   clear l0 q1 h0 h1 YF V';cases T
   ·have HE:Hid (R=5):=by
     have h:R2=false:=by rw[<-yM.o];rfl
     rw[<-Tl.o,h];rfl
    have SZ:=hI (Vq.o.trans (hB3.mono Vq.o.size));clear hB3;go_wp2
    go_ret
    exact⟨by rw[HE.o];rfl,by first | exact SZ.o | exact Vq.o.drew | fail⟩
   have YE:Hid ((l.drop (k2+1)).all (U8 m.cons.length)=R2):=by rw[<-yM.o];exact (Qq _).symm
   have SZ:=hI (Wa.o.trans (hB3.mono Wa.o.size));clear hB3;go_wp2
   go_roundw
   case rel=>exact⟨k2+1,by omega,by go_num,YE,by first | exact SZ.o | exact Wa.o.drew | fail⟩
   case measure=>simp[intOf];omega
  have g1:(kd==1)=false:=by simpa using Yr
  have YE:Hid ((l.drop (k2+1)).all (U8 m.cons.length)=R2):=by
   have h:U8 m.cons.length ⟨kd,cn,cla⟩=true:=by unfold U8;simp[Yr]
   rw[<-yM.o,h];exact (Qq _).symm
  clear Yr;go_wp2_with fail
  go_quiet (fail)
  go_wp2
  go_roundw
  case rel=>exact⟨k2+1,by omega,by go_num,YE,below_drewN Wa.o _⟩
  case measure=>simp[intOf];omega
 have HE:Hid (R=0):=by
  have h:R2=true:=by rw[<-EG.o,QA (by omega)];rfl
  rw[<-Tl.o,h];rfl
 clear Z3;go_wp2
 go_ret
 exact⟨by rw[HE.o];rfl,Vq.o⟩
open Go.RowKit Go.Maps
theorem zOb (m:Mod) (vals:List Int) (hk:0<=m.var/\m.var<(vals.length:Int)) (hb:-1000<=Zx vals m.var/\Zx vals m.var<=1000) (vs cs v:Value) (w:World) (hv:IArg w v vals) :
 Calls prog 15 #[modV vs cs m,v] w λe w'=>∃x,e=.returned x/\LOwn w.heap.size w' x (VX m vals)/\Bw w w':=by
 obtain⟨mv,mc,mg,mk⟩:=m;unfold VX modV;simp only at hk hb ⊢;obtain⟨k,rfl⟩:∃k:Nat,mk=(k:Int):=⟨mk.toNat,by omega⟩
 have TM:k<vals.length:=by omega
 obtain⟨z,hz⟩:∃z,vals[k]? = some z:=⟨vals[k],by rw[ZA TM]⟩
 have P2:Zx vals (k:Int)=z:=by unfold Zx;rw[YK,ZO,hz];rfl
 rw[P2] at hb ⊢;obtain⟨a,c,rfl,hm,hr⟩:=hv;obtain⟨b,off,ha,YF,hc⟩:=hr k z hz;subst ha;have Ct:(k:Int)<(vals.length:Int):=by omega
 clear hr hz P2 hk;by_cases h1:mg=1
 ·subst h1
  rw[if_pos rfl];have tL:IntKind.i64.wrap (z - 1)=z - 1:=by rw[IntKind.wrap_i64];omega
  go_enter func15,ntmps15
  go_wp2_with fail
  have Yt:Bw w (w.alloc (.cells #[vs,cs,.int .i64 1,.int .i64 (k:Int)] 25)):=Z4 _ _;obtain⟨Y,hY⟩:∃Y,w.alloc (.cells #[vs,cs,.int .i64 1,.int .i64 (k:Int)] 25)=Y:=⟨_,rfl⟩;have d3:Y.cell? ⟨w.heap.size,3,none⟩=some (.int .i64 (k:Int)):=by rw[<-hY];simp
  have dl:w.heap.size<Y.heap.size:=by rw[<-hY];simp
  rw[hY] at Yt ⊢;have dc:Y.cell? ⟨b,off+k,none⟩=some (.int .i64 z):=(Yt.cell (p:=⟨b,off+k,none⟩) YF).trans hc;have dbl:b<Y.heap.size:=by have:=Yt.size;omega
  have WI:=hI Yt;have WP:Hid (LOwn Y.drew.heap.size (Y.drew.alloc (.cells #[.int .i64 (k:Int),.int .i64 1,.int .i64 (z - 1)] 76)) (.slice (some ⟨Y.drew.heap.size,0,none⟩) 1 1) [⟨(k:Int),1,z - 1⟩]):=zk Y.drew ⟨(k:Int),1,z - 1⟩;have Y':=Yt.size;clear hY Yt hc YF;go_region_law (fail)
  all_goals
   go_wp2
   go_ret
   exact⟨_,rfl,Ri Y' WP.o,WI.o.drew.alloc Y' _⟩
 by_cases h2:mg=2
 ·subst h2
  rw[if_neg (by decide),if_pos rfl]
  have tL:IntKind.i64.wrap (z+1)=z+1:=by rw[IntKind.wrap_i64];omega
  clear h1;go_enter func15,ntmps15
  go_wp2_with fail
  have Yt:Bw w (w.alloc (.cells #[vs,cs,.int .i64 2,.int .i64 (k:Int)] 25)):=Z4 _ _;obtain⟨Y,hY⟩:∃Y,w.alloc (.cells #[vs,cs,.int .i64 2,.int .i64 (k:Int)] 25)=Y:=⟨_,rfl⟩;have d3:Y.cell? ⟨w.heap.size,3,none⟩=some (.int .i64 (k:Int)):=by rw[<-hY];simp
  have dl:w.heap.size<Y.heap.size:=by rw[<-hY];simp
  rw[hY] at Yt ⊢;have dc:Y.cell? ⟨b,off+k,none⟩=some (.int .i64 z):=(Yt.cell (p:=⟨b,off+k,none⟩) YF).trans hc;have dbl:b<Y.heap.size:=by have:=Yt.size;omega
  have WI:=hI Yt;have WP:Hid (LOwn Y.drew.heap.size (Y.drew.alloc (.cells #[.int .i64 (k:Int),.int .i64 2,.int .i64 (z+1)] 76)) (.slice (some ⟨Y.drew.heap.size,0,none⟩) 1 1) [⟨(k:Int),2,z+1⟩]):=zk Y.drew ⟨(k:Int),2,z+1⟩;have Y':=Yt.size;clear hY Yt hc YF;go_region_law (fail)
  all_goals
   go_wp2
   go_ret
   exact⟨_,rfl,Ri Y' WP.o,WI.o.drew.alloc Y' _⟩
 rw[if_neg h1,if_neg h2];have GQ:(mg==1)=false:=by simpa using h1
 have l8:(mg==2)=false:=by simpa using h2
 clear h1 h2;go_enter func15,ntmps15
 go_wp2
 go_ret
 exact⟨_,rfl,ZH _ _ _ _,Z4 _ _⟩
theorem zSn (c:MCon) (vv vc vr vl:Value) (w:World) (hk:KArg w vv vc vr vl c) (Up:1<=c.kind/\c.kind<=10) (l1:c.vars.length<=4) (l2:c.consts.length<=8) (l3:c.rows.length<=20) (l4:c.lits.length<=4) :
 Calls prog 174 #[conV vv vc vr vl c] w λe w'=>e=.returned (.bool (UT c))/\Bw w w':=by
 obtain⟨⟨a1,c1,rfl,_,_⟩,⟨a2,c2,rfl,_,_⟩,hr,⟨a4,c4,rfl,_,_⟩⟩:=hk;have VG:Hid (∀w':World,Bw w w'->RArg w' vr c.rows):=λw' h=>RArg.below h hr
 obtain⟨a3,c3,rfl,_,_⟩:=hr;obtain⟨R,hR⟩:∃R,UT c=R:=⟨_,rfl⟩;rw[hR];unfold UT at hR;unfold conV;obtain⟨k,YD⟩:∃k,c.kind=k:=⟨_,rfl⟩;rw[YD] at hR Up ⊢;have VF:k=1∨k=2∨k=3∨k=4∨k=5∨k=6∨k=7∨k=8∨k=9∨k=10:=by omega
 clear Up;rcases VF with rfl | rfl | rfl | rfl | rfl | rfl | rfl | rfl | rfl | rfl
 ·have HR:Hid (R=(decide (1<=c.vars.length)&&(decide (c.consts.length=c.vars.length)&&decide (c.rows.length+c.lits.length=0)))):=by show _=_;rw[<-hR,if_pos (by decide)]
  clear hR YD;go_enter func174,ntmps174
  go_wp2
  go_quiet (fail)
  go_wp2
  all_goals
   go_ret
   refine⟨ZD ?_,below_drewN (Z4 _ _) _⟩;rw[HR.o];clear HR VG
   first
    | rfl
    | (try simp only[beq_eq_false_iff_ne,beq_iff_eq,ne_eq] at *
       try simp only[<-Xo] at *
       rw[Yg];simp only[ZB,decide_eq_true_eq,beq_iff_eq,XO,false_iff];omega)
 ·have HR:Hid (R=(decide (1<=c.vars.length)&&(decide (c.consts.length=c.vars.length)&&decide (c.rows.length+c.lits.length=0)))):=by show _=_;rw[<-hR,if_pos (by decide)]
  clear hR YD;go_enter func174,ntmps174
  go_wp2
  go_quiet (fail)
  go_wp2
  all_goals
   go_ret
   refine⟨ZD ?_,below_drewN (Z4 _ _) _⟩;rw[HR.o];clear HR VG
   first
    | rfl
    | (try simp only[beq_eq_false_iff_ne,beq_iff_eq,ne_eq] at *
       try simp only[<-Xo] at *
       rw[Yg];simp only[ZB,decide_eq_true_eq,beq_iff_eq,XO,false_iff];omega)
 ·have HR:Hid (R=(decide (1<=c.vars.length)&&(decide (c.consts.length=c.vars.length)&&decide (c.rows.length+c.lits.length=0)))):=by show _=_;rw[<-hR,if_pos (by decide)]
  clear hR YD;go_enter func174,ntmps174
  go_wp2
  go_quiet (fail)
  go_wp2
  all_goals
   go_ret
   refine⟨ZD ?_,below_drewN (Z4 _ _) _⟩;rw[HR.o];clear HR VG
   first
    | rfl
    | (try simp only[beq_eq_false_iff_ne,beq_iff_eq,ne_eq] at *
       try simp only[<-Xo] at *
       rw[Yg];simp only[ZB,decide_eq_true_eq,beq_iff_eq,XO,false_iff];omega)
 ·rw[if_neg (by decide)] at hR
  by_cases hn:c.n=0
  ·have US:(c.n != 0)=false:=by simpa using hn
   have HR:Hid (R=(decide (1<=c.vars.length)&&decide (c.consts.length+c.rows.length+c.lits.length=0))):=by show _=_;rw[<-hR,if_neg (λh=>h hn)];simp only[if_true]
   clear hR YD hn;go_enter func174,ntmps174
   go_wp2
   go_quiet (fail)
   go_wp2
   all_goals
    go_ret
    refine⟨ZD ?_,below_drewN (Z4 _ _) _⟩;rw[HR.o];clear HR VG
    first
     | rfl
     | (try simp only[beq_eq_false_iff_ne,beq_iff_eq,ne_eq] at *
        try simp only[<-Xo] at *
        rw[Yg];simp only[ZB,decide_eq_true_eq,beq_iff_eq,XO,false_iff];omega)
  have US:(c.n != 0)=true:=by simpa using hn
  have HR:Hid (R=false):=by show _=_;rw[<-hR,if_pos hn]
  clear hR YD hn;go_enter func174,ntmps174
  go_wp2
  go_quiet (fail)
  go_wp2
  go_ret
  exact⟨ZD HR.o.symm,below_drewN (Z4 _ _) _⟩
 ·rw[if_neg (by decide)] at hR
  by_cases hn:c.n=0
  ·have US:(c.n != 0)=false:=by simpa using hn
   have HR:Hid (R=(decide (c.vars.length=2)&&(decide (1<=c.consts.length)&&decide (c.rows.length+c.lits.length=0)))):=by show _=_;rw[<-hR,if_neg (λh=>h hn)];simp only[show ¬((5:Int)=4) by decide,if_true,if_false]
   clear hR YD hn;go_enter func174,ntmps174
   go_wp2
   go_quiet (fail)
   go_wp2
   all_goals
    go_ret
    refine⟨ZD ?_,below_drewN (Z4 _ _) _⟩;rw[HR.o];clear HR VG
    first
     | rfl
     | (try simp only[beq_eq_false_iff_ne,beq_iff_eq,ne_eq] at *
        try simp only[<-Xo] at *
        rw[Yg];simp only[ZB,decide_eq_true_eq,beq_iff_eq,XO,false_iff];omega)
  have US:(c.n != 0)=true:=by simpa using hn
  have HR:Hid (R=false):=by show _=_;rw[<-hR,if_pos hn]
  clear hR YD hn;go_enter func174,ntmps174
  go_wp2
  go_quiet (fail)
  go_wp2
  go_ret
  exact⟨ZD HR.o.symm,below_drewN (Z4 _ _) _⟩
 ·rw[if_neg (by decide)] at hR
  by_cases hn:c.n=0
  ·have US:(c.n != 0)=false:=by simpa using hn
   have HR:Hid (R=(decide (1<=c.vars.length)&&(decide (c.consts.length+c.lits.length=0)&&c.rows.all λr=>decide (r.length=c.vars.length)))):=by show _=_;rw[<-hR,if_neg (λh=>h hn)];simp only[show ¬((6:Int)=4) by decide,show ¬((6:Int)=5) by decide,if_true,if_false]
   clear hR YD hn;go_enter func174,ntmps174
   go_wp2
   go_quiet (fail)
   go_wp2
   have ZW:Hid (Bw w ((w.alloc (.cells #[.int .i64 6,.slice a1 c.vars.length c1,.slice a2 c.consts.length c2,.int .i64 c.n,.slice a3 c.rows.length c3,.slice a4 c.lits.length c4] 69)).drewN nq)):=below_drewN (Z4 _ _) _;have k4:((w.alloc (.cells #[.int .i64 6,.slice a1 c.vars.length c1,.slice a2 c.consts.length c2,.int .i64 c.n,.slice a3 c.rows.length c3,.slice a4 c.lits.length c4] 69)).drewN nq).cell? ⟨w.heap.size,4,none⟩=some (.slice a3 c.rows.length c3):=by simp
   obtain⟨W,hW⟩:∃W,((w.alloc (.cells #[.int .i64 6,.slice a1 c.vars.length c1,.slice a2 c.consts.length c2,.int .i64 c.n,.slice a3 c.rows.length c3,.slice a4 c.lits.length c4] 69)).drewN nq)=W:=⟨_,rfl⟩;rw[hW] at ZW k4 ⊢;clear hW;have U0:=VG.o W ZW.o;clear VG;obtain⟨a9,c9,e9,hm,hr⟩:=U0
   injection e9 with e91 _ e92
   subst e91 e92;have HV:=hI hr;unfold maxLen at hm;obtain⟨Y0,hm⟩:=hm;clear hr;go_loop [7] (λi=>∃m:Nat,m<=c.rows.length/\i=.int .i64 m/\Hid ((c.rows.take m).all (λr=>decide (r.length=c.vars.length))=true)) (λi=>c.rows.length - (intOf i).toNat)
   case atStart=>exact⟨0,by omega,rfl,rfl⟩
   obtain⟨m,Uo,rfl,hall⟩:=hrel;by_cases Z7:m<c.rows.length
   ·obtain⟨z,hz⟩:∃z,c.rows[m]? = some z:=⟨c.rows[m],by simp[Z7]⟩
    obtain⟨b,off,x,ha,hb,hc,hx⟩:=HV.o m z hz;obtain⟨a9,c9,rfl,Wk,_⟩:=hx;have HZ:=hI hz;subst ha;clear hz Wk;by_cases hq:z.length=c.vars.length
    ·have HN:Hid ((c.rows.take (m+1)).all (λr=>decide (r.length=c.vars.length))=true):=RF _ c.rows m z HZ.o hall.o (decide_eq_true hq)
     have YA:((z.length:Int) != (c.vars.length:Int))=false:=by simp[hq]
     clear hq;go_wp2
     go_round
     case rel=>exact⟨m+1,by omega,by go_num,HN⟩
     case measure=>simp[intOf];omega
    have HN:Hid (R=false):=by show _=_;rw[HR.o,SJ _ c.rows m z HZ.o (decide_eq_false hq)];simp
    have YA:((z.length:Int) != (c.vars.length:Int))=true:=by simp;omega
    clear hq;go_wp2
    go_ret
    exact⟨ZD HN.o.symm,ZW.o⟩
   have HN:Hid (R=(decide (1<=c.vars.length)&&decide (c.consts.length+c.lits.length=0))):=by show _=_;rw[HR.o,RB _ c.rows m Z7 hall.o];simp
   clear HV hall HR k4;go_wp2
   all_goals
    go_ret
    refine⟨ZD ?_,ZW.o⟩;rw[HN.o];clear HN ZW
    first
     | rfl
     | (try simp only[beq_eq_false_iff_ne,beq_iff_eq,ne_eq] at *
        try simp only[<-Xo] at *
        rw[Yg];simp only[ZB,decide_eq_true_eq,beq_iff_eq,XO,false_iff];omega)
  have US:(c.n != 0)=true:=by simpa using hn
  have HR:Hid (R=false):=by show _=_;rw[<-hR,if_pos hn]
  clear hR YD hn;go_enter func174,ntmps174
  go_wp2
  go_quiet (fail)
  go_wp2
  go_ret
  exact⟨ZD HR.o.symm,below_drewN (Z4 _ _) _⟩
 ·rw[if_neg (by decide)] at hR
  by_cases hn:c.n=0
  ·have US:(c.n != 0)=false:=by simpa using hn
   have HR:Hid (R=(decide (c.vars.length=3)&&decide (c.consts.length+c.rows.length+c.lits.length=0))):=by show _=_;rw[<-hR,if_neg (λh=>h hn)];simp only[show ¬((7:Int)=4) by decide,show ¬((7:Int)=5) by decide,show ¬((7:Int)=6) by decide,if_true,if_false]
   clear hR YD hn;go_enter func174,ntmps174
   go_wp2
   go_quiet (fail)
   go_wp2
   all_goals
    go_ret
    refine⟨ZD ?_,below_drewN (Z4 _ _) _⟩;rw[HR.o];clear HR VG
    first
     | rfl
     | (try simp only[beq_eq_false_iff_ne,beq_iff_eq,ne_eq] at *
        try simp only[<-Xo] at *
        rw[Yg];simp only[ZB,decide_eq_true_eq,beq_iff_eq,XO,false_iff];omega)
  have US:(c.n != 0)=true:=by simpa using hn
  have HR:Hid (R=false):=by show _=_;rw[<-hR,if_pos hn]
  clear hR YD hn;go_enter func174,ntmps174
  go_wp2
  go_quiet (fail)
  go_wp2
  go_ret
  exact⟨ZD HR.o.symm,below_drewN (Z4 _ _) _⟩
 ·rw[if_neg (by decide)] at hR
  by_cases hn:c.n=0
  ·have US:(c.n != 0)=false:=by simpa using hn
   have HR:Hid (R=(decide (2<=c.vars.length)&&decide (c.consts.length+c.rows.length+c.lits.length=0))):=by show _=_;rw[<-hR,if_neg (λh=>h hn)];simp only[show ¬((8:Int)=4) by decide,show ¬((8:Int)=5) by decide,show ¬((8:Int)=6) by decide,show ¬((8:Int)=7) by decide,if_true,if_false]
   clear hR YD hn;go_enter func174,ntmps174
   go_wp2
   go_quiet (fail)
   go_wp2
   all_goals
    go_ret
    refine⟨ZD ?_,below_drewN (Z4 _ _) _⟩;rw[HR.o];clear HR VG
    first
     | rfl
     | (try simp only[beq_eq_false_iff_ne,beq_iff_eq,ne_eq] at *
        try simp only[<-Xo] at *
        rw[Yg];simp only[ZB,decide_eq_true_eq,beq_iff_eq,XO,false_iff];omega)
  have US:(c.n != 0)=true:=by simpa using hn
  have HR:Hid (R=false):=by show _=_;rw[<-hR,if_pos hn]
  clear hR YD hn;go_enter func174,ntmps174
  go_wp2
  go_quiet (fail)
  go_wp2
  go_ret
  exact⟨ZD HR.o.symm,below_drewN (Z4 _ _) _⟩
 ·rw[if_neg (by decide)] at hR
  by_cases hn:c.n=0
  ·have US:(c.n != 0)=false:=by simpa using hn
   have HR:Hid (R=(decide (c.vars.length+c.consts.length+c.rows.length=0))):=by show _=_;rw[<-hR,if_neg (λh=>h hn)];simp only[show ¬((9:Int)=4) by decide,show ¬((9:Int)=5) by decide,show ¬((9:Int)=6) by decide,show ¬((9:Int)=7) by decide,show ¬((9:Int)=8) by decide,if_true,if_false]
   clear hR YD hn;go_enter func174,ntmps174
   go_wp2
   go_quiet (fail)
   go_wp2
   all_goals
    go_ret
    refine⟨ZD ?_,below_drewN (Z4 _ _) _⟩;rw[HR.o];clear HR VG
    first
     | rfl
     | (try simp only[beq_eq_false_iff_ne,beq_iff_eq,ne_eq] at *
        try simp only[<-Xo] at *
        rw[Yg];simp only[decide_eq_true_eq,beq_iff_eq,XO,false_iff];omega)
  have US:(c.n != 0)=true:=by simpa using hn
  have HR:Hid (R=false):=by show _=_;rw[<-hR,if_pos hn]
  clear hR YD hn;go_enter func174,ntmps174
  go_wp2
  go_quiet (fail)
  go_wp2
  go_ret
  exact⟨ZD HR.o.symm,below_drewN (Z4 _ _) _⟩
 rw[if_neg (by decide)] at hR
 by_cases hn:c.n=0
 ·have US:(c.n != 0)=false:=by simpa using hn
  have HR:Hid (R=(decide (c.vars.length=1)&&(decide (c.lits.length=1)&&decide (c.consts.length+c.rows.length=0)))):=by show _=_;rw[<-hR,if_neg (λh=>h hn)];simp only[show ¬((10:Int)=4) by decide,show ¬((10:Int)=5) by decide,show ¬((10:Int)=6) by decide,show ¬((10:Int)=7) by decide,show ¬((10:Int)=8) by decide,show ¬((10:Int)=9) by decide,if_true,if_false]
  clear hR YD hn;go_enter func174,ntmps174
  go_wp2
  go_quiet (fail)
  go_wp2
  all_goals
   go_ret
   refine⟨ZD ?_,below_drewN (Z4 _ _) _⟩;rw[HR.o];clear HR VG
   first
    | rfl
    | (try simp only[beq_eq_false_iff_ne,beq_iff_eq,ne_eq] at *
       try simp only[<-Xo] at *
       rw[Yg];simp only[ZB,decide_eq_true_eq,beq_iff_eq,XO,false_iff];omega)
 have US:(c.n != 0)=true:=by simpa using hn
 have HR:Hid (R=false):=by show _=_;rw[<-hR,if_pos hn]
 clear hR YD hn;go_enter func174,ntmps174
 go_wp2
 go_quiet (fail)
 go_wp2
 go_ret
 exact⟨ZD HR.o.symm,below_drewN (Z4 _ _) _⟩
end Go.Proofs.YtndcpnlaadikoaaGreatDoor
