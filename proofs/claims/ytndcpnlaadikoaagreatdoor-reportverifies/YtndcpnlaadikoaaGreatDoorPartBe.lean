/- What the proof leans on, part 31. -/
import Derived.Test.YtndcpnlaadikoaaGreatDoorPartAu
set_option maxRecDepth 100000
set_option maxHeartbeats 12800000
open Go.Proofs.Tryz
namespace Go.Proofs.YtndcpnlaadikoaaGreatDoor
open Go.RowKit
theorem zUx (vars vals:List Int) (k:Nat) (x:Int) (h:vars[k]? = some x):ownV (vars.take (k+1)) vals=ownV (vars.take k) vals++[Zx vals x]:=by
 unfold ownV;rw[Y1,h,YY];rfl
theorem jN:∀(r:List Int) (q:Int),q<=r.foldl max q/\∀z∈r,z<=r.foldl max q
 | [],q=>⟨Int.le_refl _,λz hz=>by cases hz⟩
 | x :: r,q=>by
   rw[Nt];obtain⟨h1,h2⟩:=jN r (max q x);refine⟨by omega,λz hz=>?_⟩
   rcases YJ.1 hz with rfl | hz
   ·omega
   exact h2 z hz
theorem jM:∀(r:List Int) (q:Int),r.foldl max q=q∨r.foldl max q∈r
 | [],q=>Or.inl rfl
 | x :: r,q=>by
   rw[Nt];rcases jM r (max q x) with h | h
   ·rw[h]
    by_cases hx:q<=x
    ·right;rw[show max q x=x by omega];exact Zk ..
    left;omega
   exact Or.inr (Y2 _ h)
theorem zWO (L:List Int) (hL:L≠[]) (p:Int):(p==maxV L)=(L.all (λz=>decide (z<=p))&&L.any (λz=>z==p)):=by
 match L,hL with
 | q :: r,_ =>
   obtain⟨g1,g2⟩:=jN r q;have g3:=jM r q;show (p==r.foldl max q)=_;cases hq:(p==r.foldl max q) with
   | true =>
     have e:p=r.foldl max q:=by simpa using hq
     symm
     rw[ZB,W8,Yh];refine⟨λz hz=>decide_eq_true ?_,p,?_,by simp⟩
     ·rw[e]
      rcases YJ.1 hz with rfl | hz
      ·exact g1
      exact g2 z hz
     rw[e];rcases g3 with h | h
     ·rw[h];exact Zk ..
     exact Y2 _ h
   | false =>
     have e:p≠r.foldl max q:=by simpa using hq
     symm
     rw[RY];cases ha:(q :: r).all (λz=>decide (z<=p)) with
     | false=>exact Or.inl rfl
     | true =>
       right
       rw[Ty];intro z hz yx;have Zb:z=p:=by simpa using yx
       rw[W8] at ha;have hm:r.foldl max q<=p:=by
        rcases g3 with h | h
        ·rw[h];simpa using ha q (Zk ..)
        simpa using ha _ (Y2 _ h)
       have hp:p<=r.foldl max q:=by
        rw[<-Zb];rcases YJ.1 hz with rfl | hz
        ·exact g1
        exact g2 z hz
       omega
theorem so (c:MCon) (vals:List Int) (vv vc vr vl v:Value) (w:World) (hk:KArg w vv vc vr vl c) (hv:IArg w v vals) (hc:conE vals.length c=0) (hb:∀x∈vals,-50<=x/\x<=50) :
 Calls prog 57 #[conV vv vc vr vl c,v] w λe w'=>e=.returned (.bool (YL c vals))/\Bw w w':=by
 obtain⟨⟨X6,Nl⟩,Rv,Vf,Ve,Vd,Nk⟩:=DH _ _ hc;obtain⟨Jz,Ar,hc8,hr20⟩:=As c Rv;have Aq:Hid (∀x∈c.vars,0<=x/\x<(vals.length:Int)):=(DG c _ Ve).1;have E':Hid (∀l∈c.lits,0<=l.var/\l.var<(vals.length:Int)):=(DG c _ Ve).2;have Jy:Hid (∀x∈c.consts,-1000<=x/\x<=1000):=o_ c Vd;have Ru:Hid (∀x∈ownV c.vars vals,-50<=x/\x<=50):=pa c.vars vals hb;have UD:Hid (∀w':World,Bw w w'->KArg w' vv vc vr vl c):=λw' h=>KArg.below h hk
 have Ww:Hid (∀w':World,Bw w w'->IArg w' v vals):=λw' h=>IArg.below h hv
 have PC:=hI Vf;obtain⟨⟨a1,c1,rfl,Y0,_⟩,⟨a2,c2,rfl,Wk,_⟩,⟨a3,c3,rfl,Vk,_⟩,⟨a4,c4,rfl,hm4,_⟩⟩:=hk;obtain⟨a5,c5,rfl,hm5,_⟩:=hv;unfold maxLen at Y0 Wk Vk hm4 hm5;obtain⟨Ql,Y0⟩:=Y0;obtain⟨Qi,Wk⟩:=Wk;obtain⟨Ns,Vk⟩:=Vk;obtain⟨OY,hm4⟩:=hm4;obtain⟨BN,hm5⟩:=hm5;obtain⟨R,hR⟩:∃R,YL c vals=R:=⟨_,rfl⟩;rw[hR];have HR:=hI hR;obtain⟨i0,hi,Ze,Y_,Zb⟩:=info_parts Hl;unfold conV;clear hR hc hb Rv Vf Ve Vd Nk;go_enter func57,ntmps57
 go_wp2_with fail
 have Zt:Hid (Bw w (w.alloc (.cells #[.int .i64 c.kind,.slice a1 c.vars.length c1,.slice a2 c.consts.length c2,.int .i64 c.n,.slice a3 c.rows.length c3,.slice a4 c.lits.length c4] 69))):=Z4 _ _;have XL:Hid ((w.alloc (.cells #[.int .i64 c.kind,.slice a1 c.vars.length c1,.slice a2 c.consts.length c2,.int .i64 c.n,.slice a3 c.rows.length c3,.slice a4 c.lits.length c4] 69)).heap[w.heap.size]? = some (.cells #[.int .i64 c.kind,.slice a1 c.vars.length c1,.slice a2 c.consts.length c2,.int .i64 c.n,.slice a3 c.rows.length c3,.slice a4 c.lits.length c4] 69)):=heap_alloc_new _ _;obtain⟨W,hW⟩:∃W,w.alloc (.cells #[.int .i64 c.kind,.slice a1 c.vars.length c1,.slice a2 c.consts.length c2,.int .i64 c.n,.slice a3 c.rows.length c3,.slice a4 c.lits.length c4] 69)=W:=⟨_,rfl⟩;rw[hW] at Zt XL ⊢;clear hW;have HC:Hid (∀Y,Bw W Y->w.heap.size<Y.heap.size/\Y.cell? ⟨w.heap.size,0,none⟩=some (.int .i64 c.kind)/\Y.cell? ⟨w.heap.size,1,none⟩=some (.slice a1 c.vars.length c1)/\Y.cell? ⟨w.heap.size,2,none⟩=some (.slice a2 c.consts.length c2)/\Y.cell? ⟨w.heap.size,3,none⟩=some (.int .i64 c.n)/\Y.cell? ⟨w.heap.size,4,none⟩=some (.slice a3 c.rows.length c3)/\Y.cell? ⟨w.heap.size,5,none⟩=some (.slice a4 c.lits.length c4)/\Bw w Y):=λY hY=>by
  have hN:=(hY.block _ (Z8.1 XL.o).1).trans XL.o;exact⟨(Z8.1 hN).1,Z_ hN 0 _ rfl,Z_ hN 1 _ rfl,Z_ hN 2 _ rfl,Z_ hN 3 _ rfl,Z_ hN 4 _ rfl,Z_ hN 5 _ rfl,Zt.o.trans (hY.mono Zt.o.size)⟩
 go_loopw [5,6] (λo i wr=>∃k:Nat,k<=c.vars.length/\i=.int .i64 k/\wr.ownsRow W.heap.size 3 1 o (ownV (c.vars.take k) vals).length ((ownV (c.vars.take k) vals).map (Value.int .i64))/\Bw W wr) (λ_ i _=>c.vars.length - (intOf i).toNat)
 case atStart=>exact⟨0,by omega,rfl,ZH _ _ _ _,Z6 _ _⟩
 obtain⟨k,hk,rfl,Z9,Z3⟩:=hrel;obtain⟨acc,YX⟩:∃acc,ownV (c.vars.take k) vals=acc:=⟨_,rfl⟩;have Uk:=hI YX;have OT:acc.length<=4:=by rw[<-YX,wP,X_];omega
 rw[YX] at Z9;have Yo:=hI Z9;have ZW:=hI Z3;obtain⟨ao,co,Ki⟩:=ZJ Z9;subst Ki;obtain⟨l0,q0,q1,q2,q3,q4,q5,Ug⟩:=HC.o _ Z3;have Y7:=hI Ug;clear YX Z3 Ug;by_cases Z7:k<c.vars.length
 ·obtain⟨x,hx⟩:∃x,c.vars[k]? = some x:=⟨c.vars[k],by simp[Z7]⟩
  obtain⟨TK,Rf⟩:=Aq.o x (Zz hx);obtain⟨y,rfl⟩:∃y:Nat,x=(y:Int):=⟨x.toNat,by omega⟩
  have IL:y<vals.length:=by omega
  obtain⟨z,hz⟩:∃z,vals[y]? = some z:=⟨vals[y],by simp[IL]⟩
  have XA:Hid (ownV (c.vars.take (k+1)) vals=acc++[z]):=by show _=_;rw[zUx c.vars vals k _ hx,Uk.o,Ia vals y z hz]
  obtain⟨_,_,Vt,_,VR⟩:=(UD.o _ Y7.o).1;cases Vt
  obtain⟨b1,o1,Z5,F7,e1⟩:=VR k _ hx;subst Z5;obtain⟨_,_,WT,_,Yq⟩:=Ww.o _ Y7.o;cases WT
  obtain⟨b2,o2,ZY,Sp,e2⟩:=Yq y _ hz;subst ZY;clear hx hz VR Yq;go_wp2_with (at_builtin;refine wpList_append_own _ rfl _ _ 42 rfl W.heap.size 3 i0 (.int .i64 0) 1 8 underlying42 hi Ze Y_ Zb rfl (by decide) _ _ _ rfl (Z9.alloc _) ⟨wr.heap.size,0,none⟩ 1 1 [.int .i64 z] rfl rfl ?c1 ?c2 ?c3 ?c4 ?c5 ?_)
  case c1=>exact Jk wr z
  case c2=>intro u hu;rcases Zh.1 hu with rfl;rfl
  case c3=>unfold maxLen;omega
  case c4=>omega
  case c5=>have:=ZW.o.size;simp;omega
  intro v3 w3 ZX Z1 _;have WL:Hid (w3.ownsRow W.heap.size 3 1 v3 (ownV (c.vars.take (k+1)) vals).length ((ownV (c.vars.take (k+1)) vals).map (Value.int .i64))):=by
   show w3.ownsRow _ _ _ _ _ _;rw[XA.o,ZC,YY];exact ZX
  have ZM:Hid (Bw W w3):=(ZW.o.alloc ZW.o.size _).grown Z1 (by have:=ZW.o.size;simp;omega) (λg h=>(Z9.lt g h).1)
  clear ZX Z1 Z9;go_wp2
  go_roundw
  case rel=>exact⟨k+1,by omega,by go_num,WL.o,ZM.o⟩
  case measure=>simp[intOf];omega
 have X4:Hid (ownV c.vars vals=acc):=by show _=_;rw[<-Uk.o,Zi (by omega)]
 have HX:Hid (IArg wr (.slice ao acc.length co) acc):=JA Yo.o;rw[X4.o] at Ru;have Us:Hid (acc.length=c.vars.length):=by show _=_;rw[<-X4.o];exact wP _ _
 obtain⟨_,_,S1,⟨H_,Nj⟩,N_⟩:=HX.o;cases S1
 unfold maxLen at Nj;have H6:=hI N_;obtain⟨kd,Yr⟩:∃kd,c.kind=kd:=⟨_,rfl⟩;have VQ:=hI Yr;rw[Yr] at q0 X6 Nl;clear Yr Z9 Uk N_;have VF:(kd=1∨kd=2∨kd=3)∨kd=4∨kd=5∨kd=6∨kd=7∨kd=8∨kd=9∨kd=10:=by omega
 clear X6 Nl;rcases VF with Yr | rfl | rfl | rfl | rfl | rfl | rfl | rfl
 ·
  have HL:Hid (c.consts.length=acc.length):=by
   have h:=PC.o;unfold UT at h;rw[VQ.o] at h;rcases Yr with rfl | rfl | rfl
   ·simp at h;exact h.2.1.trans Us.o.symm
   ·simp at h;exact h.2.1.trans Us.o.symm
   simp at h;exact h.2.1.trans Us.o.symm
  have HE:Hid (R=if kd=1 then decide (sumV c.consts acc<=c.n) else if kd=2 then sumV c.consts acc==c.n else sumV c.consts acc != c.n):=by
   show _=_;rw[<-HR.o,<-X4.o];unfold YL;rw[VQ.o];rcases Yr with rfl | rfl | rfl <;> rfl
  have HK3:Hid (kd=1∨kd=2∨kd=3):=Yr;have g3:decide (kd<=3)=true:=decide_eq_true (by omega)
  obtain⟨_,_,XV,_,Tb⟩:=(UD.o _ Y7.o).2.1;cases XV
  have O_:=hI Tb;obtain⟨wz,Ti⟩:∃wz:World,wz=wr:=⟨_,rfl⟩;clear Yr Tb;go_wp2_with fail
  rw[<-Ti] at q0 q1 q2 q3 q4 q5 l0 HX H6 Y7 O_ ZW Yo ⊢;clear Ti;go_loopw [7,8] (λt i wr=>∃(p:Nat) (s:Int),p<=acc.length/\i=.int .i64 p/\t=.int .i64 s/\Hid (sumK c.consts acc p=s)/\(-50000 * (p:Int)<=s/\s<=50000 * (p:Int))/\∃n,wr=wz.drewN n) (λ_ i _=>acc.length - (intOf i).toNat)
  case atStart=>exact⟨0,0,by omega,rfl,rfl,rfl,by omega,0,rfl⟩
  obtain⟨p,t,hp,rfl,rfl,hs,⟨Z5,ZY⟩,nq,rfl⟩:=hrel;by_cases Z7:p<acc.length
  ·have UR:p<c.consts.length:=by rw[HL.o];exact Z7
   obtain⟨x,hx⟩:∃x,c.consts[p]? = some x:=⟨c.consts[p],by simp[UR]⟩
   obtain⟨y,hy⟩:∃y,acc[p]? = some y:=⟨acc[p],by simp[Z7]⟩
   have HXX:Hid (sumK c.consts acc (p+1)=t+y * x):=by show _=_;rw[po c.consts acc p x y hx hy,hs.o,Int.mul_comm]
   obtain⟨b,off,rfl,hb,hc⟩:=O_.o p x hx;obtain⟨b',off',rfl,XI,hd⟩:=H6.o p y hy;have OV:=Jy.o x (Zz hx);have Nn:=Ru.o y (Zz hy);obtain⟨Vh,PF⟩:=Au x y OV.1 OV.2 Nn.1 Nn.2;rw[Int.mul_comm] at Vh PF;clear hx hy OV Nn;go_wp2
   go_quiet (fail)
   go_wp2
   go_roundw
   case rel=>exact⟨p+1,t+y * x,by omega,by go_num,by go_num,HXX,⟨by omega,by omega⟩,_,rfl⟩
   case measure=>simp[intOf];omega
  have HN:Hid (sumV c.consts acc=t):=by
   show _=_;rw[<-hs.o];unfold sumK sumV;rw[Zi (by rw[List.length_zipWith];have:=HL.o;omega)]
  rw[HN.o] at HE;rcases HK3.o with rfl | rfl | rfl
  ·have WO:Hid (R=decide (t<=c.n)):=HE.o
   clear HE;go_wp2
   go_ret
   exact⟨ZD WO.o.symm,below_drewN Y7.o _⟩
  ·have WO:Hid (R=(t==c.n)):=HE.o
   clear HE;go_wp2
   go_ret
   exact⟨ZD WO.o.symm,below_drewN Y7.o _⟩
  have WO:Hid (R=(t != c.n)):=HE.o;clear HE;go_wp2
  go_ret
  exact⟨ZD WO.o.symm,below_drewN Y7.o _⟩
 ·
  have HE:Hid (R=decide acc.Nodup):=by show _=_;rw[<-HR.o,<-X4.o];unfold YL;rw[VQ.o];rfl
  obtain⟨wz,Ti⟩:∃wz:World,wz=wr:=⟨_,rfl⟩;go_wp2_with fail
  rw[<-Ti] at q0 q1 q2 q3 q4 q5 l0 HX H6 Y7 ZW Yo ⊢;clear Ti;go_loopw [9] (λi wr=>∃p:Nat,p<=acc.length/\i=.int .i64 p/\Hid ((acc.take p).Nodup)/\∃n,wr=wz.drewN n) (λi _=>acc.length - (intOf i).toNat)
  case atStart=>exact⟨0,by omega,rfl,(by simp[Hid]),0,rfl⟩
  obtain⟨p,hp,rfl,PL,nq,rfl⟩:=hrel;by_cases Z7:p<acc.length
  ·obtain⟨y,hy⟩:∃y,acc[p]? = some y:=⟨acc[p],by simp[Z7]⟩
   have HY:Hid (acc[p]? = some y):=hy;obtain⟨b',off',rfl,XI,hd⟩:=H6.o p y hy;clear hy;go_wp2_with fail
   go_loopw [10] (λi wr=>∃q:Nat,q<=p/\i=.int .i64 q/\Hid (y∉acc.take q)/\∃n,wr=wz.drewN n) (λi _=>p - (intOf i).toNat)
   case atStart=>exact⟨0,by omega,rfl,(by simp[Hid]),_,rfl⟩
   obtain⟨q,hq,rfl,jL,nq2,rfl⟩:=hrel;by_cases Kh:q<p
   ·obtain⟨z,hz⟩:∃z,acc[q]? = some z:=⟨acc[q]'(by omega),by rw[ZA (by omega)]⟩
    have HZ:Hid (acc[q]? = some z):=hz;obtain⟨b2,off2,V2,_,hd2⟩:=H6.o q z hz;cases V2
    clear hz;cases jK:(y==z)
    ·have YE:Hid (y∉acc.take (q+1)):=by
      intro hm;rw[Y1,HZ.o] at hm;rcases Xn.1 hm with hm | hm
      ·exact jL.o hm
      have:y=z:=by simpa using hm
      simp[this] at jK
     go_wp2
     go_quiet (fail)
     go_wp2
     go_roundw
     case rel=>exact⟨q+1,by omega,by go_num,YE,_,rfl⟩
     case measure=>simp[intOf];omega
    have HF:Hid (R=false):=by
     show _=_;rw[HE.o];refine decide_eq_false λhn=>?_
     have e:y=z:=by simpa using jK
     have h1:=(List.pairwise_iff_getElem.1 hn) q p (by omega) (by omega) Kh
     have h2:acc[q]'(by omega)=z:=by have:=HZ.o;rw[ZA (by omega)] at this;exact Zl this
     have h3:acc[p]'(by omega)=y:=by have:=HY.o;rw[ZA (by omega)] at this;exact Zl this
     rw[h2,h3] at h1;exact h1 e.symm
    go_wp2
    go_quiet (fail)
    go_wp2
    go_ret
    exact⟨ZD HF.o.symm,below_drewN (below_drewN Y7.o _) _⟩
   have jJ:q=p:=by omega
   have YE:Hid ((acc.take (p+1)).Nodup):=by
    show List.Nodup _;rw[Y1,HY.o,K9];refine⟨PL.o,by simp,λa ha b hb V2=>?_⟩
    have:b=y:=by simpa using hb
    rw[this] at V2;rw[V2] at ha;have:=jL.o;rw[jJ] at this;exact this ha
   clear jJ;go_wp2
   go_roundw
   case rel=>exact⟨p+1,by omega,by go_num,YE,_,rfl⟩
   case measure=>simp[intOf];omega
  have HF:Hid (R=true):=by
   show _=_;rw[HE.o];have:=PL.o;rw[Zi (by omega)] at this
   exact decide_eq_true this
  go_wp2
  go_ret
  exact⟨ZD HF.o.symm,below_drewN Y7.o _⟩
 ·
  have HL:Hid (acc.length=2):=by
   have h:=PC.o;unfold UT at h;rw[VQ.o] at h;simp at h;exact Us.o.trans h.2.1
  obtain⟨p,q,rfl⟩:∃p q,acc=[p,q]:=by
   match acc,HL.o with
   | [p,q],_=>exact⟨p,q,rfl⟩
  obtain⟨b,off,rfl,hb,e0⟩:=H6.o 0 p rfl;obtain⟨b',off',V2,XI,e1⟩:=H6.o 1 q rfl;cases V2
  rw[Wl] at e0;have HE:Hid (R=(decide (0<=p)&&(decide (p<c.consts.length)&&(c.consts.getD p.toNat 0==q)))):=by show _=_;rw[<-HR.o];unfold YL;rw[VQ.o,X4.o];rfl
  obtain⟨_,_,XV,_,Tb⟩:=(UD.o _ Y7.o).2.1;cases XV
  have O_:=hI Tb;obtain⟨wz,Ti⟩:∃wz:World,wz=wr:=⟨_,rfl⟩;simp only[Xe,Tw,Zn,Nat.reduceAdd] at *;clear Tb;go_wp2_with fail
  rw[<-Ti] at q0 q1 q2 q3 q4 q5 l0 Y7 O_ ZW e0 e1 hb ⊢;clear Ti HX H6 Yo XI;go_loopw [11] (λi wr=>∃k:Nat,k<=c.consts.length/\i=.int .i64 k/\Hid (∀j:Nat,j<k->p≠(j:Int))/\∃n,wr=wz.drewN n) (λi _=>c.consts.length - (intOf i).toNat)
  case atStart=>exact⟨0,by omega,rfl,(λj hj=>by omega),0,rfl⟩
  obtain⟨k,hk,rfl,SW,nq,rfl⟩:=hrel;by_cases Z7:k<c.consts.length
  ·obtain⟨x,hx⟩:∃x,c.consts[k]? = some x:=⟨c.consts[k],by simp[Z7]⟩
   have EJ:Hid (c.consts[k]? = some x):=hx;obtain⟨b2,off2,rfl,ZY,Yb⟩:=O_.o k x hx;clear hx;cases jI:(p==(k:Int))
   ·have YE:Hid (∀j:Nat,j<k+1->p≠(j:Int)):=λj hj=>by
     by_cases T1:j=k
     ·subst T1;simpa using jI
     exact SW.o j (by omega)
    go_wp2
    go_roundw
    case rel=>exact⟨k+1,by omega,by go_num,YE,_,rfl⟩
    case measure=>simp[intOf];omega
   have HF:Hid (R=(x==q)):=by
    show _=_;have e:p=(k:Int):=by simpa using jI
    rw[HE.o,e,decide_eq_true (by omega:(0:Int)<=(k:Int)),decide_eq_true (by omega:(k:Int)<(c.consts.length:Int)),YK,ZO,EJ.o];rfl
   go_wp2
   go_quiet (fail)
   go_wp2
   go_ret
   exact⟨ZD HF.o.symm,below_drewN (below_drewN Y7.o _) _⟩
  have HF:Hid (R=false):=by
   show _=_;rw[HE.o];by_cases h0:0<=p
   ·have:¬p<(c.consts.length:Int):=λh=>SW.o p.toNat (by omega) (by omega)
    rw[decide_eq_false this];simp
   rw[decide_eq_false h0];rfl
  go_wp2
  go_ret
  exact⟨ZD HF.o.symm,below_drewN Y7.o _⟩
 ·
  have HE:Hid (R=c.rows.any λr=>decide (r=acc)):=by show _=_;rw[<-HR.o,<-X4.o];unfold YL;rw[VQ.o];rfl
  obtain⟨_,_,XV,_,Tb⟩:=(UD.o _ Y7.o).2.2.1;cases XV
  have O_:=hI Tb;obtain⟨wz,Ti⟩:∃wz:World,wz=wr:=⟨_,rfl⟩;clear Tb;go_wp2_with fail
  rw[<-Ti] at q0 q1 q2 q3 q4 q5 l0 HX H6 Y7 O_ ZW Yo ⊢;clear Ti;go_loopw [12] (λi wr=>∃k:Nat,k<=c.rows.length/\i=.int .i64 k/\Hid ((c.rows.take k).any (λr=>decide (r=acc))=false)/\∃n,wr=wz.drewN n) (λi _=>c.rows.length - (intOf i).toNat)
  case atStart=>exact⟨0,by omega,rfl,rfl,0,rfl⟩
  obtain⟨k,hk,rfl,hall,nq,rfl⟩:=hrel;by_cases Z7:k<c.rows.length
  ·obtain⟨r,hr⟩:∃r,c.rows[k]? = some r:=⟨c.rows[k],by simp[Z7]⟩
   have VG:=hI hr;obtain⟨b2,off2,xv,rfl,ZY,Yb,Vn⟩:=O_.o k r hr;have NX:=hI Vn;obtain⟨a7,c7,rfl,_,_⟩:=Vn;clear hr;go_wp2_with fail
   refine (lU r acc _ _ (wz.drewN nq) (IArg.below (below_drewN (Z6 _ _) _) NX.o) (IArg.below (below_drewN (Z6 _ _) _) HX.o)).mono ?_;rintro e w6 ⟨rfl,n6,rfl⟩;have HS:=Es c.rows (λr=>decide (r=acc)) k r VG.o
   cases hq:decide (r=acc)
   ·have YE:Hid ((c.rows.take (k+1)).any (λr=>decide (r=acc))=false):=by show _=_;rw[HS,hall.o,hq];rfl
    clear HS hq;go_wp2
    go_roundw
    case rel=>exact⟨k+1,by omega,by go_num,YE,_,rfl⟩
    case measure=>simp[intOf];omega
   have HF:Hid (R=true):=by
    show _=_;rw[HE.o];exact Yh.2 ⟨r,Zz VG.o,hq⟩
   clear HS hq;go_wp2
   go_ret
   exact⟨ZD HF.o.symm,below_drewN Y7.o _⟩
  have HF:Hid (R=false):=by
   show _=_;rw[HE.o,<-hall.o,Zi (by omega)]
  go_wp2
  go_ret
  exact⟨ZD HF.o.symm,below_drewN Y7.o _⟩
 ·
  have HL:Hid (acc.length=3):=by
   have h:=PC.o;unfold UT at h;rw[VQ.o] at h;simp at h;exact Us.o.trans h.2.1
  obtain⟨p,q,r,rfl⟩:∃p q r,acc=[p,q,r]:=by
   match acc,HL.o with
   | [p,q,r],_=>exact⟨p,q,r,rfl⟩
  obtain⟨b,off,rfl,hb,e0⟩:=H6.o 0 p rfl;obtain⟨b',off',V2,XI,e1⟩:=H6.o 1 q rfl;cases V2
  obtain⟨b',off',V2,XI,e2⟩:=H6.o 2 r rfl;cases V2
  rw[Wl] at e0;have HE:Hid (R=(p * q==r)):=by show _=_;rw[<-HR.o];unfold YL;rw[VQ.o,X4.o];rfl
  obtain⟨g1,g2⟩:=Au p q (by have:=Ru.o p (by simp);omega) (by have:=Ru.o p (by simp);omega) (Ru.o q (by simp)).1 (Ru.o q (by simp)).2
  go_wp2
  go_quiet (fail)
  go_wp2
  go_ret
  exact⟨ZD HE.o.symm,below_drewN Y7.o _⟩
 ·
  have HL:Hid (2<=acc.length):=by
   have h:=PC.o;unfold UT at h;rw[VQ.o] at h;simp at h;have:=Us.o;show 2<=_;omega
  obtain⟨p,L,Pp,jH⟩:∃p L,acc=p :: L/\L≠[]:=by
   match acc,HL.o with
   | p :: q :: r,_=>exact⟨p,q :: r,rfl,by simp⟩
  have Um:Hid (acc.length=L.length+1):=by rw[Pp];rfl
  have yw:Hid (∀j z,L[j]? = some z->acc[j+1]? = some z):=λj z h=>by rw[Pp];simpa using h
  have HE:Hid (R=(L.all (λz=>decide (z<=p))&&L.any (λz=>z==p))):=by
   show _=_;rw[<-HR.o,<-zWO L jH p];unfold YL;rw[VQ.o,X4.o,Pp];rfl
  obtain⟨b,off,rfl,hb,e0⟩:=H6.o 0 p (by rw[Pp];rfl)
  rw[Wl] at e0;obtain⟨wz,Ti⟩:∃wz:World,wz=wr:=⟨_,rfl⟩;have US:1<=acc.length:=by have:=HL.o;omega
  have XH:¬acc=[]:=λh=>by rw[h] at US;simp at US
  have E9:0<acc.length:=by omega
  have vE:(0:Int)<(acc.length:Int):=by omega
  clear Pp jH;go_wp2_with fail
  rw[<-Ti] at q0 q1 q2 q3 q4 q5 l0 HX H6 Y7 ZW Yo e0 hb ⊢;clear Ti;go_loopw [13,14] (λy i wr=>∃j:Nat,j<=L.length/\i=.int .i64 ((j:Int)+1)/\y=.bool ((L.take j).any λz=>z==p)/\Hid ((L.take j).all (λz=>decide (z<=p))=true)/\∃n,wr=wz.drewN n) (λ_ i _=>acc.length - (intOf i).toNat)
  case atStart=>exact⟨0,by omega,rfl,rfl,rfl,0,rfl⟩
  obtain⟨j,hj,rfl,rfl,hall,nq,rfl⟩:=hrel;obtain⟨Y,hY⟩:∃Y,((L.take j).any λz=>z==p)=Y:=⟨_,rfl⟩
  have HY:=hI hY
  rw[hY];obtain⟨k2,WY⟩:∃k2:Nat,j+1=k2:=⟨_,rfl⟩;have SK:(j:Int)+1=(k2:Int):=by omega
  have W_:=hI WY;rw[SK];clear hY WY;by_cases Z7:j<L.length
  ·obtain⟨z,hz⟩:∃z,L[j]? = some z:=⟨L[j],by simp[Z7]⟩
   have HZ:Hid (L[j]? = some z):=hz;have Y_:=yw.o j z hz;rw[W_.o] at Y_;obtain⟨b',off',V2,_,hd⟩:=H6.o k2 z Y_;cases V2
   have TM:k2<acc.length:=by have:=Um.o;have:=W_.o;omega
   have Ct:(k2:Int)<(acc.length:Int):=by omega
   have Za:Hid ((L.take (j+1)).all (λz=>decide (z<=p))=decide (z<=p)):=by
    show _=_;rw[Y1,hz,List.all_append,hall.o];simp
   have ZK:Hid ((L.take (j+1)).any (λz=>z==p)=(Y || (z==p))):=by show _=_;rw[Es L _ j z hz,HY.o]
   have zO:IntKind.i64.wrap ((k2:Int)+1)=(k2:Int)+1:=by rw[IntKind.wrap_i64];omega
   clear hz Y_ SK;cases IK:decide (p<z)
   ·have V4:z<=p:=by have:=of_decide_eq_false IK;omega
    have YE:Hid ((L.take (j+1)).all (λz=>decide (z<=p))=true):=by show _=_;rw[Za.o];exact decide_eq_true V4
    clear V4;cases Y
    ·cases yx:(z==p)
     ·have R4:Hid ((L.take (j+1)).any (λz=>z==p)=false):=by show _=_;rw[ZK.o,yx];rfl
      go_wp2
      go_quiet (fail)
      go_wp2
      go_quiet (fail)
      go_wp2
      go_roundw
      case rel=>exact⟨j+1,by omega,by have:=W_.o;congr 1;omega,by rw[R4.o],YE,_,rfl⟩
      case measure=>simp[intOf];omega
     have R4:Hid ((L.take (j+1)).any (λz=>z==p)=true):=by show _=_;rw[ZK.o,yx];rfl
     go_wp2
     go_quiet (fail)
     go_wp2
     go_quiet (fail)
     go_wp2
     go_roundw
     case rel=>exact⟨j+1,by omega,by have:=W_.o;congr 1;omega,by rw[R4.o],YE,_,rfl⟩
     case measure=>simp[intOf];omega
    have R4:Hid ((L.take (j+1)).any (λz=>z==p)=true):=by show _=_;rw[ZK.o];rfl
    go_wp2
    go_quiet (fail)
    go_wp2
    go_quiet (fail)
    go_wp2
    go_roundw
    case rel=>exact⟨j+1,by omega,by have:=W_.o;congr 1;omega,by rw[R4.o],YE,_,rfl⟩
    case measure=>simp[intOf];omega
   have HF:Hid (R=false):=by
    show _=_;rw[HE.o,RY]
    left
    rw[List.all_eq_false];exact⟨z,Zz HZ.o,by have:=of_decide_eq_true IK;simp;omega⟩
   go_wp2
   go_quiet (fail)
   go_wp2
   go_ret
   exact⟨ZD HF.o.symm,below_drewN (below_drewN Y7.o _) _⟩
  have TM:¬k2<acc.length:=by have:=Um.o;have:=W_.o;omega
  have HF:Hid (R=Y):=by
   show _=_;have h1:=hall.o;have h2:=HY.o;rw[Zi (by omega)] at h1 h2
   rw[HE.o,h1,h2];rfl
  clear SK;go_wp2
  go_ret
  exact⟨ZD HF.o.symm,below_drewN Y7.o _⟩
 ·
  have HE:Hid (R=c.lits.any (litB vals)):=by show _=_;rw[<-HR.o];unfold YL;rw[VQ.o];rfl
  obtain⟨wz,Ti⟩:∃wz:World,wz=wr:=⟨_,rfl⟩;have Sh:Hid (∀Y,Bw wr Y->w.heap.size<Y.heap.size/\Y.cell? ⟨w.heap.size,5,none⟩=some (.slice a4 c.lits.length c4)/\Bw w Y):=λY hY=>⟨ZQ l0 hY.size,(hY.cell (p:=⟨w.heap.size,5,none⟩) l0).trans q5,Y7.o.trans (hY.mono Y7.o.size)⟩
  go_wp2_with fail
  rw[<-Ti] at Sh Y7 ⊢;clear Ti q0 q1 q2 q3 q4 q5 l0;go_loopw [15] (λi wr=>∃k:Nat,k<=c.lits.length/\i=.int .i64 k/\Hid ((c.lits.take k).any (litB vals)=false)/\Bw wz wr) (λi _=>c.lits.length - (intOf i).toNat)
  case atStart=>exact⟨0,by omega,rfl,rfl,Z6 _ _⟩
  obtain⟨k,hk,rfl,hall,sn⟩:=hrel;have PZ:=hI sn;obtain⟨l0,q5,Ug⟩:=Sh.o _ sn;have Mu:=hI Ug;clear sn Ug;by_cases Z7:k<c.lits.length
  ·obtain⟨l,hl⟩:∃l,c.lits[k]? = some l:=⟨c.lits[k],by simp[Z7]⟩
   have N4:=hI hl;obtain⟨OC,OB⟩:=E'.o l (Zz hl);obtain⟨lb,lo,Tn,ll,m0,m1,m2⟩:=LArg.nth (UD.o _ Mu.o).2.2.2 k l hl;subst Tn;obtain⟨var,op,n⟩:=l
   dsimp only at OC OB m0 m1 m2
   obtain⟨y,rfl⟩:∃y:Nat,var=(y:Int):=⟨var.toNat,by omega⟩
   have IL:y<vals.length:=by omega
   obtain⟨z,hz⟩:∃z,vals[y]? = some z:=⟨vals[y],by simp[IL]⟩
   obtain⟨_,_,WT,_,Yq⟩:=Ww.o _ Mu.o;cases WT
   obtain⟨b2,o2,ZY,Sp,e2⟩:=Yq y _ hz;subst ZY;have OD:Hid (litB vals ⟨(y:Int),op,n⟩=litV z ⟨(y:Int),op,n⟩):=by show _=_;unfold litB;rw[Ia vals y z hz]
   have HS:=Es c.lits (litB vals) k _ hl;rw[hall.o,OD.o,Bool.false_or] at HS;have BM:=hI HS;clear hl hz Yq HS;go_wp2_with fail
   go_region_held3 (λw'=>Bw wr w'/\w'.cell? ⟨w.heap.size,5,none⟩=some (.slice (some ⟨lb,lo,none⟩) c.lits.length c4)/\w'.cell? ⟨lb,lo+k * 3,none⟩=some (.int .i64 (y:Int))/\w'.cell? ⟨lb,lo+k * 3+1,none⟩=some (.int .i64 op)/\w'.cell? ⟨lb,lo+k * 3+2,none⟩=some (.int .i64 n)/\w'.cell? ⟨b2,o2+y,none⟩=some (.int .i64 z))
    ((refine (λ(hB:Bw wr _)=>⟨hB,(hB.cell (p:=⟨w.heap.size,5,none⟩) l0).trans q5,(hB.cell (p:=⟨lb,lo+k * 3,none⟩) ll).trans m0,(hB.cell (p:=⟨lb,lo+k * 3+1,none⟩) ll).trans m1,(hB.cell (p:=⟨lb,lo+k * 3+2,none⟩) ll).trans m2,(hB.cell (p:=⟨b2,o2+y,none⟩) Sp).trans e2⟩:Bw wr _->_) ?_;first | exact (Z6 _ _).drew | exact Ue (by assumption) Yu))
    ((go_at_call 110;refine (Cp ⟨(y:Int),op,n⟩ z _).mono ?_;rintro e w3 ⟨rfl,Yu⟩;have hB3:=Ue (by assumption) Yu))
   have ZM:=hI (PZ.o.trans (hB3.mono PZ.o.size));have Yp:=hI (Mu.o.trans (hB3.mono Mu.o.size));clear hB3 Yu q5 l0 m0 m1 m2 e2;cases hq:litV z ⟨(y:Int),op,n⟩
   ·have YE:Hid ((c.lits.take (k+1)).any (litB vals)=false):=by show _=_;rw[BM.o,hq]
    go_wp2
    go_roundw
    case rel=>exact⟨k+1,by omega,by go_num,YE,ZM.o⟩
    case measure=>simp[intOf];omega
   have HF:Hid (R=true):=by
    show _=_;rw[HE.o];exact Yh.2 ⟨_,Zz N4.o,by rw[OD.o];exact hq⟩
   go_wp2
   go_ret
   exact⟨ZD HF.o.symm,Yp.o⟩
  have HF:Hid (R=false):=by
   show _=_;rw[HE.o,<-hall.o,Zi (by omega)]
  go_wp2
  go_ret
  exact⟨ZD HF.o.symm,Mu.o⟩
 ·
  have OU:Hid (acc.length=1/\c.lits.length=1):=by
   have h:=PC.o;unfold UT at h;rw[VQ.o] at h;simp at h;exact⟨Us.o.trans h.2.1,h.2.2.1⟩
  obtain⟨p,rfl⟩:∃p,acc=[p]:=by
   match acc,OU.o.1 with
   | [p],_=>exact⟨p,rfl⟩
  obtain⟨l,hl⟩:∃l,c.lits=[l]:=by
   match c.lits,OU.o.2 with
   | [l],_=>exact⟨l,rfl⟩
  obtain⟨b,off,rfl,hb,e0⟩:=H6.o 0 p rfl;rw[Wl] at e0;have HE:Hid (R=(p==(if litB vals l then 1 else 0))):=by show _=_;rw[<-HR.o];unfold YL;rw[VQ.o,X4.o,hl];rfl
  have Xm:c.lits[0]? = some l:=by rw[hl];rfl
  obtain⟨OC,OB⟩:=E'.o l (Zz Xm);obtain⟨lb,lo,Tn,ll,m0,m1,m2⟩:=LArg.nth (UD.o _ Y7.o).2.2.2 0 l Xm;subst Tn;obtain⟨var,op,n⟩:=l
  dsimp only at OC OB m0 m1 m2
  simp only[SM,Wl] at m0 m1 m2;obtain⟨y,rfl⟩:∃y:Nat,var=(y:Int):=⟨var.toNat,by omega⟩
  have IL:y<vals.length:=by omega
  obtain⟨z,hz⟩:∃z,vals[y]? = some z:=⟨vals[y],by simp[IL]⟩
  obtain⟨_,_,WT,_,Yq⟩:=Ww.o _ Y7.o;cases WT
  obtain⟨b2,o2,ZY,Sp,e2⟩:=Yq y _ hz;subst ZY;have OD:Hid (litB vals ⟨(y:Int),op,n⟩=litV z ⟨(y:Int),op,n⟩):=by show _=_;unfold litB;rw[Ia vals y z hz]
  rw[OD.o] at HE;have XH:0<c.lits.length:=by rw[hl];simp
  have E9:(0:Int)<(c.lits.length:Int):=by omega
  have vE:¬c.lits=[]:=λh=>by rw[h] at hl;cases hl
  rw[V6];clear hl Xm hz Yq HX H6 Yo;go_wp2_with fail
  go_region_held3 (λw'=>Bw wr w'/\w'.cell? ⟨w.heap.size,5,none⟩=some (.slice (some ⟨lb,lo,none⟩) c.lits.length c4)/\w'.cell? ⟨lb,lo,none⟩=some (.int .i64 (y:Int))/\w'.cell? ⟨lb,lo+1,none⟩=some (.int .i64 op)/\w'.cell? ⟨lb,lo+2,none⟩=some (.int .i64 n)/\w'.cell? ⟨b2,o2+y,none⟩=some (.int .i64 z))
   ((refine (λ(hB:Bw wr _)=>⟨hB,(hB.cell (p:=⟨w.heap.size,5,none⟩) l0).trans q5,(hB.cell (p:=⟨lb,lo,none⟩) ll).trans m0,(hB.cell (p:=⟨lb,lo+1,none⟩) ll).trans m1,(hB.cell (p:=⟨lb,lo+2,none⟩) ll).trans m2,(hB.cell (p:=⟨b2,o2+y,none⟩) Sp).trans e2⟩:Bw wr _->_) ?_;first | exact (Z6 _ _).drew | exact Ue (by assumption) Yu))
   ((go_at_call 110;refine (Cp ⟨(y:Int),op,n⟩ z _).mono ?_;rintro e w3 ⟨rfl,Yu⟩;have hB3:=Ue (by assumption) Yu))
  have Yp:=hI (Y7.o.trans (hB3.mono Y7.o.size));have e0':=(hB3.cell (p:=⟨b,off,none⟩) hb).trans e0;have XI:=ZQ hb hB3.size;clear hB3 Yu q5 l0 m0 m1 m2 e2;cases hq:litV z ⟨(y:Int),op,n⟩
  ·have HF:Hid (R=(p==0)):=by show _=_;rw[HE.o,hq];rfl
   go_wp2
   go_ret
   exact⟨ZD HF.o.symm,Yp.o⟩
  have HF:Hid (R=(p==1)):=by show _=_;rw[HE.o,hq];rfl
  go_wp2
  go_ret
  exact⟨ZD HF.o.symm,Yp.o⟩
def allB (m:Mod) (vals:List Int):Bool:=(m.vars.zip vals).all (λp=>Ul p.1 p.2)&&m.cons.all (λc=>YL c vals)
theorem zQ2 (v:MVar) (x:Int):(decide (v.lo<=x)&&decide (x<=v.hi))=Ul v x:=by
 unfold Ul;rw[Yg];simp
theorem zNF (m:Mod) (vals:List Int) (hm:Zs m=0) (X8:vals.length=m.vars.length) (vs cs v:Value) (w:World) (Y8:MArg w vs cs m) (hv:IArg w v vals) :
 Calls prog 18 #[modV vs cs m,v] w λe w'=>e=.returned (.bool (allB m vals))/\Bw w w':=by
 have Ww:Hid (∀w':World,Bw w w'->IArg w' v vals):=λw' h=>IArg.below h hv
 obtain⟨⟨a1,c1,rfl,WS,VR⟩,⟨a2,c2,rfl,Yn,Yq⟩⟩:=Y8;obtain⟨a3,c3,rfl,LX,hr3⟩:=hv;have R9:=hI VR
 have HC:=hI Yq
 have HV:=hI hr3;have Xj:=hI hm;have HL:=hI X8;unfold maxLen at WS Yn;obtain⟨K5,WS⟩:=WS;obtain⟨Nq,Yn⟩:=Yn;obtain⟨R,hR⟩:∃R,allB m vals=R:=⟨_,rfl⟩;rw[hR];have WO:Hid (R=((m.vars.zip vals).all (λp=>Ul p.1 p.2)&&m.cons.all (λc=>YL c vals))):=hR.symm
 clear hR VR Yq hr3 hm X8 LX;unfold modV;go_enter func18,ntmps18
 go_wp2_with fail
 have ZU:Hid (Bw w (w.alloc (.cells #[.slice a1 m.vars.length c1,.slice a2 m.cons.length c2,.int .i64 m.goal,.int .i64 m.var] 25))):=Z4 _ _;have XL:Hid ((w.alloc (.cells #[.slice a1 m.vars.length c1,.slice a2 m.cons.length c2,.int .i64 m.goal,.int .i64 m.var] 25)).heap[w.heap.size]? = some (.cells #[.slice a1 m.vars.length c1,.slice a2 m.cons.length c2,.int .i64 m.goal,.int .i64 m.var] 25)):=heap_alloc_new _ _;obtain⟨w1,jG⟩:∃w1,w.alloc (.cells #[.slice a1 m.vars.length c1,.slice a2 m.cons.length c2,.int .i64 m.goal,.int .i64 m.var] 25)=w1:=⟨_,rfl⟩;rw[jG] at ZU XL ⊢;clear jG;have l1:=(Z8.1 XL.o).1;go_loopw [5] (λi wr=>∃k:Nat,k<=m.vars.length/\i=.int .i64 k/\Hid (((m.vars.zip vals).take k).all (λp=>Ul p.1 p.2)=true)/\Bw w1 wr) (λi _=>m.vars.length - (intOf i).toNat)
 case atStart=>exact⟨0,by omega,rfl,rfl,Z6 _ _⟩
 obtain⟨k,hk,rfl,hall,Z3⟩:=hrel;have ZW:Hid (Bw w wr):=ZU.o.trans (Z3.mono (by omega))
 have Su:=hI Z3;have hN:=(Z3.block _ l1).trans XL.o;have l0:=(Z8.1 hN).1;have d0:=Z_ hN 0 _ rfl;have d1:=Z_ hN 1 _ rfl;clear hN;by_cases Z7:k<m.vars.length
 ·have UR:k<vals.length:=by rw[HL.o];exact Z7
  obtain⟨x,hx⟩:∃x,vals[k]? = some x:=⟨vals[k],by simp[UR]⟩
  obtain⟨t,ht⟩:∃t,m.vars[k]? = some t:=⟨m.vars[k],by simp[Z7]⟩
  have HG:Hid ((m.vars.zip vals)[k]? = some (t,x)):=by show _=_;rw[Lh];exact⟨ht,hx⟩
  obtain⟨b,off,rfl,hb,e0⟩:=HV.o k x hx;obtain⟨_,b',off',rfl,XI,f0,f1,f2⟩:=R9.o k t ht;have e1:=(ZW.o.cell (p:=⟨b,off+k,none⟩) hb).trans e0;have k1:=(ZW.o.cell (p:=⟨b',off'+k * 3+1,none⟩) XI).trans f1;have k2:=(ZW.o.cell (p:=⟨b',off'+k * 3+2,none⟩) XI).trans f2;have LS:b<wr.heap.size:=ZQ hb ZW.o.size;have F6:b'<wr.heap.size:=ZQ XI ZW.o.size;clear hx ht e0 f0 f1 f2 hb XI Z3 d1;obtain⟨T,hT⟩:∃T,Ul t x=T:=⟨_,rfl⟩;have HT:=hI hT;clear hT;go_wp2_with fail
  go_region_held3 (λw'=>Bw wr w'/\w'.cell? ⟨w.heap.size,0,none⟩=some (.slice (some ⟨b',off',none⟩) m.vars.length c1)/\w'.cell? ⟨b,off+k,none⟩=some (.int .i64 x)/\w'.cell? ⟨b',off'+k * 3+1,none⟩=some (.int .i64 t.lo)/\w'.cell? ⟨b',off'+k * 3+2,none⟩=some (.int .i64 t.hi))
   ((refine (λ(hB:Bw wr _)=>⟨hB,(hB.cell (p:=⟨w.heap.size,0,none⟩) l0).trans d0,(hB.cell (p:=⟨b,off+k,none⟩) LS).trans e1,(hB.cell (p:=⟨b',off'+k * 3+1,none⟩) F6).trans k1,(hB.cell (p:=⟨b',off'+k * 3+2,none⟩) F6).trans k2⟩:Bw wr _->_) ?_;first | exact (Z6 _ _).drew | exact za (by assumption) V'))
   ((go_at_call 40;refine (Rb _ _ _ _).mono ?_;rintro e w3 ⟨rfl,V'⟩;rw[zQ2,HT.o];have hB3:=za (by assumption) V'))
  clear l0 d0 e1 k1 k2 LS F6;cases T
  ·have HN:Hid (R=false):=by
    have:=SJ (λp:MVar×Int=>Ul p.1 p.2) (m.vars.zip vals) k (t,x) HG.o HT.o
    rw[WO.o,this];rfl
   go_wp2
   go_ret
   exact⟨by rw[HN.o];rfl,by first | exact ZW.o.trans (hB3.mono ZW.o.size) | exact ZW.o.drew | fail⟩
  have HN:Hid (((m.vars.zip vals).take (k+1)).all (λp=>Ul p.1 p.2)=true):=RF (λp:MVar×Int=>Ul p.1 p.2) (m.vars.zip vals) k (t,x) HG.o hall.o HT.o
  go_wp2
  go_roundw
  case rel=>exact⟨k+1,by omega,by go_num,HN,by first | exact Su.o.trans (hB3.mono Su.o.size) | exact Su.o.drew | fail⟩
  case measure=>simp[intOf];omega
 have HA:Hid ((m.vars.zip vals).all (λp=>Ul p.1 p.2)=true):=RB _ _ k (by rw[List.length_zip,HL.o];omega) hall.o
 have iOq:Hid (R=m.cons.all (λc=>YL c vals)):=by rw[WO.o,HA.o,Qq];rfl
 have P6:Hid (∀x∈vals,-50<=x/\x<=50):=by
  intro x hx;obtain⟨i,hi⟩:=Wm.1 hx;have KK:i<m.vars.length:=by rw[<-HL.o];exact (ZN.1 hi).1
  have ht:m.vars[i]? = some m.vars[i]:=by simp[KK]
  have Rr:=Il m Xj.o i _ ht;have:=W8.1 HA.o (m.vars[i],x) (Zz (i:=i) (by rw[Lh];exact⟨ht,hi⟩))
  simp[Ul] at this;omega
 obtain⟨wo,rfl⟩:∃wo:World,wo=wr:=⟨_,rfl⟩;go_wp2_with fail
 clear hk hall Z3 Z7 d0 d1 l0;go_loopw [6] (λi wr=>∃k:Nat,k<=m.cons.length/\i=.int .i64 k/\Hid ((m.cons.take k).all (λc=>YL c vals)=true)/\Bw w1 wr) (λi _=>m.cons.length - (intOf i).toNat)
 case atStart=>exact⟨0,by omega,rfl,rfl,Su.o⟩
 obtain⟨j,hj,rfl,hall,Z3⟩:=hrel;have Xu:Hid (Bw w wr):=ZU.o.trans (Z3.mono (by omega))
 have BL:=hI Z3;have hN:=(Z3.block _ l1).trans XL.o;have d1:=Z_ hN 1 _ rfl;clear Z3 hN;by_cases Z7:j<m.cons.length
 ·obtain⟨c,hc⟩:∃c,m.cons[j]? = some c:=⟨m.cons[j],by simp[Z7]⟩
  have O_:=hI hc;obtain⟨b,off,vv,vc,vr,vl,ha,hb,f0,f1,f2,f3,f4,f5,QV⟩:=HC.o j c hc;subst ha;have e0:=(Xu.o.cell (p:=⟨b,off+j * 6,none⟩) hb).trans f0;have e1:=(Xu.o.cell (p:=⟨b,off+j * 6+1,none⟩) hb).trans f1;have e2:=(Xu.o.cell (p:=⟨b,off+j * 6+2,none⟩) hb).trans f2;have e3:=(Xu.o.cell (p:=⟨b,off+j * 6+3,none⟩) hb).trans f3;have e4:=(Xu.o.cell (p:=⟨b,off+j * 6+4,none⟩) hb).trans f4;have e5:=(Xu.o.cell (p:=⟨b,off+j * 6+5,none⟩) hb).trans f5;have HK:Hid (KArg wr vv vc vr vl c):=KArg.below Xu.o QV;have S5:Hid (conE vals.length c=0):=by rw[HL.o];exact Ik m Xj.o j c hc
  obtain⟨⟨q1,r1,rfl,_,_⟩,⟨q2,r2,rfl,_,_⟩,⟨q3,r3,rfl,_,_⟩,⟨q4,r4,rfl,_,_⟩⟩:=QV;clear hc f0 f1 f2 f3 f4 f5 hb;obtain⟨T,hT⟩:∃T,YL c vals=T:=⟨_,rfl⟩;have HT:=hI hT;clear hT;go_wp2_with fail
  refine (so c vals _ _ _ _ _ _ HK.o (Ww.o _ Xu.o) S5.o P6.o).mono ?_;rintro e w2 ⟨rfl,ZY⟩;rw[HT.o];clear d1 e0 e1 e2 e3 e4 e5;cases T
  ·have HN:Hid (R=false):=by rw[iOq.o,SJ (λc=>YL c vals) m.cons j c O_.o HT.o];rfl
   have ZG:Bw w w2:=Xu.o.trans (ZY.mono Xu.o.size);clear ZY;go_wp2
   go_ret
   exact⟨by rw[HN.o];rfl,ZG⟩
  have HN:Hid ((m.cons.take (j+1)).all (λc=>YL c vals)=true):=RF (λc=>YL c vals) m.cons j c O_.o hall.o HT.o
  have ZG:Bw w1 w2:=BL.o.trans (ZY.mono BL.o.size);clear ZY;go_wp2
  go_roundw
  case rel=>exact⟨j+1,by omega,by go_num,HN,ZG⟩
  case measure=>simp[intOf];omega
 have HN:Hid (R=true):=by rw[iOq.o,RB _ m.cons j Z7 hall.o];rfl
 go_wp2
 go_ret
 exact⟨by rw[HN.o];rfl,Xu.o⟩
end Go.Proofs.YtndcpnlaadikoaaGreatDoor
