/- What the proof leans on, part 10. -/
import Derived.Test.YtndcpnlaadikoaaGreatDoorPartAi
set_option maxRecDepth 100000
set_option maxHeartbeats 3200000
open Go.Proofs.Tryz
namespace Go.Proofs.YtndcpnlaadikoaaGreatDoor
open Go.RowKit
theorem bk (cs:List Nat) (k c left:Nat) (h:cs[k]? = some c):Xp (cs.drop k) left=if left &&& c=0 then none
 else if Zg (left &&& c) (XG (left &&& c))=0 then Xp (cs.drop (k+1)) (Zg left (Zg (XG (left &&& c)) (left &&& c))) else Xp (cs.drop (k+1)) left:=by
 have hk:k<cs.length:=(ZN.1 h).1;have hc:cs[k]=c:=by rw[ZA hk] at h;exact Zl h
 rw[Yc hk,hc];rfl
theorem oa (p:Nat) (h0:p≠0) (h:p<2 ^ 36):XG p<2 ^ 36:=by
 have h1:=(Ag p h0 h).2;unfold XG;have h2:2 ^ (6 * (Lib.ctz 64 p / 6))<=2 ^ 30:=SS (by omega) (by omega)
 omega
theorem bj {a b:Nat} (ha:a<2 ^ 36):a &&& b<2 ^ 36:=UW Nv ha
theorem EZ {a b:Nat} (h:a=b):Ending.returned (.int .u64 (a:Int))=Ending.returned (.int .u64 (b:Int)):=by rw[h]
theorem n_ (vs:List MVar) (h6:vs.length<=6) (XH:1<=vs.length) (cs:List Nat) (r:Nat) (UN:r<2 ^ 36) (sv pv:Value) (w:World) (hv:VArg w sv vs) (hp:PArg w pv cs) (hT:TabT w) :
 Calls prog 146 #[sv,pv,.int .u64 r] w λe w'=>e=.returned (.int .u64 ((Xv vs cs r:Nat):Int))/\w'=w:=by
 have HV:=hI hv;have HT:=hI hT;have H6:=hI h6;have OP:=hI UN;obtain⟨R,hR⟩:∃R,Xv vs cs r=R:=⟨_,rfl⟩;have HS:Hid (R=if Wu vs.length r then 0 else U3 cs (r+1) r):=by show _=_;rw[<-hR];rfl
 rw[hR];have Qc:Hid (Wu vs.length r=false->r≠0):=λh0 h1=>by
  rw[oh vs.length r 0 (by omega) (by rw[h1];rfl)] at h0;cases h0
 obtain⟨a,c,rfl,_,_⟩:=hv;obtain⟨a2,c2,rfl,hm,Dk⟩:=hp;have HP:=hI Dk;unfold maxLen at hm;obtain⟨Y0,hm⟩:=hm;clear hT hR Dk XH h6 UN;go_enter func146,ntmps146
 go_wp2_with fail
 refine (og vs H6.o r OP.o _ _ HV.o).mono ?_;rintro e w ⟨rfl,rfl⟩;obtain⟨L,hL⟩:∃L,Wu vs.length r=L:=⟨_,rfl⟩;rw[hL] at HS Qc ⊢;clear hL;cases L
 ·have ZK:=hI HS.o
  have XL:Hid (r≠0):=Qc.o rfl;clear HS Qc;go_wp2_with fail
  go_loopw [7,8] (λl b wr=>∃bb ll:Nat,l=.int .u64 (ll:Int)/\b=.int .u64 (bb:Int)/\Hid (ll<2 ^ 36)/\Hid (if bb=ll then R=ll else R=U3 cs (ll+1) ll)/\wr=w) (λl b _=>if intOf b=intOf l then 0 else (intOf l).toNat+1)
  case atStart=>exact⟨0,r,rfl,rfl,OP,by show (if _ then _ else _);rw[if_neg (λh=>XL.o h.symm)];exact ZK.o,rfl⟩
  obtain⟨bb,ll,rfl,rfl,Rn,ZZ,rfl⟩:=hrel;by_cases YF:bb=ll
  ·have HN:Hid (R=ll):=by have:=ZZ.o;rw[if_pos YF] at this;exact this
   have ZP:((bb:Int) != (ll:Int))=false:=by simp[YF]
   clear ZZ YF;go_wp2
   go_ret
   exact⟨EZ HN.o.symm,rfl⟩
  have HN:Hid (R=U3 cs (ll+1) ll):=by have:=ZZ.o;rw[if_neg YF] at this;exact this
  have HU:Hid (R=match Xp cs ll with
   | none=>0
   | some l=>if l=ll then ll else U3 cs (l+1) l):=by show _=_;rw[HN.o];exact oQ cs ll
  have XE:=hI YF;have ZP:((bb:Int) != (ll:Int))=true:=by simp;omega
  clear ZZ YF;go_wp2_with fail
  clear ZP;go_loopw [7,23] (λl i wx=>∃k l2:Nat,k<=cs.length/\i=.int .i64 k/\l=.int .u64 (l2:Int)/\Hid (l2<2 ^ 36)/\Hid (Xp cs ll=Xp (cs.drop k) l2)/\wx=wr) (λ_ i _=>cs.length - (intOf i).toNat)
  case atStart=>exact⟨0,ll,by omega,rfl,rfl,Rn,rfl,rfl⟩
  obtain⟨k,l2,hk,rfl,rfl,Yn,ZV,rfl⟩:=hrel;by_cases Z7:k<cs.length
  ·obtain⟨z,hz⟩:∃z,cs[k]? = some z:=⟨cs[k],by simp[Z7]⟩
   obtain⟨T0,b,off,ha,hb,hc⟩:=HP.o k z hz;subst ha;have HZ:=hI hz;have Hs:Hid (Xp (cs.drop k) l2=if l2 &&& z=0 then none
    else if Zg (l2 &&& z) (XG (l2 &&& z))=0 then Xp (cs.drop (k+1)) (Zg l2 (Zg (XG (l2 &&& z)) (l2 &&& z))) else Xp (cs.drop (k+1)) l2):=bk cs k z l2 hz
   have OO:=bits_and_u64_nat l2 z (by have:=Yn.o;omega) (by omega)
   obtain⟨o,ho⟩:∃o,l2 &&& z=o:=⟨_,rfl⟩;have Rq:Hid (o<2 ^ 36):=by rw[<-ho];exact bj Yn.o
   rw[ho] at OO Hs;clear hz T0 ho;by_cases Rp:o=0
   ·have HE:Hid (R=0):=by show _=_;rw[HU.o,ZV.o,Hs.o,if_pos Rp]
    subst Rp;clear ZV Yn;go_wp2
    go_ret
    exact⟨EZ HE.o.symm,rfl⟩
   have ON:Hid (Xp (cs.drop k) l2=if Zg o (XG o)=0 then Xp (cs.drop (k+1)) (Zg l2 (Zg (XG o) o)) else Xp (cs.drop (k+1)) l2):=by show _=_;rw[Hs.o,if_neg Rp]
   have LY:=hI Rp;have vF:((o:Int)==0)=false:=by simpa using Rp
   obtain⟨f,hf⟩:∃f,XG o=f:=⟨_,rfl⟩;have Qb:Hid (f<2 ^ 36):=by rw[<-hf];exact oa o Rp Rq.o
   have Dj:=N' o f (by have:=Rq.o;omega) (by have:=Qb.o;omega)
   have HF:=hI hf;rw[hf] at ON;obtain⟨g,hg⟩:∃g,Zg o f=g:=⟨_,rfl⟩;rw[hg] at Dj ON;clear Rp hf hg Hs;by_cases Ua:g=0
   ·have E9:=N' f o (by have:=Qb.o;omega) (by have:=Rq.o;omega)
    obtain⟨t,ht⟩:∃t,Zg f o=t:=⟨_,rfl⟩;have KR:Hid (t<2 ^ 36):=by rw[<-ht];exact Pz 36 _ _ Qb.o
    have vE:=N' l2 t (by have:=Yn.o;omega) (by have:=KR.o;omega)
    obtain⟨l3,LX⟩:∃l3,Zg l2 t=l3:=⟨_,rfl⟩;have Hr:Hid (l3<2 ^ 36):=by rw[<-LX];exact Pz 36 _ _ Yn.o
    have HE:Hid (Xp cs ll=Xp (cs.drop (k+1)) l3):=by show _=_;rw[ZV.o,ON.o,if_pos Ua,ht,LX]
    rw[ht] at E9;rw[LX] at vE;subst Ua;clear ZV ht LX ON Yn;go_wp2_with fail
    refine (zX o LY.o Rq.o _ HT.o).mono ?_;rintro e w ⟨rfl,rfl⟩;rw[HF.o];go_wp2
    go_roundw
    case rel=>exact⟨k+1,l3,by omega,by go_num,rfl,Hr,HE,trivial⟩
    case measure=>simp[intOf];omega
   have HE:Hid (Xp cs ll=Xp (cs.drop (k+1)) l2):=by show _=_;rw[ZV.o,ON.o,if_neg Ua]
   have hg1:((g:Int)==0)=false:=by simpa using Ua
   clear ZV Ua ON;go_wp2_with fail
   refine (zX o LY.o Rq.o _ HT.o).mono ?_;rintro e w ⟨rfl,rfl⟩;rw[HF.o];go_wp2
   go_roundw
   case rel=>exact⟨k+1,l2,by omega,by go_num,rfl,Yn,HE,trivial⟩
   case measure=>simp[intOf];omega
  have Xa:k=cs.length:=by omega
  have HE:Hid (Xp cs ll=some l2):=by show _=_;rw[ZV.o,Xa,List.drop_length];rfl
  have OM:Hid (l2<=ll):=Nd cs ll l2 HE.o;have EY:Hid (if ll=l2 then R=l2 else R=U3 cs (l2+1) l2):=by
   show (if _ then _ else _)
   have:=HU.o;rw[HE.o] at this;simp only at this;by_cases hq:ll=l2
   ·rw[if_pos hq];rw[if_pos hq.symm] at this;rw[this];exact hq
   rw[if_neg hq];rw[if_neg (λh=>hq h.symm)] at this;exact this
  have HM:Hid ((if (ll:Int)=(l2:Int) then 0 else (l2:Int).toNat+1)<(if (bb:Int)=(ll:Int) then 0 else (ll:Int).toNat+1)):=by
   show _<_;have h1:=XE.o;have h2:=OM.o;have e:(if (bb:Int)=(ll:Int) then 0 else (ll:Int).toNat+1)=(ll:Int).toNat+1:=if_neg (by omega)
   rw[e]
   split <;> omega
  clear ZV Xa;go_wp2
  go_roundw
  case rel=>exact⟨ll,l2,rfl,rfl,Yn,EY,trivial⟩
  case measure=>exact HM.o
 have HN:=hI HS.o;go_wp2
 go_ret
 exact⟨EZ HN.o.symm,rfl⟩
theorem n9 (vs:List MVar) (Zf:Vb vs) (XH:1<=vs.length) (cs:List Nat) (h:Nat) (hh:h<2 ^ 36) (sv pv:Value) (w:World) (hv:VArg w sv vs) (hp:PArg w pv cs) (hT:TabT w) :
 Calls prog 88 #[sv,pv,.int .u64 h] w λe w'=>e=.returned (.bool (N9 vs cs h))/\Bw w w':=by
 have HV:Hid (∀w',Bw w w'->VArg w' sv vs):=λw' h=>VArg.below h hv
 have HP:Hid (∀w',Bw w w'->PArg w' pv cs):=λw' h=>PArg.below h hp
 have HT:Hid (∀w',Bw w w'->TabT w'):=λw' h=>hT.below h
 have YQ:=hI Zf;have H6:=hI Zf.1.1;have H1:=hI XH;have TZ:Hid (zAN vs<2 ^ 36):=Qh vs Zf.1 _;obtain⟨q,hq⟩:∃q,zAN vs=q:=⟨_,rfl⟩;obtain⟨r,hr⟩:∃r,Zg (zAN vs) h=r:=⟨_,rfl⟩;have OP:Hid (r<2 ^ 36):=by rw[<-hr];exact Pz 36 _ _ TZ.o
 have Wg:=N' (zAN vs) h (by have:=TZ.o;omega) (by omega)
 rw[hr,hq] at Wg;have HQ:=hI hq;obtain⟨R,hR⟩:∃R,N9 vs cs h=R:=⟨_,rfl⟩;have HS:Hid (R=(((Xv vs cs r:Nat):Int)==0)):=by
  show _=_;rw[<-hR];unfold N9;rw[hr];by_cases h0:Xv vs cs r=0
  ·rw[h0];rfl
  have h1:(((Xv vs cs r:Nat):Int)==0)=false:=by simpa using h0
  rw[h1];simpa using h0
 rw[hR];obtain⟨a,c,rfl,_,_⟩:=hv;obtain⟨a2,c2,rfl,_,_⟩:=hp;clear Zf hh hq hr hT hR XH;go_enter func88,ntmps88
 go_wp2_with fail
 refine (zY vs YQ.o _ _ (HV.o _ (Z6 _ _))).mono ?_;rintro e w1 ⟨rfl,Z5⟩;rw[HQ.o];have ZU:=hI Z5;clear Z5;go_wp2_with fail
 refine (n_ vs H6.o H1.o cs r OP.o _ _ _ (HV.o _ ZU.o) (HP.o _ ZU.o) (HT.o _ ZU.o)).mono ?_;rintro e w1 ⟨rfl,rfl⟩;obtain⟨U,hU⟩:∃U:Int,((Xv vs cs r:Nat):Int)=U:=⟨_,rfl⟩;rw[hU] at HS ⊢;clear hU;go_wp2
 go_ret
 exact⟨ZD HS.o.symm,ZU.o⟩
theorem bi (p:Nat) (pts:List Nat) (k z:Nat) (s:Nat×Nat×Bool) (h:pts[k]? = some z):UP p (pts.drop k) s=UP p (pts.drop (k+1)) (if Zg z p=0 then (z,s.2.1 ||| z,true) else s):=by
 have hk:k<pts.length:=(ZN.1 h).1;have hc:pts[k]=z:=by rw[ZA hk] at h;exact Zl h
 rw[Yc hk,hc];rfl
theorem bf (pts:List Nat) (p:Nat) (UO:p<2 ^ 36) (pv:Value) (w:World) (hp:PArg w pv pts) (hT:TabT w) :
 Calls prog 233 #[pv,.int .u64 p] w λe w'=>e=.returned (.int .u64 ((Ui pts p:Nat):Int))/\w'=w:=by
 have HT:=hI hT;have KQ:=hI UO;obtain⟨R,hR⟩:∃R,Ui pts p=R:=⟨_,rfl⟩;obtain⟨S,hS⟩:∃S,UP p pts (0,0,false)=S:=⟨_,rfl⟩;have HS:Hid (R=if S.2.2 then clrN (S.1+1) S.1 p ||| S.2.1 else 0):=by show _=_;rw[<-hR,<-hS];rfl
 have Xd:Hid (S=UP p pts (0,0,false)):=hS.symm;rw[hR];obtain⟨a2,c2,rfl,hm,Dk⟩:=hp;have HP:=hI Dk;unfold maxLen at hm;obtain⟨Y0,hm⟩:=hm;clear hT hR hS Dk UO;go_enter func233,ntmps233
 go_wp2_with fail
 go_loopw [5,6,7,12] (λs t f i wr=>∃(k ss tt:Nat) (ff:Bool),k<=pts.length/\s=.int .u64 (ss:Int)/\t=.int .u64 (tt:Int)/\f=.bool ff/\i=.int .i64 k/\Hid (ss<2 ^ 36)/\Hid (tt<2 ^ 36)/\Hid (S=UP p (pts.drop k) (ss,tt,ff))/\wr=w) (λ_ _ _ i _=>pts.length - (intOf i).toNat)
 case atStart=>exact⟨0,0,0,false,by omega,rfl,rfl,rfl,rfl,by show _<_;decide,by show _<_;decide,Xd,rfl⟩
 obtain⟨k,ss,tt,ff,hk,rfl,rfl,rfl,rfl,Di,KP,ZZ,rfl⟩:=hrel;by_cases Z7:k<pts.length
 ·obtain⟨z,hz⟩:∃z,pts[k]? = some z:=⟨pts[k],by simp[Z7]⟩
  obtain⟨T0,b,off,ha,hb,hc⟩:=HP.o k z hz;subst ha;have KS:=hI T0;have HN:Hid (S=UP p (pts.drop (k+1)) (if Zg z p=0 then (z,tt ||| z,true) else (ss,tt,ff))):=by show _=_;rw[ZZ.o];exact bi p pts k z _ hz
  have Dj:=N' z p (by omega) (by have:=KQ.o;omega)
  obtain⟨o,ho⟩:∃o,Zg z p=o:=⟨_,rfl⟩;rw[ho] at Dj HN;clear hz ZZ ho;by_cases Rp:o=0
  ·have YE:Hid (S=UP p (pts.drop (k+1)) (z,tt ||| z,true)):=by show _=_;rw[HN.o,if_pos Rp]
   have Jq:=bits_or_u64_nat tt z (by have:=KP.o;omega) (by omega)
   have KR:Hid (tt ||| z<2 ^ 36):=Dn KP.o T0
   obtain⟨t2,ht2⟩:∃t2,tt ||| z=t2:=⟨_,rfl⟩
   rw[ht2] at Jq KR YE;subst Rp;clear ht2 HN T0;go_wp2
   go_roundw
   case rel=>exact⟨k+1,z,t2,true,by omega,rfl,rfl,rfl,by go_num,KS,KR,YE,trivial⟩
   case measure=>simp[intOf];omega
  have YE:Hid (S=UP p (pts.drop (k+1)) (ss,tt,ff)):=by show _=_;rw[HN.o,if_neg Rp]
  have vF:((o:Int)==0)=false:=by simpa using Rp
  clear HN Rp T0;go_wp2
  go_roundw
  case rel=>exact⟨k+1,ss,tt,ff,by omega,rfl,rfl,rfl,by go_num,Di,KP,YE,trivial⟩
  case measure=>simp[intOf];omega
 have Xa:k=pts.length:=by omega
 have HE:Hid (S=(ss,tt,ff)):=by show _=_;rw[ZZ.o,Xa,List.drop_length];rfl
 have HR:Hid (R=if ff then clrN (ss+1) ss p ||| tt else 0):=by show _=_;rw[HS.o,HE.o]
 clear ZZ Xa;cases ff
 ·have Qc:=hI HR.o
  go_wp2
  go_ret
  exact⟨EZ Qc.o.symm,rfl⟩
 have Yl:=hI HR.o
 clear HR;go_wp2_with fail
 go_loopw [1,5] (λq s wx=>∃qq s2:Nat,q=.int .u64 (qq:Int)/\s=.int .u64 (s2:Int)/\Hid (qq<2 ^ 36)/\Hid (s2<2 ^ 36)/\Hid (R=clrN (s2+1) s2 qq ||| tt)/\wx=wr) (λ_ s _=>(intOf s).toNat)
 case atStart=>exact⟨p,ss,rfl,rfl,KQ,Di,Yl,rfl⟩
 obtain⟨qq,s2,rfl,rfl,VD,WT,Yq,rfl⟩:=hrel;by_cases T_:s2=0
 ·have VZ:Hid (R=qq ||| tt):=by show _=_;rw[Yq.o,T_];rfl
  have Jq:=bits_or_u64_nat qq tt (by have:=VD.o;omega) (by have:=KP.o;omega)
  obtain⟨r,hr⟩:∃r,qq ||| tt=r:=⟨_,rfl⟩
  rw[hr] at Jq VZ;subst T_;clear hr Yq;go_wp2
  go_ret
  exact⟨EZ VZ.o.symm,rfl⟩
 have Yx:Hid (R=clrN (Zg s2 (XG s2)+1) (Zg s2 (XG s2)) (Zg qq (XG s2)) ||| tt):=by show _=_;rw[Yq.o,ct s2 qq T_ WT.o]
 have Tp:Hid (Zg s2 (XG s2)<s2):=Ac s2 T_ WT.o;have Qb:Hid (XG s2<2 ^ 36):=oa s2 T_ WT.o;have XL:=hI T_;have ZP:((s2:Int) != 0)=true:=by simpa using T_
 obtain⟨f,hf⟩:∃f,XG s2=f:=⟨_,rfl⟩;have HF:=hI hf;rw[hf] at Yx Tp Qb;have XH:=N' qq f (by have:=VD.o;omega) (by have:=Qb.o;omega)
 have E9:=N' s2 f (by have:=WT.o;omega) (by have:=Qb.o;omega)
 obtain⟨q3,LW⟩:∃q3,Zg qq f=q3:=⟨_,rfl⟩;obtain⟨s3,Dy⟩:∃s3,Zg s2 f=s3:=⟨_,rfl⟩;have Yk:Hid (q3<2 ^ 36):=by rw[<-LW];exact Pz 36 _ _ VD.o
 have Zq:Hid (s3<2 ^ 36):=by rw[<-Dy];exact Pz 36 _ _ WT.o
 rw[LW] at XH Yx;rw[Dy] at E9 Yx Tp;clear hf LW Dy T_ Yq;go_wp2_with fail
 refine (zX s2 XL.o WT.o _ HT.o).mono ?_;rintro e w ⟨rfl,rfl⟩;rw[HF.o];go_wp2_with fail
 refine (zX s2 XL.o WT.o _ HT.o).mono ?_;rintro e w ⟨rfl,rfl⟩;rw[HF.o];go_wp2
 go_roundw
 case rel=>exact⟨q3,s3,rfl,rfl,Yk,Zq,Yx,trivial⟩
 case measure=>simp[intOf];exact Tp.o
theorem N7 {w2 Y w3:World} {A:Prop} (h:Bw w2 Y/\A) (hb:Bw Y w3):Bw w2 w3:=h.1.trans (hb.mono h.1.size)
theorem n8 (vs:List MVar) (Zf:Vb vs) (pts:List Nat) (h:Nat) (hh:h<2 ^ 36) (sv pv:Value) (w:World) (hv:VArg w sv vs) (hp:PArg w pv pts) :
 Calls prog 119 #[sv,pv,.int .u64 h] w λe w'=>e=.returned (.bool (TI vs pts h))/\Bw w w':=by
 have HV:Hid (∀w',Bw w w'->VArg w' sv vs):=λw' h=>VArg.below h hv
 have HP:Hid (∀w',Bw w w'->PArg w' pv pts):=λw' h=>PArg.below h hp
 have YQ:=hI Zf;have HH:=hI hh;have H6:=hI Zf.1.1;have TZ:Hid (zAN vs<2 ^ 36):=Qh vs Zf.1 _;obtain⟨q,hq⟩:∃q,zAN vs=q:=⟨_,rfl⟩;obtain⟨r,hr⟩:∃r,Zg (zAN vs) h=r:=⟨_,rfl⟩;have OP:Hid (r<2 ^ 36):=by rw[<-hr];exact Pz 36 _ _ TZ.o
 have Wg:=N' (zAN vs) h (by have:=TZ.o;omega) (by omega)
 rw[hr,hq] at Wg;have HQ:=hI hq;have HS:Hid (TI vs pts h=(Wu vs.length r || !pts.any (Sc h))):=by show _=_;unfold TI;rw[hr]
 rw[HS.o];have nZ:Hid (∀w',Bw w w'->Calls prog 147 #[sv] w' λe w''=>e=.returned (.int .u64 (q:Int))/\Bw w' w''):=λw' hb=>by
  rw[<-HQ.o];exact zY vs YQ.o sv w' (HV.o w' hb)
 have LV:Hid (∀w',Bw w w'->Calls prog 194 #[sv,.int .u64 r] w' λe w''=>e=.returned (.bool (Wu vs.length r))/\Bw w' w''):=λw' hb =>
  (og vs H6.o r OP.o sv w' (HV.o w' hb)).mono λe w'' ⟨h1,h2⟩=>⟨h1,by rw[h2];exact Z6 _ _⟩
 have Hq:Hid (∀w',Bw w w'->∀b1,w'.cell? ⟨b1,0,none⟩=some (.int .u64 h)->Calls prog 195 #[pv,.func (.func 193) #[] #[.pointer (some ⟨b1,0,none⟩)]] w' λe w''=>e=.returned (.bool (pts.any (Sc h)))/\Bw w' w''):=λw' hb b1 hc =>
  (br h HH.o b1 pts pv w' (HP.o w' hb) hc).mono λe w'' ⟨h1,h2⟩=>⟨h1,by rw[h2];exact Z6 _ _⟩
 obtain⟨a,c,rfl,_,_⟩:=hv;obtain⟨a2,c2,rfl,_,_⟩:=hp;clear Zf hh hq hr;obtain⟨L,hL⟩:∃L,Wu vs.length r=L:=⟨_,rfl⟩;obtain⟨S,hS⟩:∃S,pts.any (Sc h)=S:=⟨_,rfl⟩;rw[hL] at LV ⊢;rw[hS] at Hq ⊢;clear hL hS HS;go_enter func119,ntmps119
 go_wp2_with fail
 have Zt:Hid (Bw w (w.alloc (.cells #[.int .u64 h] 136))):=Z4 _ _;have k0:(w.alloc (.cells #[.int .u64 h] 136)).cell? ⟨w.heap.size,0,none⟩=some (.int .u64 h):=Zu _ _ _ 0 (by simp)
 have n0:w.heap.size<(w.alloc (.cells #[.int .u64 h] 136)).heap.size:=by simp
 obtain⟨W,hW⟩:∃W,w.alloc (.cells #[.int .u64 h] 136)=W:=⟨_,rfl⟩;rw[hW] at Zt k0 n0 ⊢;clear hW;have HT:Hid (∀Y,Bw W Y->Bw w Y):=λY hY=>Zt.o.trans (hY.mono Zt.o.size)
 cases L
 ·go_region_held3 (λw'=>Bw W w'/\w'.cell? ⟨w.heap.size,0,none⟩=some (.int .u64 h))
   ((refine (λ(hB:Bw W _)=>⟨hB,(hB.cell (p:=⟨w.heap.size,0,none⟩) n0).trans k0⟩:Bw W _->_) ?_;first | exact (Z6 _ _).drew | exact N7 (by assumption) Yu))
   (first
     | (go_at_call 147;refine (nZ.o _ (HT.o _ (show Bw W _/\_ by assumption).1)).mono ?_;rintro e w3 ⟨rfl,Yu⟩;have hB3:=N7 (by assumption) Yu)
     | (go_at_call 194;refine (LV.o _ (HT.o _ (show Bw W _/\_ by assumption).1)).mono ?_;rintro e w3 ⟨rfl,Yu⟩;have hB3:=N7 (by assumption) Yu)
     | (go_at_call 195;refine (Hq.o _ (HT.o _ (show Bw W _/\_ by assumption).1) _ (show Bw W _/\_ by assumption).2).mono ?_;rintro e w3 ⟨rfl,Yu⟩;have hB3:=N7 (by assumption) Yu))
  have ZM:Hid (Bw w w3):=HT.o _ hB3;go_wp2
  go_ret
  exact⟨ZD (by simp),ZM.o⟩
 have HS:Hid (∀Y,Bw W Y->Bw W Y/\Y.cell? ⟨w.heap.size,0,none⟩=some (.int .u64 h)):=λY hY=>⟨hY,(hY.cell (p:=⟨w.heap.size,0,none⟩) n0).trans k0⟩
 have S6:=HS.o W.drew (Z6 _ _).drew;refine wp_region_held_drew (S:=λY=>Bw W Y/\Y.cell? ⟨w.heap.size,0,none⟩=some (.int .u64 h)) (by kernel_rfl) S6 (λ_=>?_)
 refine wpAnyH_take (i:=0) (v:=?v0) rfl (by kernel_rfl) (by kernel_rfl) (by kernel_rfl) (λ_ _ _ h=>h) (Or.inl ⟨by rfl,?y0⟩) S6 ?r0
 case y0=>intro wq WA;obtain⟨q0,q1⟩:=WA;go_simp;with_reducible rfl
 refine wpAnyH_take (i:=1) (v:=?v1) rfl (by kernel_rfl) (by kernel_rfl) (by kernel_rfl) (λ_ _ _ h=>h) (Or.inl ⟨by rfl,?y1⟩) S6 ?r1
 case y1=>intro wq WA;obtain⟨q0,q1⟩:=WA;go_simp;with_reducible rfl
 refine wpAnyH_take (i:=3) (v:=?v3) rfl (by kernel_rfl) (by kernel_rfl) (by kernel_rfl) (λ_ _ _ h=>h) (Or.inl ⟨by rfl,?y3⟩) S6 ?r3
 case y3=>intro wq WA;obtain⟨q0,q1⟩:=WA;go_simp;with_reducible rfl
 refine wpAnyH_ready (rs:=[2]) (by kernel_rfl) (by simp) ?_
 refine AllReadyH.cons rfl (λK hK=>?_) AllReadyH.nil
 go_simp
 refine (nZ.o _ (HT.o _ S6.1)).mono ?_;rintro e w2 ⟨rfl,ZY⟩;have Vl:Bw W w2:=S6.1.trans ZY
 dsimp only
 have Qa:=HS.o w2 Vl;refine hK.out _ _ Qa (λ_=>?_)
 clear hK;refine wpAnyH_take (i:=4) (v:=?v4) rfl (by kernel_rfl) (by kernel_rfl) (by kernel_rfl) (λ_ _ _ h=>h) (Or.inl ⟨by rfl,?y4⟩) Qa ?r4
 case y4=>intro wq WA;obtain⟨q0,q1⟩:=WA;go_simp;with_reducible rfl
 refine wpAnyH_ready (rs:=[5]) (by kernel_rfl) (by simp) ?_
 refine AllReadyH.cons rfl (λK hK=>?_) AllReadyH.nil
 go_simp
 refine (LV.o _ (HT.o _ Qa.1)).mono ?_;rintro e w3 ⟨rfl,ZG⟩;have hB3:Bw W w3:=Vl.trans (ZG.mono Vl.size)
 dsimp only
 have Wf:=HS.o w3 hB3;refine hK.out _ _ Wf (λ_=>?_)
 clear hK;refine wpAnyH_take (i:=6) (v:=?v6) rfl (by kernel_rfl) (by kernel_rfl) (by kernel_rfl) (λ_ _ _ h=>h) (Or.inl ⟨by rfl,?y6⟩) Wf ?r6
 case y6=>intro wq WA;obtain⟨q0,q1⟩:=WA;go_simp;with_reducible rfl
 refine wpAnyH_take (i:=7) rfl (by kernel_rfl) (by kernel_rfl) (by kernel_rfl) (λ_ _ _ h=>h) (Or.inr ⟨by rfl,rfl⟩) Wf ?_
 refine wpAnyH_take (i:=8) rfl (by kernel_rfl) (by kernel_rfl) (by kernel_rfl) (λ_ _ _ h=>h) (Or.inr ⟨by rfl,rfl⟩) Wf ?_
 refine wpAnyH_take (i:=9) rfl (by kernel_rfl) (by kernel_rfl) (by kernel_rfl) (λ_ _ _ h=>h) (Or.inr ⟨by rfl,rfl⟩) Wf ?_
 refine wpAnyH_take (i:=10) rfl (by kernel_rfl) (by kernel_rfl) (by kernel_rfl) (λ_ _ _ h=>h) (Or.inr ⟨by rfl,rfl⟩) Wf ?_
 refine wpAnyH_take (i:=11) (v:=?v11) rfl (by kernel_rfl) (by kernel_rfl) (by kernel_rfl) (λ_ _ _ h=>h) (Or.inl ⟨by rfl,?y11⟩) Wf ?r11
 case y11=>intro wq WA;obtain⟨q0,q1⟩:=WA;go_simp;with_reducible rfl
 refine wpAnyH_take (i:=12) (v:=?v12) rfl (by kernel_rfl) (by kernel_rfl) (by kernel_rfl) (λ_ _ _ h=>h) (Or.inl ⟨by rfl,?y12⟩) Wf ?r12
 case y12=>intro wq WA;obtain⟨q0,q1⟩:=WA;go_simp;with_reducible rfl
 refine wpAnyH_done (by kernel_rfl) ?_ _
 have ZM:Hid (Bw w w3):=HT.o _ hB3;go_wp2
 go_ret
 exact⟨ZD (by simp),ZM.o⟩
def zGg (w:World) (v:Value) (pt:List (List Nat)):Prop :=
 ∃a c,v=.slice a pt.length c/\(pt.length<=c/\c<=maxLen)/\∀(i:Nat) (pts:List Nat),pt[i]? = some pts->∃b off x,a=some ⟨b,off,none⟩/\b<w.heap.size/\w.cell? ⟨b,off+i,none⟩=some x/\PArg w x pts
theorem zGg.below {w w':World} {v:Value} {pt:List (List Nat)} (hb:Bw w w') (h:zGg w v pt):zGg w' v pt:=by
 obtain⟨a,c,hv,hm,hr⟩:=h;refine⟨a,c,hv,hm,λi z hz=>?_⟩
 obtain⟨b,off,x,ha,Z7,hc,hx⟩:=hr i z hz;exact⟨b,off,x,ha,ZQ Z7 hb.size,(hb.cell (p:=⟨b,off+i,none⟩) Z7).trans hc,PArg.below hb hx⟩
structure RulesAt (w:World) (r:Nat) (sv pv cv:Value) (vs:List MVar) (pt:List (List Nat)) (cs:List Nat):Prop where
 lt:r<w.heap.size
 c0:w.cell? ⟨r,0,none⟩=some sv
 c1:w.cell? ⟨r,1,none⟩=some pv
 c2:w.cell? ⟨r,2,none⟩=some cv
 hv:VArg w sv vs
 hp:zGg w pv pt
 hc:PArg w cv cs
 tab:TabT w
theorem RulesAt.below {w w':World} {r:Nat} {sv pv cv:Value} {vs:List MVar} {pt:List (List Nat)} {cs:List Nat} (hb:Bw w w') (h:RulesAt w r sv pv cv vs pt cs):RulesAt w' r sv pv cv vs pt cs :=
 ⟨ZQ h.lt hb.size,(hb.cell (p:=⟨r,0,none⟩) h.lt).trans h.c0,(hb.cell (p:=⟨r,1,none⟩) h.lt).trans h.c1,(hb.cell (p:=⟨r,2,none⟩) h.lt).trans h.c2,VArg.below hb h.hv,zGg.below hb h.hp,PArg.below hb h.hc,h.tab.below hb⟩
structure Teller (F:Nat) (caps:Array Value) (vs:List MVar) (pt:List (List Nat)) (I:List (Nat×Nat×Nat)->World->Prop):Prop where
 enters:∀(args:Array Value) (w':World),Sem.run prog (callFunc F args) w'=.ok (.enter F args) w'
 below:∀T w w',I T w->Bw w w'->I T w'
 call:∀(T:List (Nat×Nat×Nat)) (con b a:Nat) (w:World),I T w->T.length<=36->con<pt.length->(∀i,b.testBit i=true->(zAN vs).testBit i=true)->(∀i,a.testBit i=true->b.testBit i=true) ->
  Calls prog F (#[.int .i64 con,.int .u64 b,.int .u64 a]++caps) w λe w'=>e=.returned (.tuple #[])/\I (T++[(con,b,a)]) w'
theorem bd {pt:List (List Nat)} {k l:Nat} {pts:List Nat} (h:pt[k]? = some pts):Xl (pt.drop k) l=(if l=0 then l else Xl (pt.drop (k+1)) (Ui pts l)) /\
 Sa k (pt.drop k) l=if l=0 then [] else (if Ui pts l=l then [] else [(k,l,Ui pts l)])++Sa (k+1) (pt.drop (k+1)) (Ui pts l):=by
 have hk:k<pt.length:=(ZN.1 h).1;have hc:pt[k]=pts:=by rw[ZA hk] at h;exact Zl h
 rw[Yc hk,hc];exact⟨rfl,rfl⟩
theorem nY (pt:List (List Nat)) (k:Nat):Xl pt 0=0/\Sa k pt 0=[]:=by
 cases pt <;> exact⟨rfl,rfl⟩
theorem nW (vs:List MVar) (Zf:Vb vs) (XH:1<=vs.length) (cs:List Nat) (pt:List (List Nat)) (h:Nat) (hh:h<2 ^ 36) (r:Nat) (sv pv cv:Value) (F:Nat) (caps:Array Value)
 (I:List (Nat×Nat×Nat)->World->Prop) (hF:Teller F caps vs pt I) (hR:∀T w,I T w->RulesAt w r sv pv cv vs pt cs) (w:World) (hII:I [] w) :
 Calls prog 150 #[.pointer (some ⟨r,0,none⟩),.int .u64 h,.func (.func F) #[] caps] w λe w'=>e=.returned (.int .u64 ((QR vs cs pt h:Nat):Int))/\I (Aa vs cs pt h) w':=by
 have HF:=hI hF;have Dh:=hI hR;have HI:=hI hII;have YQ:=hI Zf;have H6:=hI Zf.1.1;have H1:=hI XH;have TZ:Hid (zAN vs<2 ^ 36):=Qh vs Zf.1 _;obtain⟨q,hq⟩:∃q,zAN vs=q:=⟨_,rfl⟩;obtain⟨l0,Xm⟩:∃l0,Zg (zAN vs) h=l0:=⟨_,rfl⟩;have vD:Hid (∀i,l0.testBit i=true->(zAN vs).testBit i=true):=λi hi=>by
  rw[<-Xm,TJ,ZB] at hi;exact hi.1
 have Hr:Hid (l0<2 ^ 36):=by rw[<-Xm];exact Pz 36 _ _ TZ.o
 have Wg:=N' (zAN vs) h (by have:=TZ.o;omega) (by omega)
 rw[Xm,hq] at Wg;have HQ:=hI hq;obtain⟨R,M_⟩:∃R,QR vs cs pt h=R:=⟨_,rfl⟩;obtain⟨TT,vC⟩:∃TT,Aa vs cs pt h=TT:=⟨_,rfl⟩;have HS:Hid (if 0=l0 then R=l0/\TT=[] else R=S7 vs cs pt (l0+1) l0/\TT=[]++OR vs cs pt (l0+1) l0):=by
  show (if _ then _ else _)
  rw[<-M_,<-vC];unfold QR Aa;rw[Xm];by_cases h0:l0=0
  ·rw[if_pos h0.symm,if_pos h0,if_pos h0];exact⟨h0.symm,rfl⟩
  rw[if_neg (λe=>h0 e.symm),if_neg h0,if_neg h0];exact⟨rfl,rfl⟩
 rw[M_,vC];have U0:=hR [] w hII;have g0:=U0.c0;have g1:=U0.c1;have g2:=U0.c2;have Dg:=hI U0;obtain⟨a,c,rfl,_,_⟩:=U0.hv;obtain⟨a1,c1,rfl,hm,_⟩:=U0.hp;obtain⟨a2,c2,rfl,_,_⟩:=U0.hc;unfold maxLen at hm;obtain⟨Y0,hm⟩:=hm;clear hF hR hII Zf XH hh hq Xm M_ vC U0;go_enter func150,ntmps150
 go_wp2_with fail
 refine (zY vs YQ.o _ _ Dg.o.hv).mono ?_;rintro e w1 ⟨rfl,Z5⟩;rw[HQ.o];have a_:Hid (I [] w1):=HF.o.below _ _ _ HI.o Z5;clear Z5 g0 g1 g2 HI Dg;go_wp2_with fail
 go_loopw [7,8] (λl b wr=>∃(bb ll:Nat) (T:List (Nat×Nat×Nat)),l=.int .u64 (ll:Int)/\b=.int .u64 (bb:Int)/\Hid (ll<2 ^ 36)/\Hid (∀i,ll.testBit i=true->(zAN vs).testBit i=true)/\Hid (if bb=ll then R=ll/\TT=T else R=S7 vs cs pt (ll+1) ll/\TT=T++OR vs cs pt (ll+1) ll)/\Hid (T.length+Qg ll<=36)/\Hid (I T wr)) (λl b _=>if intOf b=intOf l then 0 else (intOf l).toNat+1)
 case atStart=>exact⟨0,l0,[],rfl,rfl,Hr,vD,HS,by show _<=_;have:=vZ l0;simpa using this,a_⟩
 obtain⟨bb,ll,T,rfl,rfl,Rn,zW,ZZ,Ig,hi⟩:=hrel;by_cases YF:bb=ll
 ·have HN:Hid (R=ll/\TT=T):=by have:=ZZ.o;rw[if_pos YF] at this;exact this
  have ZP:((bb:Int) != (ll:Int))=false:=by simp[YF]
  clear ZZ YF;go_wp2
  go_ret
  exact⟨EZ HN.o.1.symm,by rw[HN.o.2];exact hi.o⟩
 obtain⟨U,hU⟩:∃U,Xv vs cs ll=U:=⟨_,rfl⟩;have aZ:=hI hU;have HN:Hid (R=(if Xl pt U=ll then ll else S7 vs cs pt (Xl pt U+1) (Xl pt U))/\TT=T++(Sa 0 pt U++if Xl pt U=ll then [] else OR vs cs pt (Xl pt U+1) (Xl pt U))):=by
  show _/\_;have h1:=ZZ.o;rw[if_neg YF] at h1;have h2:=cj vs cs pt ll Rn.o;rw[hU] at h2;rw[h1.1,h1.2,h2.1,h2.2];exact⟨rfl,rfl⟩
 have EX:Hid (U<=ll):=by rw[<-hU];exact Du vs cs ll
 have aY:Hid (∀i,U.testBit i=true->(zAN vs).testBit i=true):=λi hx=>zW.o i (Ab vs cs ll i (by rw[hU];exact hx))
 have Df:Hid (T.length+Qg U<=36):=by have h1:=Ig.o;have h2:=oE U ll (λi hx=>Ab vs cs ll i (by rw[hU];exact hx));show _<=_;omega
 have De:Hid (U<2 ^ 36):=by have:=EX.o;have:=Rn.o;show _<_;omega
 have XE:=hI YF;have ZP:((bb:Int) != (ll:Int))=true:=by simp;omega
 have U0:=Dh.o T wr hi.o;have g0:=U0.c0;have g2:=U0.c2;have gl:=U0.lt;have EW:Hid (∀Y,Bw wr Y->Calls prog 146 #[.slice a (List.length vs) c,.slice a2 (List.length cs) c2,.int .u64 (ll:Int)] Y λe w'=>e=.returned (.int .u64 (U:Int))/\Bw Y w'):=λY hY=>by
  rw[<-aZ.o];have EV:=RulesAt.below hY (Dh.o T wr hi.o);exact (n_ vs H6.o H1.o cs ll Rn.o _ _ _ EV.hv EV.hc EV.tab).mono λ_ _ ⟨h1,h2⟩=>⟨h1,by rw[h2];exact Z6 _ _⟩
 clear ZZ YF hU U0;go_upto_region 5 with (fail)
 clear ZP;go_region_held3 (λw'=>Bw wr w'/\w'.cell? ⟨r,0,none⟩=some (.slice a (List.length vs) c)/\w'.cell? ⟨r,2,none⟩=some (.slice a2 (List.length cs) c2))
  ((refine (λ(hB:Bw wr _)=>⟨hB,(hB.cell (p:=⟨r,0,none⟩) gl).trans g0,(hB.cell (p:=⟨r,2,none⟩) gl).trans g2⟩:Bw wr _->_) ?_;first | exact (Z6 _ _).drew | exact N7 (by assumption) Yu))
  (first
    | (go_at_call 146;refine (EW.o _ (show Bw wr _/\_ by assumption).1).mono ?_;rintro e w3 ⟨rfl,Yu⟩;have hB3:=N7 (by assumption) Yu))
 have Hp:Hid (I T w3):=HF.o.below _ _ _ hi.o hB3;clear Yu hB3 g0 g2 gl hi;go_wp2_with fail
 go_loopw [7,9] (λl i wx=>∃(k l2:Nat) (T2:List (Nat×Nat×Nat)),k<=pt.length/\i=.int .i64 k/\l=.int .u64 (l2:Int)/\Hid (l2<2 ^ 36)/\Hid (∀i,l2.testBit i=true->(zAN vs).testBit i=true)/\Hid (Xl pt U=Xl (pt.drop k) l2/\T++Sa 0 pt U=T2++Sa k (pt.drop k) l2)/\Hid (T2.length+Qg l2<=36)/\Hid (I T2 wx)) (λ_ i _=>pt.length - (intOf i).toNat)
 case atStart=>exact⟨0,U,T,by omega,rfl,rfl,De,aY,⟨rfl,rfl⟩,Df,Hp⟩
 obtain⟨k,l2,T2,hk,rfl,rfl,Yn,WT,ZZ,M',hi⟩:=hrel;have U0:=Dh.o T2 wr hi.o;have Dg:Hid (RulesAt wr r _ _ _ vs pt cs):=U0;have g0:=U0.c0;have g1:=U0.c1;by_cases M9:k<pt.length/\l2≠0
 ·obtain⟨Z7,Xm⟩:=M9
  obtain⟨pts,SD⟩:∃pts,pt[k]? = some pts:=⟨pt[k],by simp[Z7]⟩
  obtain⟨a5,c5,Jo,_,Ng⟩:=U0.hp;obtain⟨b,off,x,wN,Yd,AG,LU⟩:=Ng k pts SD;have Ho:=hI LU;obtain⟨a6,c6,rfl,_,_⟩:=LU;rw[wN] at Jo;have Yx:=bd (l:=l2) SD;rw[if_neg Xm,if_neg Xm] at Yx;obtain⟨A,hA⟩:∃A,Ui pts l2=A:=⟨_,rfl⟩;have aX:=hI hA;have OL:Hid (A<=l2):=by rw[<-hA];exact Dt pts l2 Yn.o
  have zV:Hid (∀i,A.testBit i=true->l2.testBit i=true):=λi hx=>wh pts l2 i Yn.o (by rw[hA];exact hx)
  have vB:Hid (T2.length+Qg A<=36):=by have h1:=M'.o;have h2:=oE A l2 zV.o;show _<=_;omega
  have Jn:Hid (T2.length<=36):=by have h1:=M'.o;show _<=_;omega
  have vA:Hid (A≠l2->(T2++[(k,l2,A)]).length+Qg A<=36):=λhq=>by have h1:=M'.o;have h2:=oD A l2 Yn.o zV.o hq;rw[ZC];simp;omega
  have KO:Hid (A<2 ^ 36):=by have:=OL.o;have:=Yn.o;show _<_;omega
  rw[hA] at Yx;have Va:Hid (Xl pt U=Xl (pt.drop (k+1)) A/\T++Sa 0 pt U=T2++((if A=l2 then [] else [(k,l2,A)])++Sa (k+1) (pt.drop (k+1)) A)):=by
   have h1:=ZZ.o;rw[Yx.1,Yx.2] at h1;exact h1
  injection Jo with Jo _ _
  subst Jo;have vz:((l2:Int) != 0)=true:=by simpa using Xm
  have Zb:Hid (∀i,A.testBit i=true->(zAN vs).testBit i=true):=λi hx=>WT.o i (zV.o i hx)
  clear Yx hA ZZ Ng U0 SD Xm;go_wp2_with fail
  refine (bf pts l2 Yn.o _ _ Ho.o Dg.o.tab).mono ?_;rintro e wr ⟨rfl,rfl⟩;rw[aX.o];by_cases EU:A=l2
  ·have YE:Hid (Xl pt U=Xl (pt.drop (k+1)) A/\T++Sa 0 pt U=T2++Sa (k+1) (pt.drop (k+1)) A):=by
    have h1:=Va.o;rw[if_pos EU,O2] at h1;exact h1
   have ZP:((A:Int) != (l2:Int))=false:=by simp[EU]
   clear Va EU;go_wp2
   go_roundw
   case rel=>exact⟨k+1,A,T2,by omega,by go_num,rfl,KO,Zb,YE,vB,hi⟩
   case measure=>simp[intOf];omega
  have YE:Hid (Xl pt U=Xl (pt.drop (k+1)) A/\T++Sa 0 pt U=(T2++[(k,l2,A)])++Sa (k+1) (pt.drop (k+1)) A):=by
   have h1:=Va.o;rw[if_neg EU,<-SO] at h1;exact h1
  have ZP:((A:Int) != (l2:Int))=true:=by simp;omega
  have vw:Hid ((T2++[(k,l2,A)]).length+Qg A<=36):=vA.o EU;clear Va EU;have XR:Hid (Calls prog F (#[.int .i64 k,.int .u64 l2,.int .u64 A]++caps) wr λe w'=>e=.returned (.tuple #[])/\I (T2++[(k,l2,A)]) w'):=HF.o.call T2 k l2 A wr hi.o Jn.o Z7 WT.o zV.o
  go_wp2_with fail
  rw[HF.o.enters,Oper.upon_enter];refine XR.o.mono ?_;rintro e w4 ⟨rfl,nV⟩;have aW:=hI nV;clear nV g0 g1 AG XR;go_wp2
  go_roundw
  case rel=>exact⟨k+1,A,T2++[(k,l2,A)],by omega,by go_num,rfl,KO,Zb,YE,vw,aW⟩
  case measure=>simp[intOf];omega
 have HE:Hid (Xl pt U=l2/\T++Sa 0 pt U=T2):=by
  have h1:=ZZ.o;by_cases Z7:k<pt.length
  ·have h0:l2=0:=Xz λZP=>M9 ⟨Z7,ZP⟩
   rw[h0,(nY _ k).1,(nY _ k).2,TA] at h1;rw[h0];exact h1
  rw[show k=pt.length by omega,List.drop_length] at h1
  obtain⟨h2,h3⟩:=h1;have e:T2++Sa pt.length [] l2=T2:=by simp[Sa]
  rw[e] at h3;exact⟨h2,h3⟩
 have OM:Hid (l2<=ll):=by
  rw[<-HE.o.1];exact ZT (Ds pt U De.o) EX.o
 have EY:Hid (if ll=l2 then R=l2/\TT=T2 else R=S7 vs cs pt (l2+1) l2/\TT=T2++OR vs cs pt (l2+1) l2):=by
  show (if _ then _ else _)
  obtain⟨h1,h2⟩:=HN.o;rw[<-SO,HE.o.2] at h2;rw[HE.o.1] at h1 h2;by_cases hq:ll=l2
  ·rw[if_pos hq.symm] at h1 h2
   rw[if_pos hq,h1,h2,TA];exact⟨hq,rfl⟩
  rw[if_neg (λh=>hq h.symm)] at h1 h2
  rw[if_neg hq,h1,h2];exact⟨rfl,rfl⟩
 have HM:Hid ((if (ll:Int)=(l2:Int) then 0 else (l2:Int).toNat+1)<(if (bb:Int)=(ll:Int) then 0 else (ll:Int).toNat+1)):=by
  show _<_;have h1:=XE.o;have h2:=OM.o;have e:(if (bb:Int)=(ll:Int) then 0 else (ll:Int).toNat+1)=(ll:Int).toNat+1:=if_neg (by omega)
  rw[e]
  split <;> omega
 by_cases Z7:k<pt.length
 ·have h0:l2=0:=Xz λZP=>M9 ⟨Z7,ZP⟩
  subst h0;clear ZZ M9;go_wp2
  go_roundw
  case rel=>exact⟨ll,0,T2,rfl,rfl,Yn,WT,EY,M',hi⟩
  case measure=>exact HM.o
 clear ZZ M9;go_wp2
 go_roundw
 case rel=>exact⟨ll,l2,T2,rfl,rfl,Yn,WT,EY,M',hi⟩
 case measure=>exact HM.o
end Go.Proofs.YtndcpnlaadikoaaGreatDoor
