/- What the proof leans on, part 26. -/
import Derived.Test.YtdjbejlbmaiocafGreatDoorPartAu
import Derived.Test.YtdjbejlbmaiocafGreatDoorPartAv
import Derived.Test.YtdjbejlbmaiocafGreatDoorPartAp
namespace Go.Proofs.YtdjbejlbmaiocafGreatDoor
open Go.RowKit
theorem zII (cs:List Nat) (k c left:Nat) (h:cs[k]? = some c):zAX (cs.drop k) left=if left &&& c=0 then none
 else if zAM (left &&& c) (zAV (left &&& c))=0 then zAX (cs.drop (k+1)) (zAM left (zAM (zAV (left &&& c)) (left &&& c))) else zAX (cs.drop (k+1)) left:=by
 have hk:k<cs.length:=(List.getElem?_eq_some_iff.1 h).1
 have hc:cs[k]=c:=by rw[List.getElem?_eq_getElem hk] at h;exact Option.some.inj h
 rw[List.drop_eq_getElem_cons hk,hc]
 rfl
theorem zHf (p:Nat) (h0:p≠0) (h:p<2 ^ 36):zAV p<2 ^ 36:=by
 have h1:=(zCg p h0 h).2
 unfold zAV
 have h2:2 ^ (6 * (Lib.ctz 64 p / 6))≤2 ^ 30:=Nat.pow_le_pow_right (by omega) (by omega)
 omega
theorem zKb {a b:Nat} (ha:a<2 ^ 36):a &&& b<2 ^ 36:=Nat.lt_of_le_of_lt Nat.and_le_left ha
theorem zDd {a b:Nat} (h:a=b):Ending.returned (.int .u64 (a:Int))=Ending.returned (.int .u64 (b:Int)):=by rw[h]
set_option maxHeartbeats 1600000 in
set_option maxRecDepth 100000 in
theorem zGF (vs:List MVar) (h6:vs.length≤6) (hn1:1≤vs.length) (cs:List Nat) (r:Nat) (hr36:r<2 ^ 36) (sv pv:Value) (w:World) (hv:VArg w sv vs) (hp:PArg w pv cs) (hT:TabT w) :
 Calls Tryz.prog 224 #[sv,pv,.int .u64 r] w fun e w'=>e=.returned (.int .u64 ((zAU vs cs r:Nat):Int))∧w'=w:=by
 have HV:Hid (VArg w sv vs):=hv
 have HT:Hid (TabT w):=hT
 have H6:Hid (vs.length≤6):=h6
 have HR36:Hid (r<2 ^ 36):=hr36
 obtain⟨R,hR⟩:∃R,zAU vs cs r=R:=⟨_,rfl⟩
 have HS:Hid (R=if zBf vs.length r then 0 else zBE cs (r+1) r):=by show _=_;rw[←hR];rfl
 rw[hR]
 have HR0:Hid (zBf vs.length r=false→r≠0):=fun h0 h1=>by
  rw[zHb vs.length r 0 (by omega) (by rw[h1];rfl)] at h0;cases h0
 obtain⟨a,c,rfl,_,_⟩:=hv
 obtain⟨a2,c2,rfl,hm,hrp⟩:=hp
 have HP:Hid (∀(i z:Nat),cs[i]? = some z→z<2 ^ 36∧∃b off,a2=some ⟨b,off,none⟩∧b<w.heap.size∧w.cell? ⟨b,off+i,none⟩=some (.int .u64 z)):=hrp
 unfold maxLen at hm
 obtain⟨hm1,hm⟩:=hm
 clear hT hR hrp hn1 h6 hr36
 go_enter Tryz.func224,Tryz.ntmps224
 go_wp2_with fail
 refine (zEd vs H6.out r HR36.out _ _ HV.out).mono ?_
 rintro e w ⟨rfl,rfl⟩
 obtain⟨L,hL⟩:∃L,zBf vs.length r=L:=⟨_,rfl⟩
 rw[hL] at HS HR0 ⊢
 clear hL
 cases L
 ·have HS2:Hid (R=zBE cs (r+1) r):=HS.out
  have HN0:Hid (r≠0):=HR0.out rfl
  clear HS HR0
  go_wp2_with fail
  go_loopw [7,8] (fun l b wr=>∃bb ll:Nat,l=.int .u64 (ll:Int)∧b=.int .u64 (bb:Int)∧Hid (ll<2 ^ 36)∧Hid (if bb=ll then R=ll else R=zBE cs (ll+1) ll)∧wr=w) (fun l b _=>if intOf b=intOf l then 0 else (intOf l).toNat+1)
  case atStart=>exact⟨0,r,rfl,rfl,HR36,by show (if _ then _ else _);rw[if_neg (fun h=>HN0.out h.symm)];exact HS2.out,rfl⟩
  case round =>
   obtain⟨bb,ll,rfl,rfl,hl36,hst,rfl⟩:=hrel
   by_cases hbl:bb=ll
   ·have HN:Hid (R=ll):=by have:=hst.out;rw[if_pos hbl] at this;exact this
    have hne:((bb:Int) != (ll:Int))=false:=by simp[hbl]
    clear hst hbl
    go_wp2
    go_ret
    exact⟨zDd HN.out.symm,rfl⟩
   ·have HN:Hid (R=zBE cs (ll+1) ll):=by have:=hst.out;rw[if_neg hbl] at this;exact this
    have HU:Hid (R=match zAX cs ll with
     | none=>0
     | some l=>if l=ll then ll else zBE cs (l+1) l):=by show _=_;rw[HN.out];exact zFB cs ll
    have HBL:Hid (bb≠ll):=hbl
    have hne:((bb:Int) != (ll:Int))=true:=by simp;omega
    clear hst hbl
    go_wp2_with fail
    clear hne
    go_loopw [7,23] (fun l i wx=>∃k l2:Nat,k≤cs.length∧i=.int .i64 k∧l=.int .u64 (l2:Int)∧Hid (l2<2 ^ 36)∧Hid (zAX cs ll=zAX (cs.drop k) l2)∧wx=wr) (fun _ i _=>cs.length - (intOf i).toNat)
    case atStart=>exact⟨0,ll,by omega,rfl,rfl,hl36,rfl,rfl⟩
    case round =>
     obtain⟨k,l2,hk,rfl,rfl,hl2,hrd,rfl⟩:=hrel
     by_cases hlt:k<cs.length
     ·obtain⟨z,hz⟩:∃z,cs[k]? = some z:=⟨cs[k],by simp[hlt]⟩
      obtain⟨hz36,b,off,ha,hb,hc⟩:=HP.out k z hz
      subst ha
      have HZ:Hid (cs[k]? = some z):=hz
      have HRC:Hid (zAX (cs.drop k) l2=if l2 &&& z=0 then none
       else if zAM (l2 &&& z) (zAV (l2 &&& z))=0 then zAX (cs.drop (k+1)) (zAM l2 (zAM (zAV (l2 &&& z)) (l2 &&& z))) else zAX (cs.drop (k+1)) l2):=zII cs k z l2 hz
      have hand:=bits_and_u64_nat l2 z (by have:=hl2.out;omega) (by omega)
      obtain⟨o,ho⟩:∃o,l2 &&& z=o:=⟨_,rfl⟩
      have HO36:Hid (o<2 ^ 36):=by rw[←ho];exact zKb hl2.out
      rw[ho] at hand HRC
      clear hz hz36 ho
      by_cases ho0:o=0
      ·have HE:Hid (R=0):=by show _=_;rw[HU.out,hrd.out,HRC.out,if_pos ho0]
       subst ho0
       clear hrd hl2
       go_wp2
       go_ret
       exact⟨zDd HE.out.symm,rfl⟩
      ·have HRC2:Hid (zAX (cs.drop k) l2=if zAM o (zAV o)=0 then zAX (cs.drop (k+1)) (zAM l2 (zAM (zAV o) o)) else zAX (cs.drop (k+1)) l2):=by show _=_;rw[HRC.out,if_neg ho0]
       have HO0:Hid (o≠0):=ho0
       have ho1:((o:Int)==0)=false:=by simpa using ho0
       obtain⟨f,hf⟩:∃f,zAV o=f:=⟨_,rfl⟩
       have HF36:Hid (f<2 ^ 36):=by rw[←hf];exact zHf o ho0 HO36.out
       have hnt:=zAO o f (by have:=HO36.out;omega) (by have:=HF36.out;omega)
       have HF:Hid (zAV o=f):=hf
       rw[hf] at HRC2
       obtain⟨g,hg⟩:∃g,zAM o f=g:=⟨_,rfl⟩
       rw[hg] at hnt HRC2
       clear ho0 hf hg HRC
       by_cases hg0:g=0
       ·have hn2:=zAO f o (by have:=HF36.out;omega) (by have:=HO36.out;omega)
        obtain⟨t,ht⟩:∃t,zAM f o=t:=⟨_,rfl⟩
        have HT36:Hid (t<2 ^ 36):=by rw[←ht];exact zBN 36 _ _ HF36.out
        have hn3:=zAO l2 t (by have:=hl2.out;omega) (by have:=HT36.out;omega)
        obtain⟨l3,hl3⟩:∃l3,zAM l2 t=l3:=⟨_,rfl⟩
        have HL36:Hid (l3<2 ^ 36):=by rw[←hl3];exact zBN 36 _ _ hl2.out
        have HE:Hid (zAX cs ll=zAX (cs.drop (k+1)) l3):=by show _=_;rw[hrd.out,HRC2.out,if_pos hg0,ht,hl3]
        rw[ht] at hn2
        rw[hl3] at hn3
        subst hg0
        clear hrd ht hl3 HRC2 hl2
        go_wp2_with fail
        refine (zDO o HO0.out HO36.out _ HT.out).mono ?_
        rintro e w ⟨rfl,rfl⟩
        rw[HF.out]
        go_wp2
        go_roundw
        case rel=>exact⟨k+1,l3,by omega,by go_num,rfl,HL36,HE,trivial⟩
        case measure=>simp[intOf];omega
       ·have HE:Hid (zAX cs ll=zAX (cs.drop (k+1)) l2):=by show _=_;rw[hrd.out,HRC2.out,if_neg hg0]
        have hg1:((g:Int)==0)=false:=by simpa using hg0
        clear hrd hg0 HRC2
        go_wp2_with fail
        refine (zDO o HO0.out HO36.out _ HT.out).mono ?_
        rintro e w ⟨rfl,rfl⟩
        rw[HF.out]
        go_wp2
        go_roundw
        case rel=>exact⟨k+1,l2,by omega,by go_num,rfl,hl2,HE,trivial⟩
        case measure=>simp[intOf];omega
     ·have hke:k=cs.length:=by omega
      have HE:Hid (zAX cs ll=some l2):=by show _=_;rw[hrd.out,hke,List.drop_length];rfl
      have HLE:Hid (l2≤ll):=zBv cs ll l2 HE.out
      have HU2:Hid (if ll=l2 then R=l2 else R=zBE cs (l2+1) l2):=by
       show (if _ then _ else _)
       have:=HU.out
       rw[HE.out] at this
       simp only at this
       by_cases hq:ll=l2
       ·rw[if_pos hq];rw[if_pos hq.symm] at this;rw[this];exact hq
       ·rw[if_neg hq];rw[if_neg (fun h=>hq h.symm)] at this;exact this
      have HM:Hid ((if (ll:Int)=(l2:Int) then 0 else (l2:Int).toNat+1)<(if (bb:Int)=(ll:Int) then 0 else (ll:Int).toNat+1)):=by
       show _<_
       have h1:=HBL.out
       have h2:=HLE.out
       have e:(if (bb:Int)=(ll:Int) then 0 else (ll:Int).toNat+1)=(ll:Int).toNat+1:=if_neg (by omega)
       rw[e]
       split <;> omega
      clear hrd hke
      go_wp2
      go_roundw
      case rel=>exact⟨ll,l2,rfl,rfl,hl2,HU2,trivial⟩
      case measure=>exact HM.out
 ·have HN:Hid (R=0):=HS.out
  go_wp2
  go_ret
  exact⟨zDd HN.out.symm,rfl⟩
set_option maxHeartbeats 800000 in
set_option maxRecDepth 100000 in
theorem zJR (vs:List MVar) (hva:zAH vs) (hn1:1≤vs.length) (cs:List Nat) (h:Nat) (hh:h<2 ^ 36) (sv pv:Value) (w:World) (hv:VArg w sv vs) (hp:PArg w pv cs) (hT:TabT w) :
 Calls Tryz.prog 181 #[sv,pv,.int .u64 h] w fun e w'=>e=.returned (.bool (zE9 vs cs h))∧Below w.heap.size w w':=by
 have HV:Hid (∀w',Below w.heap.size w w'→VArg w' sv vs):=fun w' h=>VArg.below h hv
 have HP:Hid (∀w',Below w.heap.size w w'→PArg w' pv cs):=fun w' h=>PArg.below h hp
 have HT:Hid (∀w',Below w.heap.size w w'→TabT w'):=fun w' h=>hT.below h
 have HVO:Hid (zAH vs):=hva
 have H6:Hid (vs.length≤6):=hva.1.1
 have H1:Hid (1≤vs.length):=hn1
 have HW36:Hid (zAG vs<2 ^ 36):=zDY vs hva.1 _
 obtain⟨q,hq⟩:∃q,zAG vs=q:=⟨_,rfl⟩
 obtain⟨r,hr⟩:∃r,zAM (zAG vs) h=r:=⟨_,rfl⟩
 have HR36:Hid (r<2 ^ 36):=by rw[←hr];exact zBN 36 _ _ HW36.out
 have hbits:=zAO (zAG vs) h (by have:=HW36.out;omega) (by omega)
 rw[hr,hq] at hbits
 have HQ:Hid (zAG vs=q):=hq
 obtain⟨R,hR⟩:∃R,zE9 vs cs h=R:=⟨_,rfl⟩
 have HS:Hid (R=(((zAU vs cs r:Nat):Int)==0)):=by
  show _=_
  rw[←hR];unfold zE9;rw[hr]
  by_cases h0:zAU vs cs r=0
  ·rw[h0];rfl
  ·have h1:(((zAU vs cs r:Nat):Int)==0)=false:=by simpa using h0
   rw[h1];simpa using h0
 rw[hR]
 obtain⟨a,c,rfl,_,_⟩:=hv
 obtain⟨a2,c2,rfl,_,_⟩:=hp
 clear hva hh hq hr hT hR hn1
 go_enter Tryz.func181,Tryz.ntmps181
 go_wp2_with fail
 refine (zDN vs HVO.out _ _ (HV.out _ (Below.refl _ _))).mono ?_
 rintro e w1 ⟨rfl,hb1⟩
 rw[HQ.out]
 have HB1:Hid (Below w.heap.size w w1):=hb1
 clear hb1
 go_wp2_with fail
 refine (zGF vs H6.out H1.out cs r HR36.out _ _ _ (HV.out _ HB1.out) (HP.out _ HB1.out) (HT.out _ HB1.out)).mono ?_
 rintro e w1 ⟨rfl,rfl⟩
 obtain⟨U,hU⟩:∃U:Int,((zAU vs cs r:Nat):Int)=U:=⟨_,rfl⟩
 rw[hU] at HS ⊢
 clear hU
 go_wp2
 go_ret
 exact⟨zAB HS.out.symm,HB1.out⟩
theorem zIJ (p:Nat) (pts:List Nat) (k z:Nat) (s:Nat×Nat×Bool) (h:pts[k]? = some z):zBQ p (pts.drop k) s=zBQ p (pts.drop (k+1)) (if zAM z p=0 then (z,s.2.1 ||| z,true) else s):=by
 have hk:k<pts.length:=(List.getElem?_eq_some_iff.1 h).1
 have hc:pts[k]=z:=by rw[List.getElem?_eq_getElem hk] at h;exact Option.some.inj h
 rw[List.drop_eq_getElem_cons hk,hc]
 rfl
set_option maxHeartbeats 1600000 in
set_option maxRecDepth 100000 in
theorem zJS (pts:List Nat) (p:Nat) (hp36:p<2 ^ 36) (pv:Value) (w:World) (hp:PArg w pv pts) (hT:TabT w) :
 Calls Tryz.prog 235 #[pv,.int .u64 p] w fun e w'=>e=.returned (.int .u64 ((zBb pts p:Nat):Int))∧w'=w:=by
 have HT:Hid (TabT w):=hT
 have HP36:Hid (p<2 ^ 36):=hp36
 obtain⟨R,hR⟩:∃R,zBb pts p=R:=⟨_,rfl⟩
 obtain⟨S,hS⟩:∃S,zBQ p pts (0,0,false)=S:=⟨_,rfl⟩
 have HS:Hid (R=if S.2.2 then clrN (S.1+1) S.1 p ||| S.2.1 else 0):=by show _=_;rw[←hR,←hS];rfl
 have HS0:Hid (S=zBQ p pts (0,0,false)):=hS.symm
 rw[hR]
 obtain⟨a2,c2,rfl,hm,hrp⟩:=hp
 have HP:Hid (∀(i z:Nat),pts[i]? = some z→z<2 ^ 36∧∃b off,a2=some ⟨b,off,none⟩∧b<w.heap.size∧w.cell? ⟨b,off+i,none⟩=some (.int .u64 z)):=hrp
 unfold maxLen at hm
 obtain⟨hm1,hm⟩:=hm
 clear hT hR hS hrp hp36
 go_enter Tryz.func235,Tryz.ntmps235
 go_wp2_with fail
 go_loopw [5,6,7,12] (fun s t f i wr=>∃(k ss tt:Nat) (ff:Bool),k≤pts.length∧s=.int .u64 (ss:Int)∧t=.int .u64 (tt:Int)∧f=.bool ff∧i=.int .i64 k∧Hid (ss<2 ^ 36)∧Hid (tt<2 ^ 36)∧Hid (S=zBQ p (pts.drop k) (ss,tt,ff))∧wr=w) (fun _ _ _ i _=>pts.length - (intOf i).toNat)
 case atStart=>exact⟨0,0,0,false,by omega,rfl,rfl,rfl,rfl,by show _<_;decide,by show _<_;decide,HS0,rfl⟩
 case round =>
  obtain⟨k,ss,tt,ff,hk,rfl,rfl,rfl,rfl,hs36,ht36,hst,rfl⟩:=hrel
  by_cases hlt:k<pts.length
  ·obtain⟨z,hz⟩:∃z,pts[k]? = some z:=⟨pts[k],by simp[hlt]⟩
   obtain⟨hz36,b,off,ha,hb,hc⟩:=HP.out k z hz
   subst ha
   have HZ36:Hid (z<2 ^ 36):=hz36
   have HN:Hid (S=zBQ p (pts.drop (k+1)) (if zAM z p=0 then (z,tt ||| z,true) else (ss,tt,ff))):=by show _=_;rw[hst.out];exact zIJ p pts k z _ hz
   have hnt:=zAO z p (by omega) (by have:=HP36.out;omega)
   obtain⟨o,ho⟩:∃o,zAM z p=o:=⟨_,rfl⟩
   rw[ho] at hnt HN
   clear hz hst ho
   by_cases ho0:o=0
   ·have HN2:Hid (S=zBQ p (pts.drop (k+1)) (z,tt ||| z,true)):=by show _=_;rw[HN.out,if_pos ho0]
    have hor:=bits_or_u64_nat tt z (by have:=ht36.out;omega) (by omega)
    have HT36:Hid (tt ||| z<2 ^ 36):=zEc ht36.out hz36
    obtain⟨t2,ht2⟩:∃t2,tt ||| z=t2:=⟨_,rfl⟩
    rw[ht2] at hor HT36 HN2
    subst ho0
    clear ht2 HN hz36
    go_wp2
    go_roundw
    case rel=>exact⟨k+1,z,t2,true,by omega,rfl,rfl,rfl,by go_num,HZ36,HT36,HN2,trivial⟩
    case measure=>simp[intOf];omega
   ·have HN2:Hid (S=zBQ p (pts.drop (k+1)) (ss,tt,ff)):=by show _=_;rw[HN.out,if_neg ho0]
    have ho1:((o:Int)==0)=false:=by simpa using ho0
    clear HN ho0 hz36
    go_wp2
    go_roundw
    case rel=>exact⟨k+1,ss,tt,ff,by omega,rfl,rfl,rfl,by go_num,hs36,ht36,HN2,trivial⟩
    case measure=>simp[intOf];omega
  ·have hke:k=pts.length:=by omega
   have HE:Hid (S=(ss,tt,ff)):=by show _=_;rw[hst.out,hke,List.drop_length];rfl
   have HR:Hid (R=if ff then clrN (ss+1) ss p ||| tt else 0):=by show _=_;rw[HS.out,HE.out]
   clear hst hke
   cases ff
   ·have HR0:Hid (R=0):=HR.out
    go_wp2
    go_ret
    exact⟨zDd HR0.out.symm,rfl⟩
   ·have HR1:Hid (R=clrN (ss+1) ss p ||| tt):=HR.out
    clear HR
    go_wp2_with fail
    go_loopw [1,5] (fun q s wx=>∃qq s2:Nat,q=.int .u64 (qq:Int)∧s=.int .u64 (s2:Int)∧Hid (qq<2 ^ 36)∧Hid (s2<2 ^ 36)∧Hid (R=clrN (s2+1) s2 qq ||| tt)∧wx=wr) (fun _ s _=>(intOf s).toNat)
    case atStart=>exact⟨p,ss,rfl,rfl,HP36,hs36,HR1,rfl⟩
    case round =>
     obtain⟨qq,s2,rfl,rfl,hq36,hs2,hr2,rfl⟩:=hrel
     by_cases hs0:s2=0
     ·have HRF:Hid (R=qq ||| tt):=by show _=_;rw[hr2.out,hs0];rfl
      have hor:=bits_or_u64_nat qq tt (by have:=hq36.out;omega) (by have:=ht36.out;omega)
      obtain⟨r,hr⟩:∃r,qq ||| tt=r:=⟨_,rfl⟩
      rw[hr] at hor HRF
      subst hs0
      clear hr hr2
      go_wp2
      go_ret
      exact⟨zDd HRF.out.symm,rfl⟩
     ·have HST:Hid (R=clrN (zAM s2 (zAV s2)+1) (zAM s2 (zAV s2)) (zAM qq (zAV s2)) ||| tt):=by show _=_;rw[hr2.out,zKH s2 qq hs0 hs2.out]
      have HLT:Hid (zAM s2 (zAV s2)<s2):=zBg s2 hs0 hs2.out
      have HF36:Hid (zAV s2<2 ^ 36):=zHf s2 hs0 hs2.out
      have HN0:Hid (s2≠0):=hs0
      have hne:((s2:Int) != 0)=true:=by simpa using hs0
      obtain⟨f,hf⟩:∃f,zAV s2=f:=⟨_,rfl⟩
      have HF:Hid (zAV s2=f):=hf
      rw[hf] at HST HLT HF36
      have hn1:=zAO qq f (by have:=hq36.out;omega) (by have:=HF36.out;omega)
      have hn2:=zAO s2 f (by have:=hs2.out;omega) (by have:=HF36.out;omega)
      obtain⟨q3,hq3⟩:∃q3,zAM qq f=q3:=⟨_,rfl⟩
      obtain⟨s3,hs3⟩:∃s3,zAM s2 f=s3:=⟨_,rfl⟩
      have HQ3:Hid (q3<2 ^ 36):=by rw[←hq3];exact zBN 36 _ _ hq36.out
      have HS3:Hid (s3<2 ^ 36):=by rw[←hs3];exact zBN 36 _ _ hs2.out
      rw[hq3] at hn1 HST
      rw[hs3] at hn2 HST HLT
      clear hf hq3 hs3 hs0 hr2
      go_wp2_with fail
      refine (zDO s2 HN0.out hs2.out _ HT.out).mono ?_
      rintro e w ⟨rfl,rfl⟩
      rw[HF.out]
      go_wp2_with fail
      refine (zDO s2 HN0.out hs2.out _ HT.out).mono ?_
      rintro e w ⟨rfl,rfl⟩
      rw[HF.out]
      go_wp2
      go_roundw
      case rel=>exact⟨q3,s3,rfl,rfl,HQ3,HS3,HST,trivial⟩
      case measure=>simp[intOf];exact HLT.out
end Go.Proofs.YtdjbejlbmaiocafGreatDoor
