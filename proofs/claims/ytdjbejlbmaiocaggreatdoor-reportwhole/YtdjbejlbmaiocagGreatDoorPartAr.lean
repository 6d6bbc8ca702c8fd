/- What the proof leans on, part 18. -/
import Derived.Test.YtdjbejlbmaiocagGreatDoorPartAo
import Derived.Test.YtdjbejlbmaiocagGreatDoorPartAj
import Derived.Test.YtdjbejlbmaiocagGreatDoorPartAn
import Derived.Test.YtdjbejlbmaiocagGreatDoorPartAp
import Derived.Test.YtdjbejlbmaiocagGreatDoorPartAb
import Derived.Deep.RegionLaw
import Derived.Deep.CutBlock
namespace Go.Proofs.YtdjbejlbmaiocagGreatDoor
open Go.RowKit
theorem zOV (p:Nat) (pts:List Nat) (k z:Nat) (s:Nat×Nat×Bool) (h:pts[k]? = some z):zCQ p (pts.drop k) s=zCQ p (pts.drop (k+1)) (if zAK z p=0 then (z,s.2.1 ||| z,true) else s):=by
 have hk:k<pts.length:=(List.getElem?_eq_some_iff.1 h).1
 have hc:pts[k]=z:=by rw[List.getElem?_eq_getElem hk] at h;exact Option.some.inj h
 rw[List.drop_eq_getElem_cons hk,hc]
 rfl
set_option maxHeartbeats 1600000 in
set_option maxRecDepth 100000 in
theorem zQA (pts:List Nat) (p:Nat) (hp36:p<2 ^ 36) (pv:Value) (w:World) (hp:PArg w pv pts) (hT:TabT w) :
 Calls Tryz.prog 250 #[pv,.int .u64 p] w fun e w'=>e=.returned (.int .u64 ((zBV pts p:Nat):Int))∧w'=w:=by
 have HT:Hid (TabT w):=hT
 have HP36:Hid (p<2 ^ 36):=hp36
 obtain⟨R,hR⟩:∃R,zBV pts p=R:=⟨_,rfl⟩
 obtain⟨S,hS⟩:∃S,zCQ p pts (0,0,false)=S:=⟨_,rfl⟩
 have HS:Hid (R=if S.2.2 then clrN (S.1+1) S.1 p ||| S.2.1 else 0):=by show _=_;rw[←hR,←hS];rfl
 have HS0:Hid (S=zCQ p pts (0,0,false)):=hS.symm
 rw[hR]
 obtain⟨a2,c2,rfl,hm,hrp⟩:=hp
 have HP:Hid (∀(i z:Nat),pts[i]? = some z→z<2 ^ 36∧∃b off,a2=some ⟨b,off,none⟩∧b<w.heap.size∧w.cell? ⟨b,off+i,none⟩=some (.int .u64 z)):=hrp
 unfold maxLen at hm
 obtain⟨hm1,hm⟩:=hm
 clear hT hR hS hrp hp36
 go_enter Tryz.func250,Tryz.ntmps250
 go_wp2_with fail
 go_loopw [5,6,7,12] (fun s t f i wr=>∃(k ss tt:Nat) (ff:Bool),k≤pts.length∧s=.int .u64 (ss:Int)∧t=.int .u64 (tt:Int)∧f=.bool ff∧i=.int .i64 k∧Hid (ss<2 ^ 36)∧Hid (tt<2 ^ 36)∧Hid (S=zCQ p (pts.drop k) (ss,tt,ff))∧wr=w) (fun _ _ _ i _=>pts.length - (intOf i).toNat)
 case atStart=>exact⟨0,0,0,false,by omega,rfl,rfl,rfl,rfl,by show _<_;decide,by show _<_;decide,HS0,rfl⟩
 case round =>
  obtain⟨k,ss,tt,ff,hk,rfl,rfl,rfl,rfl,hs36,ht36,hst,rfl⟩:=hrel
  by_cases hlt:k<pts.length
  ·obtain⟨z,hz⟩:∃z,pts[k]? = some z:=⟨pts[k],by simp[hlt]⟩
   obtain⟨hz36,b,off,ha,hb,hc⟩:=HP.out k z hz
   subst ha
   have HZ36:Hid (z<2 ^ 36):=hz36
   have HN:Hid (S=zCQ p (pts.drop (k+1)) (if zAK z p=0 then (z,tt ||| z,true) else (ss,tt,ff))):=by show _=_;rw[hst.out];exact zOV p pts k z _ hz
   have hnt:=zAg z p (by omega) (by have:=HP36.out;omega)
   obtain⟨o,ho⟩:∃o,zAK z p=o:=⟨_,rfl⟩
   rw[ho] at hnt HN
   clear hz hst ho
   by_cases ho0:o=0
   ·have HN2:Hid (S=zCQ p (pts.drop (k+1)) (z,tt ||| z,true)):=by show _=_;rw[HN.out,if_pos ho0]
    have hor:=bits_or_u64_nat tt z (by have:=ht36.out;omega) (by omega)
    have HT36:Hid (tt ||| z<2 ^ 36):=zHu ht36.out hz36
    obtain⟨t2,ht2⟩:∃t2,tt ||| z=t2:=⟨_,rfl⟩
    rw[ht2] at hor HT36 HN2
    subst ho0
    clear ht2 HN hz36
    go_wp2
    go_roundw
    case rel=>exact⟨k+1,z,t2,true,by omega,rfl,rfl,rfl,by go_num,HZ36,HT36,HN2,trivial⟩
    case measure=>simp[intOf];omega
   ·have HN2:Hid (S=zCQ p (pts.drop (k+1)) (ss,tt,ff)):=by show _=_;rw[HN.out,if_neg ho0]
    have ho1:((o:Int)==0)=false:=by simpa using ho0
    clear HN ho0 hz36
    go_wp2
    go_roundw
    case rel=>exact⟨k+1,ss,tt,ff,by omega,rfl,rfl,rfl,by go_num,hs36,ht36,HN2,trivial⟩
    case measure=>simp[intOf];omega
  ·have hke:k=pts.length:=by omega
   have HE:Hid (S=(ss,tt,ff)):=by show _=_;rw[hst.out,hke,List.drop_length];rfl
   have HR:Hid (R=if ff then clrN (ss+1) ss p ||| tt else 0):=by show _=_;rw[HS.out,HE.out]
   clear hst hke
   cases ff
   ·have HR0:Hid (R=0):=HR.out
    go_wp2
    go_ret
    exact⟨zGj HR0.out.symm,rfl⟩
   ·have HR1:Hid (R=clrN (ss+1) ss p ||| tt):=HR.out
    clear HR
    go_wp2_with fail
    go_loopw [1,5] (fun q s wx=>∃qq s2:Nat,q=.int .u64 (qq:Int)∧s=.int .u64 (s2:Int)∧Hid (qq<2 ^ 36)∧Hid (s2<2 ^ 36)∧Hid (R=clrN (s2+1) s2 qq ||| tt)∧wx=wr) (fun _ s _=>(intOf s).toNat)
    case atStart=>exact⟨p,ss,rfl,rfl,HP36,hs36,HR1,rfl⟩
    case round =>
     obtain⟨qq,s2,rfl,rfl,hq36,hs2,hr2,rfl⟩:=hrel
     by_cases hs0:s2=0
     ·have HRF:Hid (R=qq ||| tt):=by show _=_;rw[hr2.out,hs0];rfl
      have hor:=bits_or_u64_nat qq tt (by have:=hq36.out;omega) (by have:=ht36.out;omega)
      obtain⟨r,hr⟩:∃r,qq ||| tt=r:=⟨_,rfl⟩
      rw[hr] at hor HRF
      subst hs0
      clear hr hr2
      go_wp2
      go_ret
      exact⟨zGj HRF.out.symm,rfl⟩
     ·have HST:Hid (R=clrN (zAK s2 (zAf s2)+1) (zAK s2 (zAf s2)) (zAK qq (zAf s2)) ||| tt):=by show _=_;rw[hr2.out,zRe s2 qq hs0 hs2.out]
      have HLT:Hid (zAK s2 (zAf s2)<s2):=zDG s2 hs0 hs2.out
      have HF36:Hid (zAf s2<2 ^ 36):=zNb s2 hs0 hs2.out
      have HN0:Hid (s2≠0):=hs0
      have hne:((s2:Int) != 0)=true:=by simpa using hs0
      obtain⟨f,hf⟩:∃f,zAf s2=f:=⟨_,rfl⟩
      have HF:Hid (zAf s2=f):=hf
      rw[hf] at HST HLT HF36
      have hn1:=zAg qq f (by have:=hq36.out;omega) (by have:=HF36.out;omega)
      have hn2:=zAg s2 f (by have:=hs2.out;omega) (by have:=HF36.out;omega)
      obtain⟨q3,hq3⟩:∃q3,zAK qq f=q3:=⟨_,rfl⟩
      obtain⟨s3,hs3⟩:∃s3,zAK s2 f=s3:=⟨_,rfl⟩
      have HQ3:Hid (q3<2 ^ 36):=by rw[←hq3];exact zCO 36 _ _ hq36.out
      have HS3:Hid (s3<2 ^ 36):=by rw[←hs3];exact zCO 36 _ _ hs2.out
      rw[hq3] at hn1 HST
      rw[hs3] at hn2 HST HLT
      clear hf hq3 hs3 hs0 hr2
      go_wp2_with fail
      refine (zGJ s2 HN0.out hs2.out _ HT.out).mono ?_
      rintro e w ⟨rfl,rfl⟩
      rw[HF.out]
      go_wp2_with fail
      refine (zGJ s2 HN0.out hs2.out _ HT.out).mono ?_
      rintro e w ⟨rfl,rfl⟩
      rw[HF.out]
      go_wp2
      go_roundw
      case rel=>exact⟨q3,s3,rfl,rfl,HQ3,HS3,HST,trivial⟩
      case measure=>simp[intOf];exact HLT.out
structure RulesAt (w:World) (r:Nat) (sv pv cv:Value) (vs:List MVar) (pt:List (List Nat)) (cs:List Nat):Prop where
 lt:r<w.heap.size
 c0:w.cell? ⟨r,0,none⟩=some sv
 c1:w.cell? ⟨r,1,none⟩=some pv
 c2:w.cell? ⟨r,2,none⟩=some cv
 hv:VArg w sv vs
 hp:zFo w pv pt
 hc:PArg w cv cs
 tab:TabT w
theorem RulesAt.below {w w':World} {r:Nat} {sv pv cv:Value} {vs:List MVar} {pt:List (List Nat)} {cs:List Nat} (hb:Below w.heap.size w w') (h:RulesAt w r sv pv cv vs pt cs):RulesAt w' r sv pv cv vs pt cs :=
 ⟨Nat.lt_of_lt_of_le h.lt hb.size,(hb.cell (p:=⟨r,0,none⟩) h.lt).trans h.c0,(hb.cell (p:=⟨r,1,none⟩) h.lt).trans h.c1,(hb.cell (p:=⟨r,2,none⟩) h.lt).trans h.c2,VArg.below hb h.hv,zFo.below hb h.hp,PArg.below hb h.hc,h.tab.below hb⟩
structure Teller (F:Nat) (caps:Array Value) (vs:List MVar) (pt:List (List Nat)) (I:List (Nat×Nat×Nat)→World→Prop):Prop where
 enters:∀(args:Array Value) (w':World),Sem.run Tryz.prog (callFunc F args) w'=.ok (.enter F args) w'
 below:∀T w w',I T w→Below w.heap.size w w'→I T w'
 call:∀(T:List (Nat×Nat×Nat)) (con b a:Nat) (w:World),I T w→T.length≤36→con<pt.length→(∀i,b.testBit i=true→(zAC vs).testBit i=true)→(∀i,a.testBit i=true→b.testBit i=true) →
  Calls Tryz.prog F (#[.int .i64 con,.int .u64 b,.int .u64 a]++caps) w fun e w'=>e=.returned (.tuple #[])∧I (T++[(con,b,a)]) w'
theorem zQB {pt:List (List Nat)} {k l:Nat} {pts:List Nat} (h:pt[k]? = some pts):zA3 (pt.drop k) l=(if l=0 then l else zA3 (pt.drop (k+1)) (zBV pts l)) ∧
 zDh k (pt.drop k) l=if l=0 then [] else (if zBV pts l=l then [] else [(k,l,zBV pts l)])++zDh (k+1) (pt.drop (k+1)) (zBV pts l):=by
 have hk:k<pt.length:=(List.getElem?_eq_some_iff.1 h).1
 have hc:pt[k]=pts:=by rw[List.getElem?_eq_getElem hk] at h;exact Option.some.inj h
 rw[List.drop_eq_getElem_cons hk,hc]
 exact⟨rfl,rfl⟩
theorem zKx (pt:List (List Nat)) (k:Nat):zA3 pt 0=0∧zDh k pt 0=[]:=by
 cases pt <;> exact⟨rfl,rfl⟩
set_option maxHeartbeats 3200000 in
set_option maxRecDepth 100000 in
theorem zJH (vs:List MVar) (hva:zAR vs) (hn1:1≤vs.length) (cs:List Nat) (pt:List (List Nat)) (h:Nat) (hh:h<2 ^ 36) (r:Nat) (sv pv cv:Value) (F:Nat) (caps:Array Value)
 (I:List (Nat×Nat×Nat)→World→Prop) (hF:Teller F caps vs pt I) (hR:∀T w,I T w→RulesAt w r sv pv cv vs pt cs) (w:World) (hI:I [] w) :
 Calls Tryz.prog 191 #[.pointer (some ⟨r,0,none⟩),.int .u64 h,.func (.func F) #[] caps] w fun e w'=>e=.returned (.int .u64 ((zBW vs cs pt h:Nat):Int))∧I (zHi vs cs pt h) w':=by
 have HF:Hid (Teller F caps vs pt I):=hF
 have HRU:Hid (∀T w,I T w→RulesAt w r sv pv cv vs pt cs):=hR
 have HI:Hid (I [] w):=hI
 have HVO:Hid (zAR vs):=hva
 have H6:Hid (vs.length≤6):=hva.1.1
 have H1:Hid (1≤vs.length):=hn1
 have HW36:Hid (zAC vs<2 ^ 36):=zF6 vs hva.1 _
 obtain⟨q,hq⟩:∃q,zAC vs=q:=⟨_,rfl⟩
 obtain⟨l0,hl0⟩:∃l0,zAK (zAC vs) h=l0:=⟨_,rfl⟩
 have HSUB:Hid (∀i,l0.testBit i=true→(zAC vs).testBit i=true):=fun i hi=>by
  rw[←hl0,zAP,Bool.and_eq_true] at hi
  exact hi.1
 have HL36:Hid (l0<2 ^ 36):=by rw[←hl0];exact zCO 36 _ _ HW36.out
 have hbits:=zAg (zAC vs) h (by have:=HW36.out;omega) (by omega)
 rw[hl0,hq] at hbits
 have HQ:Hid (zAC vs=q):=hq
 obtain⟨R,hRR⟩:∃R,zBW vs cs pt h=R:=⟨_,rfl⟩
 obtain⟨TT,hTT⟩:∃TT,zHi vs cs pt h=TT:=⟨_,rfl⟩
 have HS:Hid (if 0=l0 then R=l0∧TT=[] else R=zBP vs cs pt (l0+1) l0∧TT=[]++zB3 vs cs pt (l0+1) l0):=by
  show (if _ then _ else _)
  rw[←hRR,←hTT]
  unfold zBW zHi
  rw[hl0]
  by_cases h0:l0=0
  ·rw[if_pos h0.symm,if_pos h0,if_pos h0];exact⟨h0.symm,rfl⟩
  ·rw[if_neg (fun e=>h0 e.symm),if_neg h0,if_neg h0];exact⟨rfl,rfl⟩
 rw[hRR,hTT]
 have hRA:=hR [] w hI
 have g0:=hRA.c0
 have g1:=hRA.c1
 have g2:=hRA.c2
 have HRA:Hid (RulesAt w r sv pv cv vs pt cs):=hRA
 obtain⟨a,c,rfl,_,_⟩:=hRA.hv
 obtain⟨a1,c1,rfl,hm,_⟩:=hRA.hp
 obtain⟨a2,c2,rfl,_,_⟩:=hRA.hc
 unfold maxLen at hm
 obtain⟨hm1,hm⟩:=hm
 clear hF hR hI hva hn1 hh hq hl0 hRR hTT hRA
 go_enter Tryz.func191,Tryz.ntmps191
 go_wp2_with fail
 refine (zGI vs HVO.out _ _ HRA.out.hv).mono ?_
 rintro e w1 ⟨rfl,hb1⟩
 rw[HQ.out]
 have HI1:Hid (I [] w1):=HF.out.below _ _ _ HI.out hb1
 clear hb1 g0 g1 g2 HI HRA
 go_wp2_with fail
 go_loopw [7,8] (fun l b wr=>∃(bb ll:Nat) (T:List (Nat×Nat×Nat)),l=.int .u64 (ll:Int)∧b=.int .u64 (bb:Int)∧Hid (ll<2 ^ 36)∧Hid (∀i,ll.testBit i=true→(zAC vs).testBit i=true)∧Hid (if bb=ll then R=ll∧TT=T else R=zBP vs cs pt (ll+1) ll∧TT=T++zB3 vs cs pt (ll+1) ll)∧Hid (T.length+zFl ll≤36)∧Hid (I T wr)) (fun l b _=>if intOf b=intOf l then 0 else (intOf l).toNat+1)
 case atStart=>exact⟨0,l0,[],rfl,rfl,HL36,HSUB,HS,by show _≤_;have:=zMB l0;simpa using this,HI1⟩
 case round =>
  obtain⟨bb,ll,T,rfl,rfl,hl36,hls,hst,hbt,hi⟩:=hrel
  by_cases hbl:bb=ll
  ·have HN:Hid (R=ll∧TT=T):=by have:=hst.out;rw[if_pos hbl] at this;exact this
   have hne:((bb:Int) != (ll:Int))=false:=by simp[hbl]
   clear hst hbl
   go_wp2
   go_ret
   exact⟨zGj HN.out.1.symm,by rw[HN.out.2];exact hi.out⟩
  ·obtain⟨U,hU⟩:∃U,zAc vs cs ll=U:=⟨_,rfl⟩
   have HUE:Hid (zAc vs cs ll=U):=hU
   have HN:Hid (R=(if zA3 pt U=ll then ll else zBP vs cs pt (zA3 pt U+1) (zA3 pt U))∧TT=T++(zDh 0 pt U++if zA3 pt U=ll then [] else zB3 vs cs pt (zA3 pt U+1) (zA3 pt U))):=by
    show _∧_
    have h1:=hst.out
    rw[if_neg hbl] at h1
    have h2:=zL9 vs cs pt ll hl36.out
    rw[hU] at h2
    rw[h1.1,h1.2,h2.1,h2.2]
    exact⟨rfl,rfl⟩
   have HUL:Hid (U≤ll):=by rw[←hU];exact zDF vs cs ll
   have HUS:Hid (∀i,U.testBit i=true→(zAC vs).testBit i=true):=fun i hx=>hls.out i (zC8 vs cs ll i (by rw[hU];exact hx))
   have HUB:Hid (T.length+zFl U≤36):=by have h1:=hbt.out;have h2:=zNR U ll (fun i hx=>zC8 vs cs ll i (by rw[hU];exact hx));show _≤_;omega
   have HU36:Hid (U<2 ^ 36):=by have:=HUL.out;have:=hl36.out;show _<_;omega
   have HBL:Hid (bb≠ll):=hbl
   have hne:((bb:Int) != (ll:Int))=true:=by simp;omega
   have hRA:=HRU.out T wr hi.out
   have g0:=hRA.c0
   have g2:=hRA.c2
   have gl:=hRA.lt
   have HUN:Hid (∀Y,Below wr.heap.size wr Y→Calls Tryz.prog 190 #[.slice a (List.length vs) c,.slice a2 (List.length cs) c2,.int .u64 (ll:Int)] Y fun e w'=>e=.returned (.int .u64 (U:Int))∧Below Y.heap.size Y w'):=fun Y hY=>by
    rw[←HUE.out]
    have hRY:=RulesAt.below hY (HRU.out T wr hi.out)
    exact (zKr vs H6.out H1.out cs ll hl36.out _ _ _ hRY.hv hRY.hc hRY.tab).mono fun _ _ ⟨h1,h2⟩=>⟨h1,by rw[h2];exact Below.refl _ _⟩
   clear hst hbl hU hRA
   go_upto_region 5 with (fail)
   clear hne
   go_region_held3 (fun w'=>Below wr.heap.size wr w'∧w'.cell? ⟨r,0,none⟩=some (.slice a (List.length vs) c)∧w'.cell? ⟨r,2,none⟩=some (.slice a2 (List.length cs) c2))
    ((refine (fun (hB:Below wr.heap.size wr _)=>⟨hB,(hB.cell (p:=⟨r,0,none⟩) gl).trans g0,(hB.cell (p:=⟨r,2,none⟩) gl).trans g2⟩:Below wr.heap.size wr _→_) ?_;first | exact (Below.refl _ _).drew | exact zCJ (by assumption) hbq))
    (first
     | (go_at_call 190;refine (HUN.out _ (show Below wr.heap.size wr _∧_ by assumption).1).mono ?_;rintro e w3 ⟨rfl,hbq⟩;have hB3:=zCJ (by assumption) hbq))
   have HI3:Hid (I T w3):=HF.out.below _ _ _ hi.out hB3
   clear hbq hB3 g0 g2 gl hi
   go_wp2_with fail
   go_loopw [7,9] (fun l i wx=>∃(k l2:Nat) (T2:List (Nat×Nat×Nat)),k≤pt.length∧i=.int .i64 k∧l=.int .u64 (l2:Int)∧Hid (l2<2 ^ 36)∧Hid (∀i,l2.testBit i=true→(zAC vs).testBit i=true)∧Hid (zA3 pt U=zA3 (pt.drop k) l2∧T++zDh 0 pt U=T2++zDh k (pt.drop k) l2)∧Hid (T2.length+zFl l2≤36)∧Hid (I T2 wx)) (fun _ i _=>pt.length - (intOf i).toNat)
   case atStart=>exact⟨0,U,T,by omega,rfl,rfl,HU36,HUS,⟨rfl,rfl⟩,HUB,HI3⟩
   case round =>
    obtain⟨k,l2,T2,hk,rfl,rfl,hl2,hs2,hst,hbt2,hi⟩:=hrel
    have hRA:=HRU.out T2 wr hi.out
    have HRA:Hid (RulesAt wr r _ _ _ vs pt cs):=hRA
    have g0:=hRA.c0
    have g1:=hRA.c1
    by_cases hfin:k<pt.length∧l2≠0
    ·obtain⟨hlt,hl0⟩:=hfin
     obtain⟨pts,hpts⟩:∃pts,pt[k]? = some pts:=⟨pt[k],by simp[hlt]⟩
     obtain⟨a5,c5,he5,_,hr5⟩:=hRA.hp
     obtain⟨b,off,x,ha5,hb5,hc5,hx5⟩:=hr5 k pts hpts
     have HX5:Hid (PArg wr x pts):=hx5
     obtain⟨a6,c6,rfl,_,_⟩:=hx5
     rw[ha5] at he5
     have HST:=zQB (l:=l2) hpts
     rw[if_neg hl0,if_neg hl0] at HST
     obtain⟨A,hA⟩:∃A,zBV pts l2=A:=⟨_,rfl⟩
     have HAE:Hid (zBV pts l2=A):=hA
     have HAL:Hid (A≤l2):=by rw[←hA];exact zFj pts l2 hl2.out
     have HAS:Hid (∀i,A.testBit i=true→l2.testBit i=true):=fun i hx=>zEQ pts l2 i hl2.out (by rw[hA];exact hx)
     have HAB:Hid (T2.length+zFl A≤36):=by have h1:=hbt2.out;have h2:=zNR A l2 HAS.out;show _≤_;omega
     have HTL:Hid (T2.length≤36):=by have h1:=hbt2.out;show _≤_;omega
     have HAN:Hid (A≠l2→(T2++[(k,l2,A)]).length+zFl A≤36):=fun hq=>by have h1:=hbt2.out;have h2:=zKf A l2 hl2.out HAS.out hq;rw[List.length_append];simp;omega
     have HA36:Hid (A<2 ^ 36):=by have:=HAL.out;have:=hl2.out;show _<_;omega
     rw[hA] at HST
     have HST2:Hid (zA3 pt U=zA3 (pt.drop (k+1)) A∧T++zDh 0 pt U=T2++((if A=l2 then [] else [(k,l2,A)])++zDh (k+1) (pt.drop (k+1)) A)):=by
      have h1:=hst.out
      rw[HST.1,HST.2] at h1
      exact h1
     injection he5 with he5 _ _
     subst he5
     have hl0':((l2:Int) != 0)=true:=by simpa using hl0
     have hz2:Hid (∀i,A.testBit i=true→(zAC vs).testBit i=true):=fun i hx=>hs2.out i (HAS.out i hx)
     clear HST hA hst hr5 hRA hpts hl0
     go_wp2_with fail
     refine (zQA pts l2 hl2.out _ _ HX5.out HRA.out.tab).mono ?_
     rintro e wr ⟨rfl,rfl⟩
     rw[HAE.out]
     by_cases hAl:A=l2
     ·have HN2:Hid (zA3 pt U=zA3 (pt.drop (k+1)) A∧T++zDh 0 pt U=T2++zDh (k+1) (pt.drop (k+1)) A):=by
       have h1:=HST2.out
       rw[if_pos hAl,List.nil_append] at h1
       exact h1
      have hne:((A:Int) != (l2:Int))=false:=by simp[hAl]
      clear HST2 hAl
      go_wp2
      go_roundw
      case rel=>exact⟨k+1,A,T2,by omega,by go_num,rfl,HA36,hz2,HN2,HAB,hi⟩
      case measure=>simp[intOf];omega
     ·have HN2:Hid (zA3 pt U=zA3 (pt.drop (k+1)) A∧T++zDh 0 pt U=(T2++[(k,l2,A)])++zDh (k+1) (pt.drop (k+1)) A):=by
       have h1:=HST2.out
       rw[if_neg hAl,←List.append_assoc] at h1
       exact h1
      have hne:((A:Int) != (l2:Int))=true:=by simp;omega
      have HAN2:Hid ((T2++[(k,l2,A)]).length+zFl A≤36):=HAN.out hAl
      clear HST2 hAl
      have HCL:Hid (Calls Tryz.prog F (#[.int .i64 k,.int .u64 l2,.int .u64 A]++caps) wr fun e w'=>e=.returned (.tuple #[])∧I (T2++[(k,l2,A)]) w'):=HF.out.call T2 k l2 A wr hi.out HTL.out hlt hs2.out HAS.out
      go_wp2_with fail
      rw[HF.out.enters,Oper.upon_enter]
      refine HCL.out.mono ?_
      rintro e w4 ⟨rfl,hi4⟩
      have HI4:Hid (I (T2++[(k,l2,A)]) w4):=hi4
      clear hi4 g0 g1 hc5 HCL
      go_wp2
      go_roundw
      case rel=>exact⟨k+1,A,T2++[(k,l2,A)],by omega,by go_num,rfl,HA36,hz2,HN2,HAN2,HI4⟩
      case measure=>simp[intOf];omega
    ·have HE:Hid (zA3 pt U=l2∧T++zDh 0 pt U=T2):=by
      have h1:=hst.out
      by_cases hlt:k<pt.length
      ·have h0:l2=0:=Classical.byContradiction fun hne=>hfin ⟨hlt,hne⟩
       rw[h0,(zKx _ k).1,(zKx _ k).2,List.append_nil] at h1
       rw[h0];exact h1
      ·rw[show k=pt.length by omega,List.drop_length] at h1
       obtain⟨h2,h3⟩:=h1
       have e:T2++zDh pt.length [] l2=T2:=by simp[zDh]
       rw[e] at h3
       exact⟨h2,h3⟩
     have HLE:Hid (l2≤ll):=by
      rw[←HE.out.1]
      exact Nat.le_trans (zF9 pt U HU36.out) HUL.out
     have HU2:Hid (if ll=l2 then R=l2∧TT=T2 else R=zBP vs cs pt (l2+1) l2∧TT=T2++zB3 vs cs pt (l2+1) l2):=by
      show (if _ then _ else _)
      obtain⟨h1,h2⟩:=HN.out
      rw[←List.append_assoc,HE.out.2] at h2
      rw[HE.out.1] at h1 h2
      by_cases hq:ll=l2
      ·rw[if_pos hq.symm] at h1 h2
       rw[if_pos hq,h1,h2,List.append_nil]
       exact⟨hq,rfl⟩
      ·rw[if_neg (fun h=>hq h.symm)] at h1 h2
       rw[if_neg hq,h1,h2]
       exact⟨rfl,rfl⟩
     have HM:Hid ((if (ll:Int)=(l2:Int) then 0 else (l2:Int).toNat+1)<(if (bb:Int)=(ll:Int) then 0 else (ll:Int).toNat+1)):=by
      show _<_
      have h1:=HBL.out
      have h2:=HLE.out
      have e:(if (bb:Int)=(ll:Int) then 0 else (ll:Int).toNat+1)=(ll:Int).toNat+1:=if_neg (by omega)
      rw[e]
      split <;> omega
     by_cases hlt:k<pt.length
     ·have h0:l2=0:=Classical.byContradiction fun hne=>hfin ⟨hlt,hne⟩
      subst h0
      clear hst hfin
      go_wp2
      go_roundw
      case rel=>exact⟨ll,0,T2,rfl,rfl,hl2,hs2,HU2,hbt2,hi⟩
      case measure=>exact HM.out
     ·clear hst hfin
      go_wp2
      go_roundw
      case rel=>exact⟨ll,l2,T2,rfl,rfl,hl2,hs2,HU2,hbt2,hi⟩
      case measure=>exact HM.out
structure Fr (X:Nat→Prop) (w w':World):Prop where
 os:w'.os=w.os
 tape:w'.tape=w.tape
 output:w'.output=w.output
 size:w.heap.size≤w'.heap.size
 block:∀k,k<w.heap.size→¬X k→w'.heap[k]? = w.heap[k]?
theorem Fr.refl (X:Nat→Prop) (w:World):Fr X w w:=⟨rfl,rfl,rfl,Nat.le_refl _,fun _ _ _=>rfl⟩
theorem Fr.trans {X:Nat→Prop} {a b c:World} (h:Fr X a b) (k:Fr X b c):Fr X a c :=
 ⟨k.os.trans h.os,k.tape.trans h.tape,k.output.trans h.output,Nat.le_trans h.size k.size,fun i hi hx=>(k.block i (Nat.lt_of_lt_of_le hi h.size) hx).trans (h.block i hi hx)⟩
theorem Fr.below {X:Nat→Prop} {w w':World} (h:Below w.heap.size w w'):Fr X w w':=⟨h.os,h.tape,h.output,h.size,fun k hk _=>h.block k hk⟩
theorem Fr.cell {X:Nat→Prop} {w w':World} (h:Fr X w w') {p:Addr} (hp:p.block<w.heap.size) (hx:¬X p.block):w'.cell? p=w.cell? p:=World.cell?_of_block (w:=w) (h.block p.block hp hx)
theorem Fr.setX {X:Nat→Prop} {a w:World} (h:Fr X a w) {p:Addr} (hp:X p.block) (u:Value):Fr X a (w.setCell p u) :=
 ⟨h.os,h.tape,h.output,by simpa using h.size,fun k hk hx=>(Below.heap_setCell _ _ _ _ (fun e=>hx (by rw[e];exact hp))).trans (h.block k hk hx)⟩
theorem Fr.setNew {X:Nat→Prop} {a w:World} (h:Fr X a w) {p:Addr} (hp:a.heap.size≤p.block) (u:Value):Fr X a (w.setCell p u) :=
 ⟨h.os,h.tape,h.output,by simpa using h.size,fun k hk hx=>(Below.heap_setCell _ _ _ _ (by omega)).trans (h.block k hk hx)⟩
theorem Fr.alloc {X:Nat→Prop} {a w:World} (h:Fr X a w) (o:Obj):Fr X a (w.alloc o):=h.trans (Fr.below (zAA _ _))
theorem blk9 {w:World} {b:Nat} {cs:Array Value} {t:TypeId} (h:w.heap[b]? = some (.cells cs t)) (i:Nat) (v:Value) (hv:cs[i]? = some v):w.cell? ⟨b,i,none⟩=some v:=by
 rw[Lib.cell_of_heap h];exact hv
theorem frz9 {w:World} {b:Nat} {cs:Array Value} {t:TypeId} (h:w.heap[b]? = some (.cells cs t)) (i:Nat):w.frozen? ⟨b,i,none⟩=false:=by
 unfold World.frozen?
 simp only[h]
 simp
theorem zAs {w:World} {B:Nat} {e t:TypeId} {size n:Nat} {v:Value} {xs:List Value} (h:w.ownsRow B e size v n xs) {C:Nat} {cs:Array Value} (hC:w.heap[C]? = some (.cells cs t)) (ht:t≠e) (i:Nat) (u:Value):(w.setCell ⟨C,i,none⟩ u).ownsRow B e size v n xs:=by
 refine⟨h.1,?_⟩
 rcases h.2 with hn | ⟨g,cap,cur,hv,hg,hh,r⟩
 ·exact .inl hn
 ·have hne:g≠C:=by
   intro e1
   rw[e1,hC] at hh
   injection hh with h1
   injection h1 with _ h2
   exact ht h2
  exact .inr ⟨g,cap,cur,hv,hg,(Below.heap_setCell _ _ _ _ hne).trans hh,r⟩
theorem Fr.weak {X Y:Nat→Prop} {w w':World} (h:Fr X w w') (hXY:∀k,X k→Y k):Fr Y w w':=⟨h.os,h.tape,h.output,h.size,fun k hk hx=>h.block k hk fun hX=>hx (hXY k hX)⟩
theorem Fr.grown {X:Nat→Prop} {a w w':World} {row:Option Nat} (h:Fr X a w) (hg:w.grownBy w' row) (hr:∀k,row=some k→X k∨a.heap.size≤k):Fr X a w' :=
 ⟨hg.os.trans h.os,hg.tape.trans h.tape,hg.output.trans h.output,Nat.le_trans h.size hg.size,fun k hk hx=>(hg.block k (Nat.lt_of_lt_of_le hk h.size) (fun e=>(hr k e.symm).elim hx (fun h2=>by omega))).trans (h.block k hk hx)⟩
theorem Fr.toBelow {w w':World} (h:Fr (fun k=>w.heap.size≤k) w w'):Below w.heap.size w w':=⟨h.os,h.tape,h.output,h.size,fun k hk=>h.block k hk (by omega)⟩
theorem zEz {w:World} {B B':Nat} {e e':TypeId} {s s' n n':Nat} {v v':Value} {xs xs':List Value} (h:w.ownsRow B e s v n xs) (h':w.ownsRow B' e' s' v' n' xs') (hne:e≠e'):v.ownBlock=none∨v.ownBlock≠v'.ownBlock:=by
 rcases h.2 with ⟨rfl,_⟩ | ⟨g,cap,cur,rfl,hg,hh,_⟩
 ·exact Or.inl rfl
 ·right
  intro he
  rcases h'.2 with ⟨rfl,_⟩ | ⟨g',cap',cur',rfl,hg',hh',_⟩
  ·cases he
  ·have:g=g':=by injection he
   subst this
   rw[hh] at hh'
   injection hh' with h1
   injection h1 with _ h2
   exact hne h2
theorem zBT {w w':World} {B B':Nat} {e e':TypeId} {s s' n n':Nat} {v v':Value} {xs xs':List Value} (h:w.ownsRow B e s v n xs) (hg:w.grownBy w' v'.ownBlock) (h':w.ownsRow B' e' s' v' n' xs') (hne:e≠e'):w'.ownsRow B e s v n xs :=
 h.kept hg (zEz h h' hne)
theorem zBe {w w':World} {B:Nat} {e:TypeId} {s n:Nat} {v:Value} {xs:List Value} {r:Nat} {cs:Array Value} {t:TypeId} (h:w.heap[r]? = some (.cells cs t)) (hg:w.grownBy w' v.ownBlock) (h':w.ownsRow B e s v n xs) (hne:t≠e):w'.heap[r]? = some (.cells cs t):=by
 have hlt:r<w.heap.size:=(Array.getElem?_eq_some_iff.1 h).1
 refine (hg.block r hlt ?_).trans h
 ·intro he
  rcases h'.2 with ⟨rfl,_⟩ | ⟨g,cap,cur,rfl,_,hh,_⟩
  ·cases he
  ·have:g=r:=by injection he with e1;exact e1.symm
   subst this
   rw[hh] at h
   injection h with h1
   injection h1 with _ h2
   exact hne h2.symm
theorem Tryz.infoPts:(Tryz.prog.info? 180).map (fun i=>(i.zero,i.size,i.bytes))=some (some (.slice none 0 0),1,24):=by kernel_rfl
theorem Tryz.underPts:Tryz.prog.underlying 198=some (.slice 180):=by kernel_rfl
theorem Tryz.underPart:Tryz.prog.underlying 180=some (.slice 183):=by kernel_rfl
def PRow (B:Nat) (w:World) (pv:Value) (L:List (List Nat)):Prop :=
 ∃cells,w.ownsRow B 180 1 pv L.length cells∧∀(i:Nat) (pts:List Nat),L[i]? = some pts→∃x,cells[i]? = some x∧w.ownsRow B 183 1 x pts.length (u64s pts)
theorem PRow.below {B:Nat} {w w':World} {pv:Value} {L:List (List Nat)} (h:PRow B w pv L) (hb:Below w.heap.size w w'):PRow B w' pv L:=by
 obtain⟨cells,h1,h2⟩:=h
 refine⟨cells,zAD h1 hb,fun i pts hi=>?_⟩
 obtain⟨x,h3,h4⟩:=h2 i pts hi
 exact⟨x,h3,zAD h4 hb⟩
theorem zGl {X:Nat→Prop} {w w':World} {B:Nat} {e:TypeId} {s n:Nat} {v:Value} {xs:List Value} (h:w.ownsRow B e s v n xs) (hf:Fr X w w') (hx:∀g,v.ownBlock=some g→¬X g):w'.ownsRow B e s v n xs:=by
 refine⟨h.1,?_⟩
 rcases h.2 with hn | ⟨g,cap,cur,hv,hg,hh,r⟩
 ·exact .inl hn
 ·exact .inr ⟨g,cap,cur,hv,hg,(hf.block g (Array.getElem?_eq_some_iff.1 hh).1 (hx g (by rw[hv];rfl))).trans hh,r⟩
theorem PRow.fr {X:Nat→Prop} {B:Nat} {w w':World} {pv:Value} {L:List (List Nat)} (h:PRow B w pv L) (hf:Fr X w w') (hx:∀g,X g→g<B):PRow B w' pv L:=by
 obtain⟨cells,h1,h2⟩:=h
 refine⟨cells,zGl h1 hf (fun g hg hX=>?_),fun i pts hi=>?_⟩
 ·have:=(h1.lt g hg).1
  have:=hx g hX
  omega
 ·obtain⟨x,h3,h4⟩:=h2 i pts hi
  refine⟨x,h3,zGl h4 hf (fun g hg hX=>?_)⟩
  have:=(h4.lt g hg).1
  have:=hx g hX
  omega
theorem PRow.arg {B:Nat} {w:World} {pv:Value} {L:List (List Nat)} (h:PRow B w pv L) (hl:∀pts∈L,∀z∈pts,z<2 ^ 36):zFo w pv L:=by
 obtain⟨cells,h1,h2⟩:=h
 rcases h1.2 with ⟨rfl,hn⟩ | ⟨g,cap,cur,rfl,hg,hh,hc1,hc2,_,_⟩
 ·have:L=[]:=List.eq_nil_of_length_eq_zero hn
  subst this
  exact⟨none,0,rfl,⟨Nat.le_refl _,Nat.zero_le _⟩,fun i z hz=>by simp at hz⟩
 ·refine⟨_,cap,rfl,⟨hc1,hc2⟩,fun i pts hi=>?_⟩
  obtain⟨x,h3,h4⟩:=h2 i pts hi
  have hil:i<L.length:=(List.getElem?_eq_some_iff.1 hi).1
  exact⟨g,0,x,rfl,(Array.getElem?_eq_some_iff.1 hh).1,by rw[Nat.zero_add,h1.cellAt i (by omega)];exact h3,zEB h4 (hl pts (List.mem_of_getElem? hi))⟩
theorem PRow.push {B:Nat} {w w':World} {pv v' x:Value} {L:List (List Nat)} {cells:List Value} {pts:List Nat} {n:Nat} (hc:w.ownsRow B 180 1 pv L.length cells) (h2:∀(i:Nat) (p:List Nat),L[i]? = some p→∃x,cells[i]? = some x∧w.ownsRow B 183 1 x p.length (u64s p))
 (hx:w.ownsRow B 183 1 x pts.length (u64s pts)) (hg:w.grownBy w' pv.ownBlock) (hn:n=L.length+1) (ho:w'.ownsRow B 180 1 v' n (cells++[x])):PRow B w' v' (L++[pts]):=by
 have hcl:cells.length=L.length:=by have:=hc.1;omega
 refine⟨cells++[x],by rw[List.length_append];rw[hn] at ho;exact ho,fun i p hi=>?_⟩
 by_cases hil:i<L.length
 ·rw[List.getElem?_append_left hil] at hi
  obtain⟨y,h3,h4⟩:=h2 i p hi
  exact⟨y,by rw[List.getElem?_append_left (by omega)];exact h3,zBT h4 hg hc (by decide)⟩
 ·have hlen:=(List.getElem?_eq_some_iff.1 hi).1
  rw[List.length_append] at hlen
  have:i=L.length:=by simp at hlen;omega
  subst this
  rw[List.getElem?_append_right (Nat.le_refl _),Nat.sub_self] at hi
  have:pts=p:=by simpa using hi
  subst this
  exact⟨x,by rw[List.getElem?_append_right (by omega),hcl,Nat.sub_self];rfl,zBT hx hg hc (by decide)⟩
structure Rul (W:World) (r:Nat) (sv pv:Value) (vs:List MVar) (pt:List (List Nat)):Prop where
 lt:r<W.heap.size
 keep:∀w',Fr (fun k=>k=r) W w'→VArg w' sv vs∧zFo w' pv pt∧TabT w'
structure RulD (W w:World) (r:Nat) (sv pv cv:Value) (cs:List Nat):Prop where
 blk:w.heap[r]? = some (.cells #[sv,pv,cv] 204)
 own:w.ownsRow W.heap.size 183 1 cv cs.length (u64s cs)
 lt36:∀z∈cs,z<2 ^ 36
 fr:Fr (fun k=>k=r) W w
theorem RulD.at {W w:World} {r:Nat} {sv pv cv:Value} {vs:List MVar} {pt:List (List Nat)} {cs:List Nat} (h:RulD W w r sv pv cv cs) (hr:Rul W r sv pv vs pt):RulesAt w r sv pv cv vs pt cs :=
 ⟨(Array.getElem?_eq_some_iff.1 h.blk).1,blk9 h.blk 0 _ rfl,blk9 h.blk 1 _ rfl,blk9 h.blk 2 _ rfl,(hr.keep w h.fr).1,(hr.keep w h.fr).2.1,zEB h.own h.lt36,(hr.keep w h.fr).2.2⟩
theorem RulD.below {W w w':World} {r:Nat} {sv pv cv:Value} {cs:List Nat} (h:RulD W w r sv pv cv cs) (hb:Below w.heap.size w w'):RulD W w' r sv pv cv cs :=
 ⟨(hb.block r (Array.getElem?_eq_some_iff.1 h.blk).1).trans h.blk,zAD h.own hb,h.lt36,h.fr.trans (Fr.below hb)⟩
theorem zJI (w:World) (z:Nat):∀(j:Nat) (u:Value),([Value.int .u64 (z:Int)]:List Value)[j]? = some u→(w.alloc (.cells #[.int .u64 (z:Int)] 183)).cell? ((⟨w.heap.size,0,none⟩:Addr).add j)=some u:=by
 intro j u hj
 match j,hj with
 | 0,hj=>simp at hj;subst hj;simp[Addr.add]
theorem zRv (w:World) (x:Value):∀(j:Nat) (u:Value),([x]:List Value)[j]? = some u→(w.alloc (.cells #[x] 180)).cell? ((⟨w.heap.size,0,none⟩:Addr).add j)=some u:=by
 intro j u hj
 match j,hj with
 | 0,hj=>simp at hj;subst hj;simp[Addr.add]
theorem RulD.push {W w w1 w2:World} {r:Nat} {sv pv cv v':Value} {cs:List Nat} {z n:Nat} (h:RulD W w r sv pv cv cs) (hz:z<2 ^ 36) (hb:Below w.heap.size w w1) (hg:w1.grownBy w2 cv.ownBlock) (hn:n=cs.length+1) (ho:w2.ownsRow W.heap.size 183 1 v' n (u64s cs++[.int .u64 (z:Int)])) :
 RulD W (w2.setCell ⟨r,2,none⟩ v') r sv pv v' (cs++[z])∧Fr (fun k=>k=r∨cv.ownBlock=some k) w (w2.setCell ⟨r,2,none⟩ v'):=by
 have h1:=h.below hb
 have hb2:w2.heap[r]? = some (.cells #[sv,pv,cv] 204):=zBe h1.blk hg h1.own (by decide)
 have ho2:w2.ownsRow W.heap.size 183 1 v' (cs++[z]).length (u64s (cs++[z])):=by
  rw[List.length_append,List.length_singleton,←hn]
  unfold u64s at *
  rw[List.map_append];exact ho
 refine⟨⟨?_,zAs ho2 hb2 (by decide) 2 _,fun y hy=>?_,?_⟩,?_⟩
 ·rw[heap_setCell_same w2 r 2 _ _ v' hb2];rfl
 ·rcases List.mem_append.1 hy with h3 | h3
  ·exact h.lt36 y h3
  ·rw[List.mem_singleton.1 h3];exact hz
 ·exact (h1.fr.grown hg (fun k hk=>Or.inr ((h1.own.lt k hk).1))).setX (p:=⟨r,2,none⟩) rfl _
 ·exact Fr.setX (X:=fun k=>k=r∨cv.ownBlock=some k) ((Fr.below hb).grown hg (fun k hk=>Or.inl (Or.inr hk))) (p:=⟨r,2,none⟩) (Or.inl rfl) _
set_option maxHeartbeats 3200000 in
set_option maxRecDepth 100000 in
theorem zQC (vs:List MVar) (hva:zAR vs) (pt:List (List Nat)) (cs:List Nat) (hcs:cs.length≤100000) (cl:Cla) (W:World) (r:Nat) (sv pv cv u:Value) (w:World) (hR:Rul W r sv pv vs pt) (hD:RulD W w r sv pv cv cs) (hu:LArg w u cl) :
 Calls Tryz.prog 88 #[.pointer (some ⟨r,0,none⟩),u] w fun e w'=>e=.returned (.tuple #[])∧∃cv',RulD W w' r sv pv cv' (cs++[zAF vs cl])∧Fr (fun k=>k=r∨cv.ownBlock=some k) w w':=by
 obtain⟨i0,hi0,hz0,hz1,hz2⟩:=info_parts Tryz.infoPart
 have HD:Hid (RulD W w r sv pv cv cs):=hD
 have hRA:=hD.at hR
 have HU:Hid (∀Y,Below w.heap.size w Y→LArg Y u cl):=fun Y hY=>LArg.below hY hu
 have HV:Hid (∀Y,Below w.heap.size w Y→VArg Y sv vs):=fun Y hY=>VArg.below hY hRA.hv
 have HVO:Hid (zAR vs):=hva
 have hcv:Hid (∃a c,cv=.slice a cs.length c):=zAB hD.own
 obtain⟨ac,cc,rfl⟩:=hcv.out
 have g0:=hRA.c0
 have g2:=hRA.c2
 have gl:=hRA.lt
 have gz:w.frozen? ⟨r,2,none⟩=false:=frz9 hD.blk 2
 obtain⟨h,hh⟩:∃h,zAF vs cl=h:=⟨_,rfl⟩
 have HH:Hid (zAF vs cl=h):=hh
 have HH36:Hid (h<2 ^ 36):=by rw[←hh];exact zF6 vs hva.1 _
 rw[hh]
 obtain⟨a,c,rfl,_,_⟩:=hRA.hv
 obtain⟨a2,c2,rfl,_,_⟩:=hu
 have HHE:Hid (∀Y,Below w.heap.size w Y→Calls Tryz.prog 128 #[.slice a (List.length vs) c,.slice a2 (List.length cl) c2] Y fun e w'=>e=.returned (.int .u64 (h:Int))∧Below Y.heap.size Y w'):=fun Y hY=>by
  rw[←HH.out];exact zDp vs HVO.out cl _ _ Y (HV.out _ hY) (HU.out _ hY)
 have HDR:Hid (W.heap.size≤w.heap.size):=hD.fr.size
 clear hD hva hh hRA hR hcv
 go_enter Tryz.func88,Tryz.ntmps88
 go_wp2_with fail
 go_region_law
  (first
   | (rw[if_pos (by rfl)];refine wp_append_own _ _ _ 180 rfl W.heap.size 183 i0 _ 1 8 Tryz.underPart hi0 hz0 hz1 hz2 rfl (by decide) _ _ _ rfl (hw3.alloc _) ⟨w3.heap.size,0,none⟩ 1 1 [.int .u64 (h:Int)] rfl rfl (zJI w3 h) (by intro u hu;simp at hu;subst hu;rfl) ?_ ?_ ?_ ?_;(unfold maxLen;omega);omega;(have:=hB3.size;have:=HDR.out;simp;omega);intro v4 w4 hown4 hg4 _;have hP:=RulD.push HD.out HH36.out (hB3.alloc hB3.size (.cells #[.int .u64 (h:Int)] 183)) hg4 rfl hown4;obtain⟨a9,b9,hv9⟩:=zAB hown4;subst hv9;have d2:w4.cell? ⟨r,2,none⟩=some (.slice ac cs.length cc):=blk9 (zBe (HD.out.below (hB3.alloc hB3.size (.cells #[.int .u64 (h:Int)] 183))).blk hg4 (hw3.alloc _) (by decide)) 2 _ rfl;have z2:w4.frozen? ⟨r,2,none⟩=false:=frz9 (zBe (HD.out.below (hB3.alloc hB3.size (.cells #[.int .u64 (h:Int)] 183))).blk hg4 (hw3.alloc _) (by decide)) 2)
   | (rw[if_pos (by rfl)];go_simp;go_at_call 128;refine (HHE.out _ (Below.refl _ _).drew).mono ?_;rintro e w3 ⟨rfl,hb3⟩;have hB3:Below w.heap.size w w3:=(Below.refl _ _).drew.trans hb3;have c3:w3.cell? ⟨r,2,none⟩=some (.slice ac cs.length cc):=(hB3.cell (p:=⟨r,2,none⟩) gl).trans g2;have hw3:w3.ownsRow W.heap.size 183 1 (.slice ac cs.length cc) cs.length (u64s cs):=zAD HD.out.own hB3;have l3:r<w3.heap.size:=Nat.lt_of_lt_of_le gl hB3.size;dsimp only))
 all_goals
  go_wp2
  go_end0
  exact⟨rfl,_,hP.1,hP.2⟩
end Go.Proofs.YtdjbejlbmaiocagGreatDoor
