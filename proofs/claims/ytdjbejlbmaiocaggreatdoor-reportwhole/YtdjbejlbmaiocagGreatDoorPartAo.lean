/- What the proof leans on, part 15. -/
import Derived.Test.YtdjbejlbmaiocagGreatDoorPartAl
import Derived.Test.YtdjbejlbmaiocagGreatDoorPartAn
import Derived.Test.YtdjbejlbmaiocagGreatDoorPartAf
import Derived.Test.YtdjbejlbmaiocagGreatDoorPartAh
namespace Go.Proofs.YtdjbejlbmaiocagGreatDoor
open Go.RowKit
theorem zOP (cs:List Nat) (k c left:Nat) (h:cs[k]? = some c):zAj (cs.drop k) left=if left &&& c=0 then none
 else if zAK (left &&& c) (zAf (left &&& c))=0 then zAj (cs.drop (k+1)) (zAK left (zAK (zAf (left &&& c)) (left &&& c))) else zAj (cs.drop (k+1)) left:=by
 have hk:k<cs.length:=(List.getElem?_eq_some_iff.1 h).1
 have hc:cs[k]=c:=by rw[List.getElem?_eq_getElem hk] at h;exact Option.some.inj h
 rw[List.drop_eq_getElem_cons hk,hc]
 rfl
theorem zNb (p:Nat) (h0:p≠0) (h:p<2 ^ 36):zAf p<2 ^ 36:=by
 have h1:=(zFF p h0 h).2
 unfold zAf
 have h2:2 ^ (6 * (Lib.ctz 64 p / 6))≤2 ^ 30:=Nat.pow_le_pow_right (by omega) (by omega)
 omega
theorem zRq {a b:Nat} (ha:a<2 ^ 36):a &&& b<2 ^ 36:=Nat.lt_of_le_of_lt Nat.and_le_left ha
theorem zGj {a b:Nat} (h:a=b):Ending.returned (.int .u64 (a:Int))=Ending.returned (.int .u64 (b:Int)):=by rw[h]
set_option maxHeartbeats 1600000 in
set_option maxRecDepth 100000 in
theorem zKr (vs:List MVar) (h6:vs.length≤6) (hn1:1≤vs.length) (cs:List Nat) (r:Nat) (hr36:r<2 ^ 36) (sv pv:Value) (w:World) (hv:VArg w sv vs) (hp:PArg w pv cs) (hT:TabT w) :
 Calls Tryz.prog 190 #[sv,pv,.int .u64 r] w fun e w'=>e=.returned (.int .u64 ((zAc vs cs r:Nat):Int))∧w'=w:=by
 have HV:Hid (VArg w sv vs):=hv
 have HT:Hid (TabT w):=hT
 have H6:Hid (vs.length≤6):=h6
 have HR36:Hid (r<2 ^ 36):=hr36
 obtain⟨R,hR⟩:∃R,zAc vs cs r=R:=⟨_,rfl⟩
 have HS:Hid (R=if zCA vs.length r then 0 else zBH cs (r+1) r):=by show _=_;rw[←hR];rfl
 rw[hR]
 have HR0:Hid (zCA vs.length r=false→r≠0):=fun h0 h1=>by
  rw[zNY vs.length r 0 (by omega) (by rw[h1];rfl)] at h0;cases h0
 obtain⟨a,c,rfl,_,_⟩:=hv
 obtain⟨a2,c2,rfl,hm,hrp⟩:=hp
 have HP:Hid (∀(i z:Nat),cs[i]? = some z→z<2 ^ 36∧∃b off,a2=some ⟨b,off,none⟩∧b<w.heap.size∧w.cell? ⟨b,off+i,none⟩=some (.int .u64 z)):=hrp
 unfold maxLen at hm
 obtain⟨hm1,hm⟩:=hm
 clear hT hR hrp hn1 h6 hr36
 go_enter Tryz.func190,Tryz.ntmps190
 go_wp2_with fail
 refine (zHv vs H6.out r HR36.out _ _ HV.out).mono ?_
 rintro e w ⟨rfl,rfl⟩
 obtain⟨L,hL⟩:∃L,zCA vs.length r=L:=⟨_,rfl⟩
 rw[hL] at HS HR0 ⊢
 clear hL
 cases L
 ·have HS2:Hid (R=zBH cs (r+1) r):=HS.out
  have HN0:Hid (r≠0):=HR0.out rfl
  clear HS HR0
  go_wp2_with fail
  go_loopw [7,8] (fun l b wr=>∃bb ll:Nat,l=.int .u64 (ll:Int)∧b=.int .u64 (bb:Int)∧Hid (ll<2 ^ 36)∧Hid (if bb=ll then R=ll else R=zBH cs (ll+1) ll)∧wr=w) (fun l b _=>if intOf b=intOf l then 0 else (intOf l).toNat+1)
  case atStart=>exact⟨0,r,rfl,rfl,HR36,by show (if _ then _ else _);rw[if_neg (fun h=>HN0.out h.symm)];exact HS2.out,rfl⟩
  case round =>
   obtain⟨bb,ll,rfl,rfl,hl36,hst,rfl⟩:=hrel
   by_cases hbl:bb=ll
   ·have HN:Hid (R=ll):=by have:=hst.out;rw[if_pos hbl] at this;exact this
    have hne:((bb:Int) != (ll:Int))=false:=by simp[hbl]
    clear hst hbl
    go_wp2
    go_ret
    exact⟨zGj HN.out.symm,rfl⟩
   ·have HN:Hid (R=zBH cs (ll+1) ll):=by have:=hst.out;rw[if_neg hbl] at this;exact this
    have HU:Hid (R=match zAj cs ll with
     | none=>0
     | some l=>if l=ll then ll else zBH cs (l+1) l):=by show _=_;rw[HN.out];exact zIr cs ll
    have HBL:Hid (bb≠ll):=hbl
    have hne:((bb:Int) != (ll:Int))=true:=by simp;omega
    clear hst hbl
    go_wp2_with fail
    clear hne
    go_loopw [7,23] (fun l i wx=>∃k l2:Nat,k≤cs.length∧i=.int .i64 k∧l=.int .u64 (l2:Int)∧Hid (l2<2 ^ 36)∧Hid (zAj cs ll=zAj (cs.drop k) l2)∧wx=wr) (fun _ i _=>cs.length - (intOf i).toNat)
    case atStart=>exact⟨0,ll,by omega,rfl,rfl,hl36,rfl,rfl⟩
    case round =>
     obtain⟨k,l2,hk,rfl,rfl,hl2,hrd,rfl⟩:=hrel
     by_cases hlt:k<cs.length
     ·obtain⟨z,hz⟩:∃z,cs[k]? = some z:=⟨cs[k],by simp[hlt]⟩
      obtain⟨hz36,b,off,ha,hb,hc⟩:=HP.out k z hz
      subst ha
      have HZ:Hid (cs[k]? = some z):=hz
      have HRC:Hid (zAj (cs.drop k) l2=if l2 &&& z=0 then none
       else if zAK (l2 &&& z) (zAf (l2 &&& z))=0 then zAj (cs.drop (k+1)) (zAK l2 (zAK (zAf (l2 &&& z)) (l2 &&& z))) else zAj (cs.drop (k+1)) l2):=zOP cs k z l2 hz
      have hand:=bits_and_u64_nat l2 z (by have:=hl2.out;omega) (by omega)
      obtain⟨o,ho⟩:∃o,l2 &&& z=o:=⟨_,rfl⟩
      have HO36:Hid (o<2 ^ 36):=by rw[←ho];exact zRq hl2.out
      rw[ho] at hand HRC
      clear hz hz36 ho
      by_cases ho0:o=0
      ·have HE:Hid (R=0):=by show _=_;rw[HU.out,hrd.out,HRC.out,if_pos ho0]
       subst ho0
       clear hrd hl2
       go_wp2
       go_ret
       exact⟨zGj HE.out.symm,rfl⟩
      ·have HRC2:Hid (zAj (cs.drop k) l2=if zAK o (zAf o)=0 then zAj (cs.drop (k+1)) (zAK l2 (zAK (zAf o) o)) else zAj (cs.drop (k+1)) l2):=by show _=_;rw[HRC.out,if_neg ho0]
       have HO0:Hid (o≠0):=ho0
       have ho1:((o:Int)==0)=false:=by simpa using ho0
       obtain⟨f,hf⟩:∃f,zAf o=f:=⟨_,rfl⟩
       have HF36:Hid (f<2 ^ 36):=by rw[←hf];exact zNb o ho0 HO36.out
       have hnt:=zAg o f (by have:=HO36.out;omega) (by have:=HF36.out;omega)
       have HF:Hid (zAf o=f):=hf
       rw[hf] at HRC2
       obtain⟨g,hg⟩:∃g,zAK o f=g:=⟨_,rfl⟩
       rw[hg] at hnt HRC2
       clear ho0 hf hg HRC
       by_cases hg0:g=0
       ·have hn2:=zAg f o (by have:=HF36.out;omega) (by have:=HO36.out;omega)
        obtain⟨t,ht⟩:∃t,zAK f o=t:=⟨_,rfl⟩
        have HT36:Hid (t<2 ^ 36):=by rw[←ht];exact zCO 36 _ _ HF36.out
        have hn3:=zAg l2 t (by have:=hl2.out;omega) (by have:=HT36.out;omega)
        obtain⟨l3,hl3⟩:∃l3,zAK l2 t=l3:=⟨_,rfl⟩
        have HL36:Hid (l3<2 ^ 36):=by rw[←hl3];exact zCO 36 _ _ hl2.out
        have HE:Hid (zAj cs ll=zAj (cs.drop (k+1)) l3):=by show _=_;rw[hrd.out,HRC2.out,if_pos hg0,ht,hl3]
        rw[ht] at hn2
        rw[hl3] at hn3
        subst hg0
        clear hrd ht hl3 HRC2 hl2
        go_wp2_with fail
        refine (zGJ o HO0.out HO36.out _ HT.out).mono ?_
        rintro e w ⟨rfl,rfl⟩
        rw[HF.out]
        go_wp2
        go_roundw
        case rel=>exact⟨k+1,l3,by omega,by go_num,rfl,HL36,HE,trivial⟩
        case measure=>simp[intOf];omega
       ·have HE:Hid (zAj cs ll=zAj (cs.drop (k+1)) l2):=by show _=_;rw[hrd.out,HRC2.out,if_neg hg0]
        have hg1:((g:Int)==0)=false:=by simpa using hg0
        clear hrd hg0 HRC2
        go_wp2_with fail
        refine (zGJ o HO0.out HO36.out _ HT.out).mono ?_
        rintro e w ⟨rfl,rfl⟩
        rw[HF.out]
        go_wp2
        go_roundw
        case rel=>exact⟨k+1,l2,by omega,by go_num,rfl,hl2,HE,trivial⟩
        case measure=>simp[intOf];omega
     ·have hke:k=cs.length:=by omega
      have HE:Hid (zAj cs ll=some l2):=by show _=_;rw[hrd.out,hke,List.drop_length];rfl
      have HLE:Hid (l2≤ll):=zCc cs ll l2 HE.out
      have HU2:Hid (if ll=l2 then R=l2 else R=zBH cs (l2+1) l2):=by
       show (if _ then _ else _)
       have:=HU.out
       rw[HE.out] at this
       simp only at this
       by_cases hq:ll=l2
       ·rw[if_pos hq];rw[if_pos hq.symm] at this;rw[this];exact hq
       ·rw[if_neg hq];rw[if_neg (fun h=>hq h.symm)] at this;exact this
      have HM:Hid ((if (ll:Int)=(l2:Int) then 0 else (l2:Int).toNat+1)<(if (bb:Int)=(ll:Int) then 0 else (ll:Int).toNat+1)):=by
       show _<_
       have h1:=HBL.out
       have h2:=HLE.out
       have e:(if (bb:Int)=(ll:Int) then 0 else (ll:Int).toNat+1)=(ll:Int).toNat+1:=if_neg (by omega)
       rw[e]
       split <;> omega
      clear hrd hke
      go_wp2
      go_roundw
      case rel=>exact⟨ll,l2,rfl,rfl,hl2,HU2,trivial⟩
      case measure=>exact HM.out
 ·have HN:Hid (R=0):=HS.out
  go_wp2
  go_ret
  exact⟨zGj HN.out.symm,rfl⟩
set_option maxHeartbeats 800000 in
set_option maxRecDepth 100000 in
theorem zKs (vs:List MVar) (hva:zAR vs) (hn1:1≤vs.length) (cs:List Nat) (h:Nat) (hh:h<2 ^ 36) (sv pv:Value) (w:World) (hv:VArg w sv vs) (hp:PArg w pv cs) (hT:TabT w) :
 Calls Tryz.prog 130 #[sv,pv,.int .u64 h] w fun e w'=>e=.returned (.bool (zC6 vs cs h))∧Below w.heap.size w w':=by
 have HV:Hid (∀w',Below w.heap.size w w'→VArg w' sv vs):=fun w' h=>VArg.below h hv
 have HP:Hid (∀w',Below w.heap.size w w'→PArg w' pv cs):=fun w' h=>PArg.below h hp
 have HT:Hid (∀w',Below w.heap.size w w'→TabT w'):=fun w' h=>hT.below h
 have HVO:Hid (zAR vs):=hva
 have H6:Hid (vs.length≤6):=hva.1.1
 have H1:Hid (1≤vs.length):=hn1
 have HW36:Hid (zAC vs<2 ^ 36):=zF6 vs hva.1 _
 obtain⟨q,hq⟩:∃q,zAC vs=q:=⟨_,rfl⟩
 obtain⟨r,hr⟩:∃r,zAK (zAC vs) h=r:=⟨_,rfl⟩
 have HR36:Hid (r<2 ^ 36):=by rw[←hr];exact zCO 36 _ _ HW36.out
 have hbits:=zAg (zAC vs) h (by have:=HW36.out;omega) (by omega)
 rw[hr,hq] at hbits
 have HQ:Hid (zAC vs=q):=hq
 obtain⟨R,hR⟩:∃R,zC6 vs cs h=R:=⟨_,rfl⟩
 have HS:Hid (R=(((zAc vs cs r:Nat):Int)==0)):=by
  show _=_
  rw[←hR];unfold zC6;rw[hr]
  by_cases h0:zAc vs cs r=0
  ·rw[h0];rfl
  ·have h1:(((zAc vs cs r:Nat):Int)==0)=false:=by simpa using h0
   rw[h1];simpa using h0
 rw[hR]
 obtain⟨a,c,rfl,_,_⟩:=hv
 obtain⟨a2,c2,rfl,_,_⟩:=hp
 clear hva hh hq hr hT hR hn1
 go_enter Tryz.func130,Tryz.ntmps130
 go_wp2_with fail
 refine (zGI vs HVO.out _ _ (HV.out _ (Below.refl _ _))).mono ?_
 rintro e w1 ⟨rfl,hb1⟩
 rw[HQ.out]
 have HB1:Hid (Below w.heap.size w w1):=hb1
 clear hb1
 go_wp2_with fail
 refine (zKr vs H6.out H1.out cs r HR36.out _ _ _ (HV.out _ HB1.out) (HP.out _ HB1.out) (HT.out _ HB1.out)).mono ?_
 rintro e w1 ⟨rfl,rfl⟩
 obtain⟨U,hU⟩:∃U:Int,((zAc vs cs r:Nat):Int)=U:=⟨_,rfl⟩
 rw[hU] at HS ⊢
 clear hU
 go_wp2
 go_ret
 exact⟨zAG HS.out.symm,HB1.out⟩
def zEk (w:World) (v:Value) (l:List Cla):Prop :=
 ∃a c,v=.slice a l.length c∧(l.length≤c∧c≤maxLen)∧∀(i:Nat) (t:Cla),l[i]? = some t→∃b off x,a=some ⟨b,off,none⟩∧b<w.heap.size∧w.cell? ⟨b,off+i,none⟩=some x∧LArg w x t
theorem zEk.below {w w':World} {v:Value} {l:List Cla} (hb:Below w.heap.size w w') (h:zEk w v l):zEk w' v l:=by
 obtain⟨a,c,hv,hm,hr⟩:=h
 refine⟨a,c,hv,hm,fun i z hz=>?_⟩
 obtain⟨b,off,x,ha,hlt,hc,hx⟩:=hr i z hz
 exact⟨b,off,x,ha,Nat.lt_of_lt_of_le hlt hb.size,(hb.cell (p:=⟨b,off+i,none⟩) hlt).trans hc,LArg.below hb hx⟩
set_option maxHeartbeats 800000 in
set_option maxRecDepth 100000 in
theorem zP3 (vs:List MVar) (l:MLit) (v:Value) (w:World) (hv:VArg w v vs) :
 Calls Tryz.prog 180 #[v,.agg #[.int .i64 l.var,.int .i64 l.op,.int .i64 l.n]] w fun e w'=>e=.returned (.int .i64 (litE vs l))∧Below w.heap.size w w':=by
 obtain⟨a,c,rfl,hm,_⟩:=hv
 unfold maxLen at hm
 obtain⟨hm1,hm⟩:=hm
 obtain⟨R,hR⟩:∃R,litE vs l=R:=⟨_,rfl⟩
 rw[hR]
 unfold litE at hR
 by_cases q1:l.var<0
 ·have HE:Hid (R=5):=by rw[←hR,if_pos (Or.inl q1)];rfl
  clear hR
  go_enter Tryz.func180,Tryz.ntmps180
  go_wp2
  go_ret
  exact⟨zAH HE.out.symm,zAA _ _⟩
 by_cases q2:(vs.length:Int)≤l.var
 ·have HE:Hid (R=5):=by rw[←hR,if_pos (Or.inr q2)];rfl
  clear hR
  go_enter Tryz.func180,Tryz.ntmps180
  go_wp2
  go_ret
  exact⟨zAH HE.out.symm,zAA _ _⟩
 rw[if_neg (by omega)] at hR
 by_cases q3:l.op<1
 ·have HE:Hid (R=7):=by rw[←hR,if_pos (Or.inl q3)];rfl
  clear hR
  go_enter Tryz.func180,Tryz.ntmps180
  go_wp2
  go_ret
  exact⟨zAH HE.out.symm,zAA _ _⟩
 by_cases q4:4<l.op
 ·have HE:Hid (R=7):=by rw[←hR,if_pos (Or.inr q4)];rfl
  clear hR
  go_enter Tryz.func180,Tryz.ntmps180
  go_wp2
  go_ret
  exact⟨zAH HE.out.symm,zAA _ _⟩
 rw[if_neg (by omega)] at hR
 by_cases q5:l.n < -1000
 ·have HE:Hid (R=3):=by rw[←hR,if_pos (Or.inl q5)];rfl
  clear hR
  go_enter Tryz.func180,Tryz.ntmps180
  go_wp2
  go_ret
  exact⟨zAH HE.out.symm,zAA _ _⟩
 by_cases q6:1000<l.n
 ·have HE:Hid (R=3):=by rw[←hR,if_pos (Or.inr q6)];rfl
  clear hR
  go_enter Tryz.func180,Tryz.ntmps180
  go_wp2
  go_ret
  exact⟨zAH HE.out.symm,zAA _ _⟩
 have HE:Hid (R=0):=by rw[←hR,if_neg (by omega)];rfl
 clear hR
 go_enter Tryz.func180,Tryz.ntmps180
 go_wp2
 go_ret
 exact⟨zAH HE.out.symm,zAA _ _⟩
set_option maxHeartbeats 800000 in
set_option maxRecDepth 100000 in
theorem zKt (vs:List MVar) (c:Cla) (v u:Value) (w:World) (hv:VArg w v vs) (hu:LArg w u c) :
 Calls Tryz.prog 125 #[v,u] w fun e w'=>e=.returned (.int .i64 (claE vs c))∧Below w.heap.size w w':=by
 have HVA:Hid (∀w':World,Below w.heap.size w w'→VArg w' v vs):=fun w' h=>VArg.below h hv
 obtain⟨a1,c1,rfl,_,_⟩:=hv
 obtain⟨a,cc,rfl,hm,hr⟩:=hu
 have HV:Hid (∀(i:Nat) (t:MLit),c[i]? = some t→∃b off,a=some ⟨b,off,none⟩∧b<w.heap.size ∧
  w.cell? ⟨b,off+i * 3,none⟩=some (.int .i64 t.var)∧w.cell? ⟨b,off+i * 3+1,none⟩=some (.int .i64 t.op)∧w.cell? ⟨b,off+i * 3+2,none⟩=some (.int .i64 t.n)):=hr
 unfold maxLen at hm
 obtain⟨hm1,hm⟩:=hm
 obtain⟨R,hR⟩:∃R,claE vs c=R:=⟨_,rfl⟩
 rw[hR]
 have HE:Hid (R=if 40<c.length then 2 else zAi (c.map (litE vs))):=by rw[←hR];rfl
 clear hR hr
 by_cases h40:40<c.length
 ·have HN:Hid (R=2):=by rw[HE.out,if_pos h40];rfl
  go_enter Tryz.func125,Tryz.ntmps125
  go_wp2
  go_ret
  exact⟨zAH HN.out.symm,Below.refl _ _⟩
 ·have HE2:Hid (R=zAi (c.map (litE vs))):=by rw[HE.out,if_neg h40];rfl
  go_enter Tryz.func125,Tryz.ntmps125
  go_wp2_with fail
  go_loopw [13] (fun i wr=>∃k:Nat,k≤c.length∧i=.int .i64 k∧Hid (zAi ((c.map (litE vs)).take k)=0)∧Below w.heap.size w wr) (fun i _=>c.length - (intOf i).toNat)
  case atStart=>exact⟨0,by omega,rfl,rfl,Below.refl _ _⟩
  case round =>
   obtain⟨k,hk,rfl,hall,hbw⟩:=hrel
   by_cases hlt:k<c.length
   ·obtain⟨t,hz⟩:∃z,c[k]? = some z:=⟨c[k],by simp[hlt]⟩
    obtain⟨b,off,ha,hb,q0,q1,q2⟩:=HV.out k t hz
    have hc0:=(hbw.cell (p:=⟨b,off+k * 3,none⟩) hb).trans q0
    have hc1:=(hbw.cell (p:=⟨b,off+k * 3+1,none⟩) hb).trans q1
    have hc2:=(hbw.cell (p:=⟨b,off+k * 3+2,none⟩) hb).trans q2
    have hsz:=hbw.size
    subst ha
    obtain⟨er,her⟩:∃er,litE vs t=er:=⟨_,rfl⟩
    have HER:Hid (litE vs t=er):=her
    have HZ:Hid ((c.map (litE vs))[k]? = some er):=by show _=_;rw[List.getElem?_map,hz,←her];rfl
    clear hz q0 q1 q2 her
    go_wp2_with fail
    refine (zP3 vs t _ _ ?_).mono ?_
    ·exact HVA.out _ (hbw.alloc hsz _)
    rintro e w2 ⟨rfl,hb2⟩
    rw[HER.out]
    have hB2:Below w.heap.size w w2:=(hbw.alloc hsz _).trans (hb2.mono (by simp;omega))
    clear hb2
    by_cases he:er=0
    ·subst he
     have HN:Hid (zAi ((c.map (litE vs)).take (k+1))=0):=zDU _ k hall.out HZ.out
     go_wp2
     go_roundw
     case rel=>exact⟨k+1,by omega,by go_num,HN,hB2⟩
     case measure=>simp[intOf];omega
    ·have HN:Hid (R=er):=by rw[HE2.out];exact zD4 _ k er hall.out HZ.out he
     have he2:(er != 0)=true:=by simpa using he
     clear he
     go_wp2
     go_ret
     exact⟨zAH HN.out.symm,hB2⟩
   ·have HN:Hid (R=0):=by
     have:=hall.out
     rw[List.take_of_length_le (by simp;omega)] at this
     rw[HE2.out];exact this
    go_wp2
    go_ret
    exact⟨zAH HN.out.symm,hbw⟩
set_option maxHeartbeats 800000 in
set_option maxRecDepth 100000 in
theorem zOQ (vs:List MVar) (l:List Cla) (v u:Value) (w:World) (hv:VArg w v vs) (hu:zEk w u l) :
 Calls Tryz.prog 129 #[v,u] w fun e w'=>e=.returned (.int .i64 (zFO vs l))∧Below w.heap.size w w':=by
 have HVA:Hid (∀w':World,Below w.heap.size w w'→VArg w' v vs):=fun w' h=>VArg.below h hv
 obtain⟨a1,c1,rfl,_,_⟩:=hv
 obtain⟨a,cc,rfl,hm,hr⟩:=hu
 have HV:Hid (∀(i:Nat) (t:Cla),l[i]? = some t→∃b off x,a=some ⟨b,off,none⟩∧b<w.heap.size∧w.cell? ⟨b,off+i,none⟩=some x∧LArg w x t):=hr
 unfold maxLen at hm
 obtain⟨hm1,hm⟩:=hm
 obtain⟨R,hR⟩:∃R,zFO vs l=R:=⟨_,rfl⟩
 rw[hR]
 have HE:Hid (R=if 600<l.length then 2 else zAi (l.map (claE vs))):=by rw[←hR];rfl
 clear hR hr
 by_cases h40:600<l.length
 ·have HN:Hid (R=2):=by rw[HE.out,if_pos h40];rfl
  go_enter Tryz.func129,Tryz.ntmps129
  go_wp2
  go_ret
  exact⟨zAH HN.out.symm,Below.refl _ _⟩
 ·have HE2:Hid (R=zAi (l.map (claE vs))):=by rw[HE.out,if_neg h40];rfl
  go_enter Tryz.func129,Tryz.ntmps129
  go_wp2_with fail
  go_loopw [13] (fun i wr=>∃k:Nat,k≤l.length∧i=.int .i64 k∧Hid (zAi ((l.map (claE vs)).take k)=0)∧Below w.heap.size w wr) (fun i _=>l.length - (intOf i).toNat)
  case atStart=>exact⟨0,by omega,rfl,rfl,Below.refl _ _⟩
  case round =>
   obtain⟨k,hk,rfl,hall,hbw⟩:=hrel
   by_cases hlt:k<l.length
   ·obtain⟨t,hz⟩:∃z,l[k]? = some z:=⟨l[k],by simp[hlt]⟩
    obtain⟨b,off,x,ha,hb,q0,hx⟩:=HV.out k t hz
    have HX:Hid (LArg wr x t):=LArg.below hbw hx
    obtain⟨a5,c5,rfl,_,_⟩:=hx
    have hc0:=(hbw.cell (p:=⟨b,off+k,none⟩) hb).trans q0
    subst ha
    obtain⟨er,her⟩:∃er,claE vs t=er:=⟨_,rfl⟩
    have HER:Hid (claE vs t=er):=her
    have HZ:Hid ((l.map (claE vs))[k]? = some er):=by show _=_;rw[List.getElem?_map,hz,←her];rfl
    clear hz q0 her
    go_wp2_with fail
    refine (zKt vs t _ _ _ (HVA.out _ hbw) HX.out).mono ?_
    rintro e w2 ⟨rfl,hb2⟩
    rw[HER.out]
    have hB2:Below w.heap.size w w2:=hbw.trans (hb2.mono hbw.size)
    clear hb2
    by_cases he:er=0
    ·subst he
     have HN:Hid (zAi ((l.map (claE vs)).take (k+1))=0):=zDU _ k hall.out HZ.out
     go_wp2
     go_roundw
     case rel=>exact⟨k+1,by omega,by go_num,HN,hB2⟩
     case measure=>simp[intOf];omega
    ·have HN:Hid (R=er):=by rw[HE2.out];exact zD4 _ k er hall.out HZ.out he
     have he2:(er != 0)=true:=by simpa using he
     clear he
     go_wp2
     go_ret
     exact⟨zAH HN.out.symm,hB2⟩
   ·have HN:Hid (R=0):=by
     have:=hall.out
     rw[List.take_of_length_le (by simp;omega)] at this
     rw[HE2.out];exact this
    go_wp2
    go_ret
    exact⟨zAH HN.out.symm,hbw⟩
theorem zP4 (m:Mod) (hm:zAE m=0) (c:Cla):zAF m.vars c<2 ^ 36:=zF6 m.vars (zAd m hm) _
theorem Tryz.infoPartP:(Tryz.prog.info? 183).map (fun i=>(i.zero,i.size,i.bytes))=some (some (.int .u64 0),1,8):=by kernel_rfl
theorem zP5 (w:World) (n base:Nat) (hn:n≤100000) (hb:base≤w.heap.size):(w.alloc (.cells (madeCells #[.int .u64 0] n) 183)).ownsRow base 183 1 (.slice (some ⟨w.heap.size,0,none⟩) n n) n (List.replicate n (.int .u64 0)):=by
 refine⟨by simp,Or.inr ⟨w.heap.size,n,_,rfl,hb,heap_alloc_new w _,Nat.le_refl _,by unfold maxLen;omega,?_,?_⟩⟩
 ·have h:=congrArg List.length (toList_madeCells_one (.int .u64 0) n)
  simp at h
  simpa using h
 ·rw[toList_madeCells_one]
  simp
set_option maxHeartbeats 1600000 in
set_option maxRecDepth 100000 in
theorem zP6 (m:Mod) (hm:zAE m=0) (l:List Cla) (hl6:l.length≤600) (vs cs u:Value) (w:World) (hma:MArg w vs cs m) (hu:zEk w u l) :
 Calls Tryz.prog 131 #[modV vs cs m,u] w fun e w'=>∃x,e=.returned x∧w'.ownsRow (w.heap.size+1) 183 1 x l.length (u64s (l.map (zAF m.vars)))∧Below w.heap.size w w':=by
 have HMA:Hid (∀w',Below w.heap.size w w'→MArg w' vs cs m):=fun w' h=>MArg.below h hma
 have HM:Hid (zAE m=0):=hm
 have hmk:=run_make_row' (P:=Tryz.prog) 180 183 (.int .u64 0) 8 Tryz.underParts Tryz.infoPartP rfl .i64 .i64 l.length (by omega) (by omega)
 obtain⟨⟨a1,c1,rfl,_,_⟩,⟨a2,c2,rfl,_,_⟩⟩:=hma
 obtain⟨a3,c3,rfl,hm3,hr3⟩:=hu
 have HR3:Hid (∀(i:Nat) (t:Cla),l[i]? = some t→∃b off x,a3=some ⟨b,off,none⟩∧b<w.heap.size∧w.cell? ⟨b,off+i,none⟩=some x∧LArg w x t):=hr3
 unfold maxLen at hm3
 obtain⟨hm31,hm3⟩:=hm3
 unfold modV
 clear hm hr3
 go_enter Tryz.func131,Tryz.ntmps131
 go_wp2_with fail
 clear hmk
 have HB0:Hid (Below w.heap.size w ((w.alloc (.cells #[.slice a1 m.vars.length c1,.slice a2 m.cons.length c2,.int .i64 m.goal,.int .i64 m.var] 25)).alloc (.cells (madeCells #[.int .u64 0] l.length) 183))):=(zAA _ _).alloc (by simp) _
 have HQ0:Hid (((w.alloc (.cells #[.slice a1 m.vars.length c1,.slice a2 m.cons.length c2,.int .i64 m.goal,.int .i64 m.var] 25)).alloc (.cells (madeCells #[.int .u64 0] l.length) 183)).cell? ⟨w.heap.size,0,none⟩=some (.slice a1 m.vars.length c1)) :=
  (World.cell?_alloc_past _ _ _ (by simp)).trans (World.cell?_alloc_at _ _ _ 0 (by simp))
 have HO0:Hid (((w.alloc (.cells #[.slice a1 m.vars.length c1,.slice a2 m.cons.length c2,.int .i64 m.goal,.int .i64 m.var] 25)).alloc (.cells (madeCells #[.int .u64 0] l.length) 183)).ownsRow (w.heap.size+1) 183 1 (.slice (some ⟨w.heap.size+1,0,none⟩) l.length l.length) l.length (List.replicate l.length (.int .u64 0))):=by
  have h:=zP5 (w.alloc (.cells #[.slice a1 m.vars.length c1,.slice a2 m.cons.length c2,.int .i64 m.goal,.int .i64 m.var] 25)) l.length (w.heap.size+1) (by omega) (by simp)
  show World.ownsRow _ _ _ _ _ _ _
  simpa using h
 have HS0:Hid (((w.alloc (.cells #[.slice a1 m.vars.length c1,.slice a2 m.cons.length c2,.int .i64 m.goal,.int .i64 m.var] 25)).alloc (.cells (madeCells #[.int .u64 0] l.length) 183)).heap.size=w.heap.size+2):=by show _=_;simp
 obtain⟨W,hW⟩:∃W,(w.alloc (.cells #[.slice a1 m.vars.length c1,.slice a2 m.cons.length c2,.int .i64 m.goal,.int .i64 m.var] 25)).alloc (.cells (madeCells #[.int .u64 0] l.length) 183)=W:=⟨_,rfl⟩
 rw[hW] at HB0 HQ0 HO0 HS0 ⊢
 clear hW
 go_loopw [13] (fun i wr=>∃(k:Nat) (cells:List Value),k≤l.length∧i=.int .i64 k∧wr.ownsRow (w.heap.size+1) 183 1 (.slice (some ⟨w.heap.size+1,0,none⟩) l.length l.length) l.length cells∧Hid (∀j c,j<k→l[j]? = some c→cells[j]? = some (.int .u64 ((zAF m.vars c:Nat):Int)))∧Below (w.heap.size+1) W wr) (fun i _=>l.length - (intOf i).toNat)
 case atStart=>exact⟨0,_,by omega,rfl,HO0.out,fun j c h=>by omega,Below.refl _ _⟩
 case round =>
  obtain⟨k,cells,hk,rfl,hown,hall,hbw⟩:=hrel
  have HOW:Hid (wr.ownsRow (w.heap.size+1) 183 1 (.slice (some ⟨w.heap.size+1,0,none⟩) l.length l.length) l.length cells):=hown
  have HBW:Hid (Below (w.heap.size+1) W wr):=hbw
  have HBN:Hid (Below w.heap.size w wr):=HB0.out.trans (hbw.mono (by omega))
  have hq0:=(hbw.cell (p:=⟨w.heap.size,0,none⟩) (by simp only;omega)).trans HQ0.out
  clear hown hbw
  by_cases hlt:k<l.length
  ·obtain⟨c,hc⟩:∃c,l[k]? = some c:=⟨l[k],by simp[hlt]⟩
   obtain⟨b,off,x,hax,hb,hcc0,hxa⟩:=HR3.out k c hc
   subst hax
   have hcc:=(HBN.out.cell (p:=⟨b,off+k,none⟩) hb).trans hcc0
   have HXA:Hid (LArg wr x c):=LArg.below HBN.out hxa
   obtain⟨ax,cx,rfl,_,_⟩:=hxa
   have HCK:Hid (l[k]? = some c):=hc
   have hlen:cells.length=l.length:=by have:=HOW.out.1;omega
   have HLEN:Hid (cells.length=l.length):=hlen
   clear hc hlen hcc0 hb
   obtain⟨wo,rfl⟩:∃wo:World,wo=wr:=⟨_,rfl⟩
   go_wp2_with fail
   refine (zDp m.vars (zCy m HM.out) c _ _ _ (HMA.out _ HBN.out).1 HXA.out).mono ?_
   rintro e w1 ⟨rfl,hb1⟩
   have HOW1:Hid (w1.ownsRow (w.heap.size+1) 183 1 (.slice (some ⟨w.heap.size+1,0,none⟩) l.length l.length) l.length cells):=zAD HOW.out hb1
   have HBW1:Hid (Below (w.heap.size+1) W w1):=HBW.out.trans (hb1.mono (by have:=HBW.out.size;have:=HS0.out;omega))
   obtain⟨y,hy⟩:∃y,cells[k]? = some y:=⟨cells[k]'(by rw[HLEN.out];exact hlt),by simp⟩
   have cN:w1.cell? ⟨w.heap.size+1,k,none⟩=some y:=by rw[HOW1.out.cellAt k (by omega)];exact hy
   have zN:=HOW1.out.frozenAt k
   have HST:Hid ((w1.setCell ⟨w.heap.size+1,k,none⟩ (.int .u64 ((zAF m.vars c:Nat):Int))).ownsRow (w.heap.size+1) 183 1 (.slice (some ⟨w.heap.size+1,0,none⟩) l.length l.length) l.length (cells.set k (.int .u64 ((zAF m.vars c:Nat):Int)))):=(HOW1.out.stored k _).1
   have HBS:Hid (Below (w.heap.size+1) W (w1.setCell ⟨w.heap.size+1,k,none⟩ (.int .u64 ((zAF m.vars c:Nat):Int)))):=HBW1.out.setCell (show w.heap.size+1≤w.heap.size+1 from Nat.le_refl _) _
   have HAL:Hid (∀j d,j<k+1→l[j]? = some d→(cells.set k (.int .u64 ((zAF m.vars c:Nat):Int)))[j]? = some (.int .u64 ((zAF m.vars d:Nat):Int))):=by
    intro j d hj hd
    by_cases hjk:j=k
    ·subst hjk
     rw[HCK.out] at hd
     cases hd
     rw[List.getElem?_set_self (by rw[HLEN.out];exact hlt)]
    ·rw[List.getElem?_set_ne (fun h=>hjk h.symm)]
     exact hall.out j d (by omega) hd
   have hlN:w.heap.size+1<w1.heap.size:=by have:=(HOW1.out.lt (w.heap.size+1) rfl).2;exact this
   clear hy hb1 hq0
   go_wp2
   go_roundw
   case rel=>exact⟨k+1,_,by omega,by go_num,HST.out,HAL,HBS.out⟩
   case measure=>simp[intOf];omega
  ·have hke:k=l.length:=by omega
   have HE:Hid (cells=u64s (l.map (zAF m.vars))):=by
    show _=_
    have hlen:cells.length=l.length:=by have:=HOW.out.1;omega
    apply List.ext_getElem?
    intro j
    by_cases hj:j<l.length
    ·rw[hall.out j l[j] (by omega) (by simp[hj])]
     unfold u64s
     simp[hj]
    ·rw[List.getElem?_eq_none (by omega),List.getElem?_eq_none (by unfold u64s;simp;omega)]
   have HF:Hid (wr.ownsRow (w.heap.size+1) 183 1 (.slice (some ⟨w.heap.size+1,0,none⟩) l.length l.length) l.length (u64s (l.map (zAF m.vars)))):=by rw[←HE.out];exact HOW.out
   clear hke hq0
   go_wp2
   go_ret
   exact⟨_,rfl,HF.out,HBN.out⟩
theorem zRr (m:Mod) (hm:zAE m=0) (l:List Cla):∀z∈l.map (zAF m.vars),z<2 ^ 36:=by
 intro z hz
 obtain⟨c,_,rfl⟩:=List.mem_map.1 hz
 exact zP4 m hm c
end Go.Proofs.YtdjbejlbmaiocagGreatDoor
