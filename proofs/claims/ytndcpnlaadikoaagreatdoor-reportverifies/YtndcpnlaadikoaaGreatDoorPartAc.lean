/- What the proof leans on, part 3. -/
import Derived.Test.YtndcpnlaadikoaaGreatDoorPartAb
set_option maxRecDepth 100000
set_option maxHeartbeats 1600000
open Go.Proofs.Tryz
namespace Go.Proofs.YtndcpnlaadikoaaGreatDoor
open Go.RowKit
theorem DS (c:MCon) (vv vc vr vl:Value) (w:World) (hk:KArg w vv vc vr vl c) :
 Calls prog 181 #[conV vv vc vr vl c] w λe w'=>e=.returned (.bool (QX c))/\Bw w w':=by
 obtain⟨⟨a1,c1,rfl,Y0,VR⟩,⟨a2,c2,rfl,Wk,Yq⟩,⟨a3,c3,rfl,Vk,hr3⟩,⟨a4,c4,rfl,hm4,hr4⟩⟩:=hk;clear VR Yq hr3 hr4 Y0 Wk Vk hm4;unfold conV QX;by_cases h1:4<c.vars.length
 ·rw[decide_eq_true h1]
  go_enter func181,ntmps181
  go_wp2
  go_ret
  exact⟨ZD (by first | (simp;done) | (rw[Yg];simp;omega)),Z4 _ _⟩
 rw[decide_eq_false h1];by_cases h2:4<c.lits.length
 ·rw[decide_eq_true h2]
  go_enter func181,ntmps181
  go_wp2
  go_ret
  exact⟨ZD (by first | (simp;done) | (rw[Yg];simp;omega)),Z4 _ _⟩
 rw[decide_eq_false h2];by_cases h3:8<c.consts.length
 ·rw[decide_eq_true h3]
  go_enter func181,ntmps181
  go_wp2
  go_ret
  exact⟨ZD (by first | (simp;done) | (rw[Yg];simp;omega)),Z4 _ _⟩
 rw[decide_eq_false h3];go_enter func181,ntmps181
 go_wp2
 go_ret
 exact⟨ZD (by first | (simp;done) | (rw[Yg];simp;omega)),Z4 _ _⟩
theorem xi (c:MCon) (n:Int) (vv vc vr vl:Value) (w:World) (hk:KArg w vv vc vr vl c) :
 Calls prog 183 #[conV vv vc vr vl c,.int .i64 n] w λe w'=>e=.returned (.bool (QW c n))/\Bw w w':=by
 obtain⟨⟨a1,c1,rfl,Y0,VR⟩,_,_,⟨a4,c4,rfl,hm4,hr4⟩⟩:=hk;have HI:=hI VR;have HL:=hI hr4
 obtain⟨R,hR⟩:∃R,QW c n=R:=⟨_,rfl⟩;rw[hR];have HE:Hid (R=(c.vars.all (λv=>Wd v n)&&c.lits.all (λl=>Wd l.var n))):=by rw[<-hR];rfl
 unfold maxLen at Y0 hm4;obtain⟨Ql,Y0⟩:=Y0;obtain⟨OY,hm4⟩:=hm4;clear VR hr4 hR;unfold conV;go_enter func183,ntmps183
 go_wp2_with fail
 obtain⟨w0,Qk⟩:∃w0:World,w0=w.alloc (.cells #[.int .i64 c.kind,.slice a1 c.vars.length c1,vc,.int .i64 c.n,vr,.slice a4 c.lits.length c4] 69):=⟨_,rfl⟩;rw[<-Qk];have WB:Bw w w0:=by rw[Qk];exact Z4 _ _
 have AG:w0.cell? ⟨w.heap.size,5,none⟩=some (.slice a4 c.lits.length c4):=by rw[Qk];simp
 have T_:w0.heap.size=w.heap.size+1:=by rw[Qk];simp
 have Xd:=hI T_;clear Qk T_;go_loopw [12] (λi wr=>∃m:Nat,m<=c.vars.length/\i=.int .i64 m/\Hid ((c.vars.take m).all (λv=>Wd v n)=true)/\wr=w0) (λi _=>c.vars.length - (intOf i).toNat)
 case atStart=>exact⟨0,by omega,rfl,rfl,rfl⟩
 obtain⟨m,Uo,rfl,hall,rfl⟩:=hrel;by_cases Z7:m<c.vars.length
 ·obtain⟨z,hz⟩:∃z,c.vars[m]? = some z:=⟨c.vars[m],by simp[Z7]⟩
  obtain⟨b,off,ha,hb,hc⟩:=HI.o m z hz;have Wj:=(WB.cell (p:=⟨b,off+m,none⟩) hb).trans hc;have HZ:=hI hz;subst ha;clear hz hc;cases hq:Wd z n
  ·have HN:Hid (R=false):=by rw[HE.o,SJ (λv=>Wd v n) c.vars m z HZ.o hq];rfl
   go_wp2_with fail
   refine (JF _ _ _).mono ?_;rintro e w2 ⟨rfl,Ya⟩;rw[hq,Ya];clear hq Ya;go_wp2
   go_ret
   exact⟨ZD HN.o.symm,WB⟩
  have HN:Hid ((c.vars.take (m+1)).all (λv=>Wd v n)=true):=RF _ c.vars m z HZ.o hall.o hq
  go_wp2_with fail
  refine (JF _ _ _).mono ?_;rintro e w2 ⟨rfl,Ya⟩;rw[hq,Ya];clear hq Ya;go_wp2
  go_roundw
  case rel=>exact⟨m+1,by omega,by go_num,HN,by first | rfl | trivial⟩
  case measure=>simp[intOf];omega
 have HV:Hid (c.vars.all (λv=>Wd v n)=true):=RB _ c.vars m Z7 hall.o
 obtain⟨wo,rfl⟩:∃wo:World,wo=wr:=⟨_,rfl⟩;go_wp2
 clear Uo hall Z7;go_loopw [24] (λi wr=>∃m:Nat,m<=c.lits.length/\i=.int .i64 m/\Hid ((c.lits.take m).all (λl=>Wd l.var n)=true)/\Bw w wr) (λi _=>c.lits.length - (intOf i).toNat)
 case atStart=>exact⟨0,by omega,rfl,rfl,WB⟩
 obtain⟨m,Uo,rfl,hall,Z3⟩:=hrel;by_cases Z7:m<c.lits.length
 ·obtain⟨t,hz⟩:∃z,c.lits[m]? = some z:=⟨c.lits[m],by simp[Z7]⟩
  obtain⟨b,off,ha,hb,d0,d1,d2⟩:=HL.o m t hz;have fC:=(Z3.cell (p:=⟨b,off+m * 3,none⟩) hb).trans d0;have hd1:=(Z3.cell (p:=⟨b,off+m * 3+1,none⟩) hb).trans d1;have hd2:=(Z3.cell (p:=⟨b,off+m * 3+2,none⟩) hb).trans d2;have HZ:=hI hz;have Y':=Z3.size;subst ha;clear hz d0 d1 d2;cases hq:Wd t.var n
  ·have HN:Hid (R=false):=by rw[HE.o,HV.o,SJ (λl:MLit=>Wd l.var n) c.lits m t HZ.o hq];rfl
   go_wp2_with fail
   refine (JF _ _ _).mono ?_;rintro e w2 ⟨rfl,Ya⟩;rw[hq,Ya];clear hq Ya;go_wp2
   go_ret
   exact⟨ZD HN.o.symm,Z3.alloc Y' _⟩
  have HN:Hid ((c.lits.take (m+1)).all (λl=>Wd l.var n)=true):=RF _ c.lits m t HZ.o hall.o hq
  go_wp2_with fail
  refine (JF _ _ _).mono ?_;rintro e w2 ⟨rfl,Ya⟩;rw[hq,Ya];clear hq Ya;go_wp2
  go_roundw
  case rel=>exact⟨m+1,by omega,by go_num,HN,Z3.alloc Y' _⟩
  case measure=>simp[intOf];omega
 have HN:Hid (R=true):=by rw[HE.o,HV.o,RB _ c.lits m Z7 hall.o];rfl
 go_wp2
 go_ret
 exact⟨ZD HN.o.symm,Z3⟩
theorem pO (c:MCon) (vv vc vr vl:Value) (w:World) (hk:KArg w vv vc vr vl c) :
 Calls prog 184 #[conV vv vc vr vl c] w λe w'=>e=.returned (.bool (RI c))/\Bw w w':=by
 obtain⟨_,Yb,⟨a3,c3,rfl,Vk,hr3⟩,_⟩:=hk;have Sh:Hid (∀o:Obj,IArg (w.alloc o) vc c.consts):=λo=>IArg.below (Z4 _ _) Yb
 have HV:=hI hr3;obtain⟨R,hR⟩:∃R,RI c=R:=⟨_,rfl⟩;rw[hR];have hE:R=(c.consts.all XC&&(XC c.n&&c.rows.all λr=>r.all XC)):=by rw[<-hR];rfl
 unfold maxLen at Vk;obtain⟨Ns,Vk⟩:=Vk;clear hr3 hR Yb;unfold conV;cases h1:c.consts.all XC
 ·have HN:Hid (R=false):=by rw[hE,h1];rfl
  have H1:=hI h1;clear h1 hE;go_enter func184,ntmps184
  go_wp2_with fail
  refine (DU c.consts _ _ (Sh.o _)).mono ?_;rintro e w2 ⟨rfl,Ya⟩;rw[H1.o,Ya];clear Ya;go_wp2
  go_ret
  exact⟨ZD HN.o.symm,Z4 _ _⟩
 have H1:=hI h1;cases h2:XC c.n
 ·have HN:Hid (R=false):=by rw[hE,h1,h2];rfl
  have H2:=hI h2;clear h1 h2 hE;go_enter func184,ntmps184
  go_wp2_with fail
  refine (DU c.consts _ _ (Sh.o _)).mono ?_;rintro e w2 ⟨rfl,Ya⟩;rw[H1.o,Ya];clear Ya;go_wp2_with fail
  refine (Fc _ _).mono ?_;rintro e w2 ⟨rfl,Ya⟩;rw[H2.o,Ya];clear Ya;go_wp2
  go_ret
  exact⟨ZD HN.o.symm,Z4 _ _⟩
 have HE:Hid (R=c.rows.all λr=>r.all XC):=by rw[hE,h1,h2];rfl
 have H2:=hI h2;clear h1 h2 hE;go_enter func184,ntmps184
 go_wp2_with fail
 refine (DU c.consts _ _ (Sh.o _)).mono ?_;rintro e w2 ⟨rfl,Ya⟩;rw[H1.o,Ya];clear Ya;go_wp2_with fail
 refine (Fc _ _).mono ?_;rintro e w2 ⟨rfl,Ya⟩;rw[H2.o,Ya];clear Ya;go_wp2
 obtain⟨w0,Qk⟩:∃w0:World,w0=w.alloc (.cells #[.int .i64 c.kind,vv,vc,.int .i64 c.n,.slice a3 c.rows.length c3,vl] 69):=⟨_,rfl⟩;rw[<-Qk];have WB:Bw w w0:=by rw[Qk];exact Z4 _ _
 clear Qk;go_loopw [18] (λi wr=>∃m:Nat,m<=c.rows.length/\i=.int .i64 m/\Hid ((c.rows.take m).all (λr=>r.all XC)=true)/\wr=w0) (λi _=>c.rows.length - (intOf i).toNat)
 case atStart=>exact⟨0,by omega,rfl,rfl,rfl⟩
 obtain⟨m,Uo,rfl,hall,rfl⟩:=hrel;by_cases Z7:m<c.rows.length
 ·obtain⟨z,hz⟩:∃z,c.rows[m]? = some z:=⟨c.rows[m],by simp[Z7]⟩
  obtain⟨b,off,x,ha,hb,hc,hx⟩:=HV.o m z hz;have Wj:=(WB.cell (p:=⟨b,off+m,none⟩) hb).trans hc;have HX:Hid (IArg wr x z):=IArg.below WB hx;have HZ:=hI hz;subst ha;clear hz hc hx;cases hq:z.all XC
  ·have HN:Hid (R=false):=by rw[HE.o];exact SJ (λr:List Int=>r.all XC) c.rows m z HZ.o hq
   have HQ:=hI hq;clear hq;go_wp2_with fail
   refine (DU z _ _ HX.o).mono ?_;rintro e w2 ⟨rfl,Ya⟩;rw[HQ.o,Ya];clear Ya;go_wp2
   go_ret
   exact⟨ZD HN.o.symm,WB⟩
  have HN:Hid ((c.rows.take (m+1)).all (λr=>r.all XC)=true):=RF _ c.rows m z HZ.o hall.o hq
  have HQ:=hI hq;clear hq;go_wp2_with fail
  refine (DU z _ _ HX.o).mono ?_;rintro e w2 ⟨rfl,Ya⟩;rw[HQ.o,Ya];clear Ya;go_wp2
  go_roundw
  case rel=>exact⟨m+1,by omega,by go_num,HN,by first | rfl | trivial⟩
  case measure=>simp[intOf];omega
 have HN:Hid (R=true):=by rw[HE.o];exact RB _ c.rows m Z7 hall.o
 go_wp2
 go_ret
 exact⟨ZD HN.o.symm,WB⟩
theorem AF (c:MCon) (vv vc vr vl:Value) (w:World) (hk:KArg w vv vc vr vl c) (l1:c.vars.length<=4) (l2:c.consts.length<=8) (l3:c.rows.length<=20) (l4:c.lits.length<=4) :
 Calls prog 182 #[conV vv vc vr vl c] w λe w'=>e=.returned (.bool (UT c))/\Bw w w':=by
 obtain⟨⟨a1,c1,rfl,_,_⟩,⟨a2,c2,rfl,_,_⟩,hr,⟨a4,c4,rfl,_,_⟩⟩:=hk;have VG:Hid (∀w':World,Bw w w'->RArg w' vr c.rows):=λw' h=>RArg.below h hr
 obtain⟨a3,c3,rfl,_,_⟩:=hr;obtain⟨R,hR⟩:∃R,UT c=R:=⟨_,rfl⟩;rw[hR];unfold UT at hR;unfold conV;by_cases h1:c.kind=1
 ·have X6:R=(decide (1<=c.vars.length)&&(decide (c.consts.length=c.vars.length)&&decide (c.rows.length+c.lits.length=0))):=by rw[<-hR,if_pos (by omega)]
  have HR:=hI X6;have YD:(c.kind==1)=true:=by simpa using h1
  clear hR X6 h1;go_enter func182,ntmps182
  go_wp2
  go_quiet (fail)
  go_wp2
  all_goals
   go_ret
   refine⟨ZD ?_,below_drewN (Z4 _ _) _⟩;rw[HR.o];clear HR VG
   first
    | rfl
    | (try simp only[beq_iff_eq] at *
       rw[Yg];simp only[ZB,decide_eq_true_eq,beq_iff_eq,XO,false_iff];omega)
 skip
 by_cases h2:c.kind=2
 ·have WY:R=(decide (1<=c.vars.length)&&(decide (c.consts.length=c.vars.length)&&decide (c.rows.length+c.lits.length=0))):=by rw[<-hR,if_pos (by omega)]
  have HR:=hI WY;have YD:(c.kind==2)=true:=by simpa using h2
  have W9:(c.kind==1)=false:=by simpa using h1
  clear hR WY h1 h2;go_enter func182,ntmps182
  go_wp2
  go_quiet (fail)
  go_wp2
  all_goals
   go_ret
   refine⟨ZD ?_,below_drewN (Z4 _ _) _⟩;rw[HR.o];clear HR VG
   first
    | rfl
    | (try simp only[beq_eq_false_iff_ne,beq_iff_eq,ne_eq] at *
       rw[Yg];simp only[ZB,decide_eq_true_eq,beq_iff_eq,XO,false_iff];omega)
 skip
 by_cases h3:c.kind=3
 ·have SK:R=(decide (1<=c.vars.length)&&(decide (c.consts.length=c.vars.length)&&decide (c.rows.length+c.lits.length=0))):=by rw[<-hR,if_pos (by omega)]
  have HR:=hI SK;have YD:(c.kind==3)=true:=by simpa using h3
  have W9:(c.kind==1)=false:=by simpa using h1
  have Ye:(c.kind==2)=false:=by simpa using h2
  clear hR SK h1 h2 h3;go_enter func182,ntmps182
  go_wp2
  go_quiet (fail)
  go_wp2
  all_goals
   go_ret
   refine⟨ZD ?_,below_drewN (Z4 _ _) _⟩;rw[HR.o];clear HR VG
   first
    | rfl
    | (try simp only[beq_eq_false_iff_ne,beq_iff_eq,ne_eq] at *
       rw[Yg];simp only[ZB,decide_eq_true_eq,beq_iff_eq,XO,false_iff];omega)
 skip
 have Tt:¬(c.kind=1∨c.kind=2∨c.kind=3):=by omega
 rw[if_neg Tt] at hR;by_cases hn:c.n=0
 ·skip
  rw[if_neg (by omega)] at hR
  have US:(c.n != 0)=false:=by simpa using hn
  by_cases h4:c.kind=4
  ·rw[if_pos h4] at hR
   have HR:Hid (R=(decide (1<=c.vars.length)&&decide (c.consts.length+c.rows.length+c.lits.length=0))):=hR.symm;have YD:(c.kind==4)=true:=by simpa using h4
   have W9:(c.kind==1)=false:=by simpa using h1
   have Ye:(c.kind==2)=false:=by simpa using h2
   have Yj:(c.kind==3)=false:=by simpa using h3
   clear hR hn h1 h2 h3 h4 Tt;go_enter func182,ntmps182
   go_wp2
   go_quiet (fail)
   go_wp2
   all_goals
    go_ret
    refine⟨ZD ?_,below_drewN (Z4 _ _) _⟩;rw[HR.o];clear HR VG
    first
     | rfl
     | (try simp only[beq_eq_false_iff_ne,beq_iff_eq,ne_eq] at *
        rw[Yg];simp only[ZB,decide_eq_true_eq,beq_iff_eq,XO,false_iff];omega)
  skip
  rw[if_neg h4] at hR;by_cases h5:c.kind=5
  ·rw[if_pos h5] at hR
   have HR:Hid (R=(decide (c.vars.length=2)&&(decide (1<=c.consts.length)&&decide (c.rows.length+c.lits.length=0)))):=hR.symm;have YD:(c.kind==5)=true:=by simpa using h5
   have W9:(c.kind==1)=false:=by simpa using h1
   have Ye:(c.kind==2)=false:=by simpa using h2
   have Yj:(c.kind==3)=false:=by simpa using h3
   have Vj:(c.kind==4)=false:=by simpa using h4
   clear hR hn h1 h2 h3 h4 h5 Tt;go_enter func182,ntmps182
   go_wp2
   go_quiet (fail)
   go_wp2
   all_goals
    go_ret
    refine⟨ZD ?_,below_drewN (Z4 _ _) _⟩;rw[HR.o];clear HR VG
    first
     | rfl
     | (try simp only[beq_eq_false_iff_ne,beq_iff_eq,ne_eq] at *
        rw[Yg];simp only[ZB,decide_eq_true_eq,beq_iff_eq,XO,false_iff];omega)
  skip
  rw[if_neg h5] at hR;by_cases h6:c.kind=6
  ·rw[if_pos h6] at hR
   have YD:(c.kind==6)=true:=by simpa using h6
   have W9:(c.kind==1)=false:=by simpa using h1
   have Ye:(c.kind==2)=false:=by simpa using h2
   have Yj:(c.kind==3)=false:=by simpa using h3
   have Vj:(c.kind==4)=false:=by simpa using h4
   have RA:(c.kind==5)=false:=by simpa using h5
   clear hn Tt h1 h2 h3 h4 h5 h6;by_cases g1:1<=c.vars.length
   ·by_cases g2:c.consts.length+c.lits.length=0
    ·have HR:Hid (R=c.rows.all λr=>decide (r.length=c.vars.length)):=by rw[<-hR,decide_eq_true g1,decide_eq_true g2];rfl
     clear hR;go_enter func182,ntmps182
     go_wp2
     go_quiet (fail)
     go_wp2_with fail
     refine (eN c.rows _ c.vars.length _ (VG.o _ (below_drewN (Z4 _ _) _))).mono ?_;rintro e w2 ⟨rfl,Ya⟩;rw[Ya];clear Ya;go_wp2
     go_ret
     exact⟨ZD HR.o.symm,below_drewN (Z4 _ _) _⟩
    have HR:Hid (R=false):=by rw[<-hR,decide_eq_true g1,decide_eq_false g2];rfl
    have g3:¬(c.consts.length:Int)+(c.lits.length:Int)=0:=by omega
    clear hR;go_enter func182,ntmps182
    go_wp2
    go_quiet (fail)
    go_wp2
    all_goals (go_ret;exact⟨ZD (by rw[HR.o]),below_drewN (Z4 _ _) _⟩)
   have HR:Hid (R=false):=by rw[<-hR,decide_eq_false g1];rfl
   clear hR;go_enter func182,ntmps182
   go_wp2
   go_quiet (fail)
   go_wp2
   all_goals (go_ret;exact⟨ZD (by rw[HR.o]),below_drewN (Z4 _ _) _⟩)
  skip
  rw[if_neg h6] at hR;by_cases h7:c.kind=7
  ·rw[if_pos h7] at hR
   have HR:Hid (R=(decide (c.vars.length=3)&&decide (c.consts.length+c.rows.length+c.lits.length=0))):=hR.symm;have YD:(c.kind==7)=true:=by simpa using h7
   have W9:(c.kind==1)=false:=by simpa using h1
   have Ye:(c.kind==2)=false:=by simpa using h2
   have Yj:(c.kind==3)=false:=by simpa using h3
   have Vj:(c.kind==4)=false:=by simpa using h4
   have RA:(c.kind==5)=false:=by simpa using h5
   have Ih:(c.kind==6)=false:=by simpa using h6
   clear hR hn h1 h2 h3 h4 h5 h6 h7 Tt;go_enter func182,ntmps182
   go_wp2
   go_quiet (fail)
   go_wp2
   all_goals
    go_ret
    refine⟨ZD ?_,below_drewN (Z4 _ _) _⟩;rw[HR.o];clear HR VG
    first
     | rfl
     | (try simp only[beq_eq_false_iff_ne,beq_iff_eq,ne_eq] at *
        rw[Yg];simp only[ZB,decide_eq_true_eq,beq_iff_eq,XO,false_iff];omega)
  skip
  rw[if_neg h7] at hR;by_cases h8:c.kind=8
  ·rw[if_pos h8] at hR
   have HR:Hid (R=(decide (2<=c.vars.length)&&decide (c.consts.length+c.rows.length+c.lits.length=0))):=hR.symm;have YD:(c.kind==8)=true:=by simpa using h8
   have W9:(c.kind==1)=false:=by simpa using h1
   have Ye:(c.kind==2)=false:=by simpa using h2
   have Yj:(c.kind==3)=false:=by simpa using h3
   have Vj:(c.kind==4)=false:=by simpa using h4
   have RA:(c.kind==5)=false:=by simpa using h5
   have Ih:(c.kind==6)=false:=by simpa using h6
   have xh:(c.kind==7)=false:=by simpa using h7
   clear hR hn h1 h2 h3 h4 h5 h6 h7 h8 Tt;go_enter func182,ntmps182
   go_wp2
   go_quiet (fail)
   go_wp2
   all_goals
    go_ret
    refine⟨ZD ?_,below_drewN (Z4 _ _) _⟩;rw[HR.o];clear HR VG
    first
     | rfl
     | (try simp only[beq_eq_false_iff_ne,beq_iff_eq,ne_eq] at *
        rw[Yg];simp only[ZB,decide_eq_true_eq,beq_iff_eq,XO,false_iff];omega)
  skip
  rw[if_neg h8] at hR;by_cases h9:c.kind=9
  ·rw[if_pos h9] at hR
   have HR:Hid (R=(decide (c.vars.length+c.consts.length+c.rows.length=0))):=hR.symm;have YD:(c.kind==9)=true:=by simpa using h9
   have W9:(c.kind==1)=false:=by simpa using h1
   have Ye:(c.kind==2)=false:=by simpa using h2
   have Yj:(c.kind==3)=false:=by simpa using h3
   have Vj:(c.kind==4)=false:=by simpa using h4
   have RA:(c.kind==5)=false:=by simpa using h5
   have Ih:(c.kind==6)=false:=by simpa using h6
   have xh:(c.kind==7)=false:=by simpa using h7
   have pN:(c.kind==8)=false:=by simpa using h8
   clear hR hn h1 h2 h3 h4 h5 h6 h7 h8 h9 Tt;go_enter func182,ntmps182
   go_wp2
   go_quiet (fail)
   go_wp2
   all_goals
    go_ret
    refine⟨ZD ?_,below_drewN (Z4 _ _) _⟩;rw[HR.o];clear HR VG
    first
     | rfl
     | (try simp only[beq_eq_false_iff_ne,beq_iff_eq,ne_eq] at *
        rw[Yg];simp only[decide_eq_true_eq,beq_iff_eq];omega)
  skip
  rw[if_neg h9] at hR;by_cases Up:c.kind=10
  ·rw[if_pos Up] at hR
   have HR:Hid (R=(decide (c.vars.length=1)&&(decide (c.lits.length=1)&&decide (c.consts.length+c.rows.length=0)))):=hR.symm;have YD:(c.kind==10)=true:=by simpa using Up
   have W9:(c.kind==1)=false:=by simpa using h1
   have Ye:(c.kind==2)=false:=by simpa using h2
   have Yj:(c.kind==3)=false:=by simpa using h3
   have Vj:(c.kind==4)=false:=by simpa using h4
   have RA:(c.kind==5)=false:=by simpa using h5
   have Ih:(c.kind==6)=false:=by simpa using h6
   have xh:(c.kind==7)=false:=by simpa using h7
   have pN:(c.kind==8)=false:=by simpa using h8
   have eL:(c.kind==9)=false:=by simpa using h9
   clear hR hn h1 h2 h3 h4 h5 h6 h7 h8 h9 Up Tt;go_enter func182,ntmps182
   go_wp2
   go_quiet (fail)
   go_wp2
   all_goals
    go_ret
    refine⟨ZD ?_,below_drewN (Z4 _ _) _⟩;rw[HR.o];clear HR VG
    first
     | rfl
     | (try simp only[beq_eq_false_iff_ne,beq_iff_eq,ne_eq] at *
        rw[Yg];simp only[ZB,decide_eq_true_eq,beq_iff_eq,XO,false_iff];omega)
  skip
  rw[if_neg Up] at hR;have HR:Hid (R=false):=hR.symm;have W9:(c.kind==1)=false:=by simpa using h1
  have Ye:(c.kind==2)=false:=by simpa using h2
  have Yj:(c.kind==3)=false:=by simpa using h3
  have Vj:(c.kind==4)=false:=by simpa using h4
  have RA:(c.kind==5)=false:=by simpa using h5
  have Ih:(c.kind==6)=false:=by simpa using h6
  have xh:(c.kind==7)=false:=by simpa using h7
  have pN:(c.kind==8)=false:=by simpa using h8
  have eL:(c.kind==9)=false:=by simpa using h9
  have eK:(c.kind==10)=false:=by simpa using Up
  clear hR hn h1 h2 h3 h4 h5 h6 h7 h8 h9 Up Tt;go_enter func182,ntmps182
  go_wp2
  go_quiet (fail)
  go_wp2
  all_goals (go_ret;exact⟨ZD HR.o.symm,below_drewN (Z4 _ _) _⟩)
 rw[if_pos hn] at hR;have HR:Hid (R=false):=hR.symm;have US:(c.n != 0)=true:=by simpa using hn
 have W9:(c.kind==1)=false:=by simpa using h1
 have Ye:(c.kind==2)=false:=by simpa using h2
 have Yj:(c.kind==3)=false:=by simpa using h3
 clear hR hn h1 h2 h3 Tt;go_enter func182,ntmps182
 go_wp2
 go_quiet (fail)
 go_wp2
 all_goals (go_ret;exact⟨ZD HR.o.symm,below_drewN (Z4 _ _) _⟩)
theorem eJ (c:MCon) (n:Int) (vv vc vr vl:Value) (w:World) (hk:KArg w vv vc vr vl c) :
 Calls prog 113 #[conV vv vc vr vl c,.int .i64 n] w λe w'=>e=.returned (.int .i64 (conE n c))/\Bw w w':=by
 have HK:Hid (∀w':World,Bw w w'->KArg w' vv vc vr vl c):=λw' h=>KArg.below h hk
 obtain⟨⟨a1,c1,rfl,_,_⟩,⟨a2,c2,rfl,_,_⟩,⟨a3,c3,rfl,_,_⟩,⟨a4,c4,rfl,_,_⟩⟩:=hk;obtain⟨R,hR⟩:∃R,conE n c=R:=⟨_,rfl⟩;rw[hR];unfold conE at hR;unfold conV;by_cases YM:1<=c.kind
 ·by_cases Wc:c.kind<=10
  ·rw[if_pos ⟨YM,Wc⟩] at hR
   cases hm:QX c
   ·rw[hm] at hR
    simp only[XO,if_false] at hR;have HM:=hI hm;have HL:Hid (c.vars.length<=4/\c.consts.length<=8/\c.rows.length<=20/\c.lits.length<=4):=by
     simp only[QX,O5,decide_eq_false_iff_not] at hm;exact⟨by omega,by omega,by omega,by omega⟩
    clear hm;cases hf:UT c
    ·rw[hf] at hR
     have HE:Hid (R=1):=hR.symm;have HF:=hI hf;clear hf hR;go_enter func113,ntmps113
     go_wp2_with fail
     refine (DS c _ _ _ _ _ (HK.o _ (Z4 _ _))).mono ?_;rintro e w1 ⟨rfl,hb⟩;rw[HM.o];have ZU:Hid (Bw w w1):=(Z4 _ _).trans (hb.mono (by simp))
     have Za:Hid (w.heap.size+1<=w1.heap.size):=show w.heap.size+1<=w1.heap.size by simpa using hb.size
     have d10:w1.cell? ⟨w.heap.size,0,none⟩=some (.int .i64 c.kind):=(hb.cell (by simp)).trans (by simp)
     have d11:w1.cell? ⟨w.heap.size,1,none⟩=some (.slice a1 c.vars.length c1):=(hb.cell (by simp)).trans (by simp)
     have d12:w1.cell? ⟨w.heap.size,2,none⟩=some (.slice a2 c.consts.length c2):=(hb.cell (by simp)).trans (by simp)
     have d13:w1.cell? ⟨w.heap.size,3,none⟩=some (.int .i64 c.n):=(hb.cell (by simp)).trans (by simp)
     have d14:w1.cell? ⟨w.heap.size,4,none⟩=some (.slice a3 c.rows.length c3):=(hb.cell (by simp)).trans (by simp)
     have d15:w1.cell? ⟨w.heap.size,5,none⟩=some (.slice a4 c.lits.length c4):=(hb.cell (by simp)).trans (by simp)
     clear hb;go_wp2_with fail
     refine (AF c _ _ _ _ _ (HK.o _ ZU.o) HL.o.1 HL.o.2.1 HL.o.2.2.1 HL.o.2.2.2).mono ?_;rintro e w2 ⟨rfl,hb⟩;rw[HF.o];have ZI:=hI (ZU.o.trans (hb.mono ZU.o.size));have ZK:Hid (w.heap.size+1<=w2.heap.size):=ZT Za.o hb.size;have d20:=(hb.cell (p:=⟨w.heap.size,0,none⟩) (by have:=Za.o;simp only;omega)).trans d10
     have d21:=(hb.cell (p:=⟨w.heap.size,1,none⟩) (by have:=Za.o;simp only;omega)).trans d11
     have d22:=(hb.cell (p:=⟨w.heap.size,2,none⟩) (by have:=Za.o;simp only;omega)).trans d12
     have d23:=(hb.cell (p:=⟨w.heap.size,3,none⟩) (by have:=Za.o;simp only;omega)).trans d13
     have d24:=(hb.cell (p:=⟨w.heap.size,4,none⟩) (by have:=Za.o;simp only;omega)).trans d14
     have d25:=(hb.cell (p:=⟨w.heap.size,5,none⟩) (by have:=Za.o;simp only;omega)).trans d15
     clear hb d10 d11 d12 d13 d14 d15;go_wp2
     go_ret
     exact⟨Zm HE.o.symm,ZI.o⟩
    rw[hf] at hR;simp only[if_true] at hR;have HF:=hI hf;clear hf;cases hv:QW c n
    ·rw[hv] at hR
     have HE:Hid (R=5):=hR.symm;have HV:=hI hv;clear hv hR;go_enter func113,ntmps113
     go_wp2_with fail
     refine (DS c _ _ _ _ _ (HK.o _ (Z4 _ _))).mono ?_;rintro e w1 ⟨rfl,hb⟩;rw[HM.o];have ZU:Hid (Bw w w1):=(Z4 _ _).trans (hb.mono (by simp))
     have Za:Hid (w.heap.size+1<=w1.heap.size):=show w.heap.size+1<=w1.heap.size by simpa using hb.size
     have d10:w1.cell? ⟨w.heap.size,0,none⟩=some (.int .i64 c.kind):=(hb.cell (by simp)).trans (by simp)
     have d11:w1.cell? ⟨w.heap.size,1,none⟩=some (.slice a1 c.vars.length c1):=(hb.cell (by simp)).trans (by simp)
     have d12:w1.cell? ⟨w.heap.size,2,none⟩=some (.slice a2 c.consts.length c2):=(hb.cell (by simp)).trans (by simp)
     have d13:w1.cell? ⟨w.heap.size,3,none⟩=some (.int .i64 c.n):=(hb.cell (by simp)).trans (by simp)
     have d14:w1.cell? ⟨w.heap.size,4,none⟩=some (.slice a3 c.rows.length c3):=(hb.cell (by simp)).trans (by simp)
     have d15:w1.cell? ⟨w.heap.size,5,none⟩=some (.slice a4 c.lits.length c4):=(hb.cell (by simp)).trans (by simp)
     clear hb;go_wp2_with fail
     refine (AF c _ _ _ _ _ (HK.o _ ZU.o) HL.o.1 HL.o.2.1 HL.o.2.2.1 HL.o.2.2.2).mono ?_;rintro e w2 ⟨rfl,hb⟩;rw[HF.o];have ZI:=hI (ZU.o.trans (hb.mono ZU.o.size));have ZK:Hid (w.heap.size+1<=w2.heap.size):=ZT Za.o hb.size;have d20:=(hb.cell (p:=⟨w.heap.size,0,none⟩) (by have:=Za.o;simp only;omega)).trans d10
     have d21:=(hb.cell (p:=⟨w.heap.size,1,none⟩) (by have:=Za.o;simp only;omega)).trans d11
     have d22:=(hb.cell (p:=⟨w.heap.size,2,none⟩) (by have:=Za.o;simp only;omega)).trans d12
     have d23:=(hb.cell (p:=⟨w.heap.size,3,none⟩) (by have:=Za.o;simp only;omega)).trans d13
     have d24:=(hb.cell (p:=⟨w.heap.size,4,none⟩) (by have:=Za.o;simp only;omega)).trans d14
     have d25:=(hb.cell (p:=⟨w.heap.size,5,none⟩) (by have:=Za.o;simp only;omega)).trans d15
     clear hb d10 d11 d12 d13 d14 d15;go_wp2_with fail
     refine (xi c n _ _ _ _ _ (HK.o _ ZI.o)).mono ?_;rintro e w3 ⟨rfl,hb⟩;rw[HV.o];have ZM:=hI (ZI.o.trans (hb.mono ZI.o.size));have Zq:Hid (w.heap.size+1<=w3.heap.size):=ZT ZK.o hb.size;have d30:=(hb.cell (p:=⟨w.heap.size,0,none⟩) (by have:=ZK.o;simp only;omega)).trans d20
     have d31:=(hb.cell (p:=⟨w.heap.size,1,none⟩) (by have:=ZK.o;simp only;omega)).trans d21
     have d32:=(hb.cell (p:=⟨w.heap.size,2,none⟩) (by have:=ZK.o;simp only;omega)).trans d22
     have d33:=(hb.cell (p:=⟨w.heap.size,3,none⟩) (by have:=ZK.o;simp only;omega)).trans d23
     have d34:=(hb.cell (p:=⟨w.heap.size,4,none⟩) (by have:=ZK.o;simp only;omega)).trans d24
     have d35:=(hb.cell (p:=⟨w.heap.size,5,none⟩) (by have:=ZK.o;simp only;omega)).trans d25
     clear hb d20 d21 d22 d23 d24 d25;go_wp2
     go_ret
     exact⟨Zm HE.o.symm,ZM.o⟩
    rw[hv] at hR;simp only[if_true] at hR;have HV:=hI hv;clear hv;cases hc:RI c
    ·rw[hc] at hR
     have HE:Hid (R=3):=hR.symm;have HC:=hI hc;clear hc hR;go_enter func113,ntmps113
     go_wp2_with fail
     refine (DS c _ _ _ _ _ (HK.o _ (Z4 _ _))).mono ?_;rintro e w1 ⟨rfl,hb⟩;rw[HM.o];have ZU:Hid (Bw w w1):=(Z4 _ _).trans (hb.mono (by simp))
     have Za:Hid (w.heap.size+1<=w1.heap.size):=show w.heap.size+1<=w1.heap.size by simpa using hb.size
     have d10:w1.cell? ⟨w.heap.size,0,none⟩=some (.int .i64 c.kind):=(hb.cell (by simp)).trans (by simp)
     have d11:w1.cell? ⟨w.heap.size,1,none⟩=some (.slice a1 c.vars.length c1):=(hb.cell (by simp)).trans (by simp)
     have d12:w1.cell? ⟨w.heap.size,2,none⟩=some (.slice a2 c.consts.length c2):=(hb.cell (by simp)).trans (by simp)
     have d13:w1.cell? ⟨w.heap.size,3,none⟩=some (.int .i64 c.n):=(hb.cell (by simp)).trans (by simp)
     have d14:w1.cell? ⟨w.heap.size,4,none⟩=some (.slice a3 c.rows.length c3):=(hb.cell (by simp)).trans (by simp)
     have d15:w1.cell? ⟨w.heap.size,5,none⟩=some (.slice a4 c.lits.length c4):=(hb.cell (by simp)).trans (by simp)
     clear hb;go_wp2_with fail
     refine (AF c _ _ _ _ _ (HK.o _ ZU.o) HL.o.1 HL.o.2.1 HL.o.2.2.1 HL.o.2.2.2).mono ?_;rintro e w2 ⟨rfl,hb⟩;rw[HF.o];have ZI:=hI (ZU.o.trans (hb.mono ZU.o.size));have ZK:Hid (w.heap.size+1<=w2.heap.size):=ZT Za.o hb.size;have d20:=(hb.cell (p:=⟨w.heap.size,0,none⟩) (by have:=Za.o;simp only;omega)).trans d10
     have d21:=(hb.cell (p:=⟨w.heap.size,1,none⟩) (by have:=Za.o;simp only;omega)).trans d11
     have d22:=(hb.cell (p:=⟨w.heap.size,2,none⟩) (by have:=Za.o;simp only;omega)).trans d12
     have d23:=(hb.cell (p:=⟨w.heap.size,3,none⟩) (by have:=Za.o;simp only;omega)).trans d13
     have d24:=(hb.cell (p:=⟨w.heap.size,4,none⟩) (by have:=Za.o;simp only;omega)).trans d14
     have d25:=(hb.cell (p:=⟨w.heap.size,5,none⟩) (by have:=Za.o;simp only;omega)).trans d15
     clear hb d10 d11 d12 d13 d14 d15;go_wp2_with fail
     refine (xi c n _ _ _ _ _ (HK.o _ ZI.o)).mono ?_;rintro e w3 ⟨rfl,hb⟩;rw[HV.o];have ZM:=hI (ZI.o.trans (hb.mono ZI.o.size));have Zq:Hid (w.heap.size+1<=w3.heap.size):=ZT ZK.o hb.size;have d30:=(hb.cell (p:=⟨w.heap.size,0,none⟩) (by have:=ZK.o;simp only;omega)).trans d20
     have d31:=(hb.cell (p:=⟨w.heap.size,1,none⟩) (by have:=ZK.o;simp only;omega)).trans d21
     have d32:=(hb.cell (p:=⟨w.heap.size,2,none⟩) (by have:=ZK.o;simp only;omega)).trans d22
     have d33:=(hb.cell (p:=⟨w.heap.size,3,none⟩) (by have:=ZK.o;simp only;omega)).trans d23
     have d34:=(hb.cell (p:=⟨w.heap.size,4,none⟩) (by have:=ZK.o;simp only;omega)).trans d24
     have d35:=(hb.cell (p:=⟨w.heap.size,5,none⟩) (by have:=ZK.o;simp only;omega)).trans d25
     clear hb d20 d21 d22 d23 d24 d25;go_wp2_with fail
     refine (pO c _ _ _ _ _ (HK.o _ ZM.o)).mono ?_;rintro e w4 ⟨rfl,hb⟩;rw[HC.o];have Yp:=hI (ZM.o.trans (hb.mono ZM.o.size));have X9:Hid (w.heap.size+1<=w4.heap.size):=ZT Zq.o hb.size;have d40:=(hb.cell (p:=⟨w.heap.size,0,none⟩) (by have:=Zq.o;simp only;omega)).trans d30
     have d41:=(hb.cell (p:=⟨w.heap.size,1,none⟩) (by have:=Zq.o;simp only;omega)).trans d31
     have d42:=(hb.cell (p:=⟨w.heap.size,2,none⟩) (by have:=Zq.o;simp only;omega)).trans d32
     have d43:=(hb.cell (p:=⟨w.heap.size,3,none⟩) (by have:=Zq.o;simp only;omega)).trans d33
     have d44:=(hb.cell (p:=⟨w.heap.size,4,none⟩) (by have:=Zq.o;simp only;omega)).trans d34
     have d45:=(hb.cell (p:=⟨w.heap.size,5,none⟩) (by have:=Zq.o;simp only;omega)).trans d35
     clear hb d30 d31 d32 d33 d34 d35;go_wp2
     go_ret
     exact⟨Zm HE.o.symm,Yp.o⟩
    rw[hc] at hR;simp only[if_true] at hR;have HE:Hid (R=Io c.lits):=hR.symm;have HC:=hI hc;clear hc hR;go_enter func113,ntmps113
    go_wp2_with fail
    refine (DS c _ _ _ _ _ (HK.o _ (Z4 _ _))).mono ?_;rintro e w1 ⟨rfl,hb⟩;rw[HM.o];have ZU:Hid (Bw w w1):=(Z4 _ _).trans (hb.mono (by simp))
    have Za:Hid (w.heap.size+1<=w1.heap.size):=show w.heap.size+1<=w1.heap.size by simpa using hb.size
    have d10:w1.cell? ⟨w.heap.size,0,none⟩=some (.int .i64 c.kind):=(hb.cell (by simp)).trans (by simp)
    have d11:w1.cell? ⟨w.heap.size,1,none⟩=some (.slice a1 c.vars.length c1):=(hb.cell (by simp)).trans (by simp)
    have d12:w1.cell? ⟨w.heap.size,2,none⟩=some (.slice a2 c.consts.length c2):=(hb.cell (by simp)).trans (by simp)
    have d13:w1.cell? ⟨w.heap.size,3,none⟩=some (.int .i64 c.n):=(hb.cell (by simp)).trans (by simp)
    have d14:w1.cell? ⟨w.heap.size,4,none⟩=some (.slice a3 c.rows.length c3):=(hb.cell (by simp)).trans (by simp)
    have d15:w1.cell? ⟨w.heap.size,5,none⟩=some (.slice a4 c.lits.length c4):=(hb.cell (by simp)).trans (by simp)
    clear hb;go_wp2_with fail
    refine (AF c _ _ _ _ _ (HK.o _ ZU.o) HL.o.1 HL.o.2.1 HL.o.2.2.1 HL.o.2.2.2).mono ?_;rintro e w2 ⟨rfl,hb⟩;rw[HF.o];have ZI:=hI (ZU.o.trans (hb.mono ZU.o.size));have ZK:Hid (w.heap.size+1<=w2.heap.size):=ZT Za.o hb.size;have d20:=(hb.cell (p:=⟨w.heap.size,0,none⟩) (by have:=Za.o;simp only;omega)).trans d10
    have d21:=(hb.cell (p:=⟨w.heap.size,1,none⟩) (by have:=Za.o;simp only;omega)).trans d11
    have d22:=(hb.cell (p:=⟨w.heap.size,2,none⟩) (by have:=Za.o;simp only;omega)).trans d12
    have d23:=(hb.cell (p:=⟨w.heap.size,3,none⟩) (by have:=Za.o;simp only;omega)).trans d13
    have d24:=(hb.cell (p:=⟨w.heap.size,4,none⟩) (by have:=Za.o;simp only;omega)).trans d14
    have d25:=(hb.cell (p:=⟨w.heap.size,5,none⟩) (by have:=Za.o;simp only;omega)).trans d15
    clear hb d10 d11 d12 d13 d14 d15;go_wp2_with fail
    refine (xi c n _ _ _ _ _ (HK.o _ ZI.o)).mono ?_;rintro e w3 ⟨rfl,hb⟩;rw[HV.o];have ZM:=hI (ZI.o.trans (hb.mono ZI.o.size));have Zq:Hid (w.heap.size+1<=w3.heap.size):=ZT ZK.o hb.size;have d30:=(hb.cell (p:=⟨w.heap.size,0,none⟩) (by have:=ZK.o;simp only;omega)).trans d20
    have d31:=(hb.cell (p:=⟨w.heap.size,1,none⟩) (by have:=ZK.o;simp only;omega)).trans d21
    have d32:=(hb.cell (p:=⟨w.heap.size,2,none⟩) (by have:=ZK.o;simp only;omega)).trans d22
    have d33:=(hb.cell (p:=⟨w.heap.size,3,none⟩) (by have:=ZK.o;simp only;omega)).trans d23
    have d34:=(hb.cell (p:=⟨w.heap.size,4,none⟩) (by have:=ZK.o;simp only;omega)).trans d24
    have d35:=(hb.cell (p:=⟨w.heap.size,5,none⟩) (by have:=ZK.o;simp only;omega)).trans d25
    clear hb d20 d21 d22 d23 d24 d25;go_wp2_with fail
    refine (pO c _ _ _ _ _ (HK.o _ ZM.o)).mono ?_;rintro e w4 ⟨rfl,hb⟩;rw[HC.o];have Yp:=hI (ZM.o.trans (hb.mono ZM.o.size));have X9:Hid (w.heap.size+1<=w4.heap.size):=ZT Zq.o hb.size;have d40:=(hb.cell (p:=⟨w.heap.size,0,none⟩) (by have:=Zq.o;simp only;omega)).trans d30
    have d41:=(hb.cell (p:=⟨w.heap.size,1,none⟩) (by have:=Zq.o;simp only;omega)).trans d31
    have d42:=(hb.cell (p:=⟨w.heap.size,2,none⟩) (by have:=Zq.o;simp only;omega)).trans d32
    have d43:=(hb.cell (p:=⟨w.heap.size,3,none⟩) (by have:=Zq.o;simp only;omega)).trans d33
    have d44:=(hb.cell (p:=⟨w.heap.size,4,none⟩) (by have:=Zq.o;simp only;omega)).trans d34
    have d45:=(hb.cell (p:=⟨w.heap.size,5,none⟩) (by have:=Zq.o;simp only;omega)).trans d35
    clear hb d30 d31 d32 d33 d34 d35;go_wp2_with fail
    refine (eM c.lits _ _ (HK.o _ Yp.o).2.2.2).mono ?_;rintro e w5 ⟨rfl,hb⟩;have Xx:=hI (Yp.o.trans (hb.mono Yp.o.size));go_wp2
    go_ret
    exact⟨Zm HE.o.symm,Xx.o⟩
   rw[hm] at hR;have HE:Hid (R=2):=hR.symm;have HM:=hI hm;clear hm hR;go_enter func113,ntmps113
   go_wp2_with fail
   refine (DS c _ _ _ _ _ (HK.o _ (Z4 _ _))).mono ?_;rintro e w1 ⟨rfl,hb⟩;rw[HM.o];have ZU:Hid (Bw w w1):=(Z4 _ _).trans (hb.mono (by simp))
   have Za:Hid (w.heap.size+1<=w1.heap.size):=show w.heap.size+1<=w1.heap.size by simpa using hb.size
   have d10:w1.cell? ⟨w.heap.size,0,none⟩=some (.int .i64 c.kind):=(hb.cell (by simp)).trans (by simp)
   have d11:w1.cell? ⟨w.heap.size,1,none⟩=some (.slice a1 c.vars.length c1):=(hb.cell (by simp)).trans (by simp)
   have d12:w1.cell? ⟨w.heap.size,2,none⟩=some (.slice a2 c.consts.length c2):=(hb.cell (by simp)).trans (by simp)
   have d13:w1.cell? ⟨w.heap.size,3,none⟩=some (.int .i64 c.n):=(hb.cell (by simp)).trans (by simp)
   have d14:w1.cell? ⟨w.heap.size,4,none⟩=some (.slice a3 c.rows.length c3):=(hb.cell (by simp)).trans (by simp)
   have d15:w1.cell? ⟨w.heap.size,5,none⟩=some (.slice a4 c.lits.length c4):=(hb.cell (by simp)).trans (by simp)
   clear hb;go_wp2
   go_ret
   exact⟨Zm HE.o.symm,ZU.o⟩
  rw[if_neg (λh=>Wc h.2)] at hR
  have HE:Hid (R=7):=hR.symm;clear hR;go_enter func113,ntmps113
  go_wp2
  go_ret
  exact⟨Zm HE.o.symm,Z4 _ _⟩
 rw[if_neg (λh=>YM h.1)] at hR
 have HE:Hid (R=7):=hR.symm;clear hR;go_enter func113,ntmps113
 go_wp2
 go_ret
 exact⟨Zm HE.o.symm,Z4 _ _⟩
theorem eI (m:Mod) (vs cs:Value) (w:World) (hm:MArg w vs cs m) :
 Calls prog 114 #[modV vs cs m] w λe w'=>e=.returned (.int .i64 (Oe m))/\Bw w w':=by
 obtain⟨⟨a1,c1,rfl,_,_⟩,⟨a2,c2,rfl,_,_⟩⟩:=hm;obtain⟨R,hR⟩:∃R,Oe m=R:=⟨_,rfl⟩;rw[hR];unfold Oe at hR;unfold modV;by_cases h0:m.goal=0
 ·rw[if_pos h0] at hR
  have g0:(m.goal==0)=true:=by simpa using h0
  by_cases hv:m.var=0
  ·rw[if_pos hv] at hR
   have HE:Hid (R=0):=hR.symm;have v0:(m.var != 0)=false:=by simpa using hv
   clear hR h0 hv;go_enter func114,ntmps114
   go_wp2
   go_ret
   exact⟨Zm HE.o.symm,Z4 _ _⟩
  rw[if_neg hv] at hR;have HE:Hid (R=1):=hR.symm;have v0:(m.var != 0)=true:=by simpa using hv
  clear hR h0 hv;go_enter func114,ntmps114
  go_wp2
  go_ret
  exact⟨Zm HE.o.symm,Z4 _ _⟩
 rw[if_neg h0] at hR;have g0:(m.goal==0)=false:=by simpa using h0
 by_cases Nr:m.goal=1∨m.goal=2
 ·rw[if_pos Nr] at hR
  cases hv:Wd m.var m.vars.length
  ·rw[hv] at hR
   have HE:Hid (R=5):=hR.symm;have HV:=hI hv;clear hR h0 hv;rcases Nr with h | h
   ·have g1:(m.goal==1)=true:=by simpa using h
    clear h;go_enter func114,ntmps114
    go_wp2_with fail
    refine (JF _ _ _).mono ?_;rintro e w2 ⟨rfl,Ya⟩;rw[HV.o,Ya];clear Ya;go_wp2
    go_ret
    exact⟨Zm HE.o.symm,Z4 _ _⟩
   have g1:(m.goal==1)=false:=by simp[h]
   have g2:(m.goal==2)=true:=by simpa using h
   clear h;go_enter func114,ntmps114
   go_wp2_with fail
   refine (JF _ _ _).mono ?_;rintro e w2 ⟨rfl,Ya⟩;rw[HV.o,Ya];clear Ya;go_wp2
   go_ret
   exact⟨Zm HE.o.symm,Z4 _ _⟩
  rw[hv] at hR;have HE:Hid (R=0):=hR.symm;have HV:=hI hv;clear hR h0 hv;rcases Nr with h | h
  ·have g1:(m.goal==1)=true:=by simpa using h
   clear h;go_enter func114,ntmps114
   go_wp2_with fail
   refine (JF _ _ _).mono ?_;rintro e w2 ⟨rfl,Ya⟩;rw[HV.o,Ya];clear Ya;go_wp2
   go_ret
   exact⟨Zm HE.o.symm,Z4 _ _⟩
  have g1:(m.goal==1)=false:=by simp[h]
  have g2:(m.goal==2)=true:=by simpa using h
  clear h;go_enter func114,ntmps114
  go_wp2_with fail
  refine (JF _ _ _).mono ?_;rintro e w2 ⟨rfl,Ya⟩;rw[HV.o,Ya];clear Ya;go_wp2
  go_ret
  exact⟨Zm HE.o.symm,Z4 _ _⟩
 rw[if_neg Nr] at hR;have HE:Hid (R=7):=hR.symm;have g1:(m.goal==1)=false:=by simpa using (λh=>Nr (Or.inl h))
 have g2:(m.goal==2)=false:=by simpa using (λh=>Nr (Or.inr h))
 clear hR h0 Nr;go_enter func114,ntmps114
 go_wp2
 go_ret
 exact⟨Zm HE.o.symm,Z4 _ _⟩
end Go.Proofs.YtndcpnlaadikoaaGreatDoor
