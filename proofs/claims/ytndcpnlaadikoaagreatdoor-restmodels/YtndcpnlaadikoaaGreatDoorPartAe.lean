/- What the proof leans on, part 5. -/
import Derived.Test.YtndcpnlaadikoaaGreatDoorPartAd
set_option maxRecDepth 100000
set_option maxHeartbeats 1600000
namespace Go.Proofs.YtndcpnlaadikoaaGreatDoor
open Go.RowKit
theorem zFd (c:MCon) (vv vc vr vl:Value) (w:World) (hk:KArg w vv vc vr vl c) :
 Calls Tryz.prog 184 #[conV vv vc vr vl c] w fun e w'=>e=.returned (.bool (zDE c))∧Below w.heap.size w w':=by
 obtain⟨_,hc2,⟨a3,c3,rfl,hm3,hr3⟩,_⟩:=hk;have HC2:Hid (∀o:Obj,IArg (w.alloc o) vc c.consts):=fun o=>IArg.below (zAA _ _) hc2
 have HV:Hid (∀(i:Nat) (r:List Int),c.rows[i]? = some r→∃b off x,a3=some ⟨b,off,none⟩∧b<w.heap.size∧w.cell? ⟨b,off+i,none⟩=some x∧IArg w x r):=hr3;obtain⟨R,hR⟩:∃R,zDE c=R:=⟨_,rfl⟩;rw[hR];have hE:R=(c.consts.all zAT&&(zAT c.n&&c.rows.all fun r=>r.all zAT)):=by rw[←hR];rfl
 unfold maxLen at hm3;obtain⟨hm31,hm3⟩:=hm3;clear hr3 hR hc2;unfold conV;cases h1:c.consts.all zAT
 ·have HN:Hid (R=false):=by rw[hE,h1];rfl
  have H1:Hid (c.consts.all zAT=false):=h1;clear h1 hE;go_enter Tryz.func184,Tryz.ntmps184
  go_wp2_with fail
  refine (zDo c.consts _ _ (HC2.out _)).mono ?_;rintro e w2 ⟨rfl,hw2⟩;rw[H1.out,hw2];clear hw2;go_wp2
  go_ret
  exact⟨zAD HN.out.symm,zAA _ _⟩
 ·have H1:Hid (c.consts.all zAT=true):=h1
  cases h2:zAT c.n
  ·have HN:Hid (R=false):=by rw[hE,h1,h2];rfl
   have H2:Hid (zAT c.n=false):=h2;clear h1 h2 hE;go_enter Tryz.func184,Tryz.ntmps184
   go_wp2_with fail
   refine (zDo c.consts _ _ (HC2.out _)).mono ?_;rintro e w2 ⟨rfl,hw2⟩;rw[H1.out,hw2];clear hw2;go_wp2_with fail
   refine (zCZ _ _).mono ?_;rintro e w2 ⟨rfl,hw2⟩;rw[H2.out,hw2];clear hw2;go_wp2
   go_ret
   exact⟨zAD HN.out.symm,zAA _ _⟩
  ·have HE:Hid (R=c.rows.all fun r=>r.all zAT):=by rw[hE,h1,h2];rfl
   have H2:Hid (zAT c.n=true):=h2;clear h1 h2 hE;go_enter Tryz.func184,Tryz.ntmps184
   go_wp2_with fail
   refine (zDo c.consts _ _ (HC2.out _)).mono ?_;rintro e w2 ⟨rfl,hw2⟩;rw[H1.out,hw2];clear hw2;go_wp2_with fail
   refine (zCZ _ _).mono ?_;rintro e w2 ⟨rfl,hw2⟩;rw[H2.out,hw2];clear hw2;go_wp2
   obtain⟨w0,hw0⟩:∃w0:World,w0=w.alloc (.cells #[.int .i64 c.kind,vv,vc,.int .i64 c.n,.slice a3 c.rows.length c3,vl] 69):=⟨_,rfl⟩;rw[←hw0];have hb0:Below w.heap.size w w0:=by rw[hw0];exact zAA _ _
   clear hw0;go_loopw [18] (fun i wr=>∃m:Nat,m≤c.rows.length∧i=.int .i64 m∧Hid ((c.rows.take m).all (fun r=>r.all zAT)=true)∧wr=w0) (fun i _=>c.rows.length - (intOf i).toNat)
   case atStart=>exact⟨0,by omega,rfl,rfl,rfl⟩
   case round =>
    obtain⟨m,hml,rfl,hall,rfl⟩:=hrel;by_cases hlt:m<c.rows.length
    ·obtain⟨z,hz⟩:∃z,c.rows[m]? = some z:=⟨c.rows[m],by simp[hlt]⟩
     obtain⟨b,off,x,ha,hb,hc,hx⟩:=HV.out m z hz;have hcr:=(hb0.cell (p:=⟨b,off+m,none⟩) hb).trans hc;have HX:Hid (IArg wr x z):=IArg.below hb0 hx;have HZ:Hid (c.rows[m]? = some z):=hz;subst ha;clear hz hc hx;cases hq:z.all zAT
     ·have HN:Hid (R=false):=by rw[HE.out];exact zCx (fun r:List Int=>r.all zAT) c.rows m z HZ.out hq
      have HQ:Hid (z.all zAT=false):=hq;clear hq;go_wp2_with fail
      refine (zDo z _ _ HX.out).mono ?_;rintro e w2 ⟨rfl,hw2⟩;rw[HQ.out,hw2];clear hw2;go_wp2
      go_ret
      exact⟨zAD HN.out.symm,hb0⟩
     ·have HN:Hid ((c.rows.take (m+1)).all (fun r=>r.all zAT)=true):=zCj _ c.rows m z HZ.out hall.out hq
      have HQ:Hid (z.all zAT=true):=hq;clear hq;go_wp2_with fail
      refine (zDo z _ _ HX.out).mono ?_;rintro e w2 ⟨rfl,hw2⟩;rw[HQ.out,hw2];clear hw2;go_wp2
      go_roundw
      case rel=>exact⟨m+1,by omega,by go_num,HN,by first | rfl | trivial⟩
      case measure=>simp[intOf];omega
    ·have HN:Hid (R=true):=by rw[HE.out];exact zDf _ c.rows m hlt hall.out
     go_wp2
     go_ret
     exact⟨zAD HN.out.symm,hb0⟩
theorem zG2 (c:MCon) (vv vc vr vl:Value) (w:World) (hk:KArg w vv vc vr vl c) (l1:c.vars.length≤4) (l2:c.consts.length≤8) (l3:c.rows.length≤20) (l4:c.lits.length≤4) :
 Calls Tryz.prog 182 #[conV vv vc vr vl c] w fun e w'=>e=.returned (.bool (zCJ c))∧Below w.heap.size w w':=by
 obtain⟨⟨a1,c1,rfl,_,_⟩,⟨a2,c2,rfl,_,_⟩,hr,⟨a4,c4,rfl,_,_⟩⟩:=hk;have HRR:Hid (∀w':World,Below w.heap.size w w'→RArg w' vr c.rows):=fun w' h=>RArg.below h hr
 obtain⟨a3,c3,rfl,_,_⟩:=hr;obtain⟨R,hR⟩:∃R,zCJ c=R:=⟨_,rfl⟩;rw[hR];unfold zCJ at hR;unfold conV;by_cases h1:c.kind=1
 ·have hk1:R=(decide (1≤c.vars.length)&&(decide (c.consts.length=c.vars.length)&&decide (c.rows.length+c.lits.length=0))):=by rw[←hR,if_pos (by omega)]
  have HR:Hid (R=_):=hk1;have hkk:(c.kind==1)=true:=by simpa using h1
  clear hR hk1 h1;go_enter Tryz.func182,Tryz.ntmps182
  go_wp2
  go_quiet (fail)
  go_wp2
  all_goals
   go_ret
   refine⟨zAD ?_,below_drewN (zAA _ _) _⟩;rw[HR.out];clear HR HRR
   first
    | rfl
    | (try simp only[beq_iff_eq] at *
       rw[Bool.eq_iff_iff];simp only[Bool.and_eq_true,decide_eq_true_eq,beq_iff_eq,Bool.false_eq_true,false_iff];omega)
 ·skip
  by_cases h2:c.kind=2
  ·have hk2:R=(decide (1≤c.vars.length)&&(decide (c.consts.length=c.vars.length)&&decide (c.rows.length+c.lits.length=0))):=by rw[←hR,if_pos (by omega)]
   have HR:Hid (R=_):=hk2;have hkk:(c.kind==2)=true:=by simpa using h2
   have hf1:(c.kind==1)=false:=by simpa using h1
   clear hR hk2 h1 h2;go_enter Tryz.func182,Tryz.ntmps182
   go_wp2
   go_quiet (fail)
   go_wp2
   all_goals
    go_ret
    refine⟨zAD ?_,below_drewN (zAA _ _) _⟩;rw[HR.out];clear HR HRR
    first
     | rfl
     | (try simp only[beq_eq_false_iff_ne,beq_iff_eq,ne_eq] at *
        rw[Bool.eq_iff_iff];simp only[Bool.and_eq_true,decide_eq_true_eq,beq_iff_eq,Bool.false_eq_true,false_iff];omega)
  ·skip
   by_cases h3:c.kind=3
   ·have hk3:R=(decide (1≤c.vars.length)&&(decide (c.consts.length=c.vars.length)&&decide (c.rows.length+c.lits.length=0))):=by rw[←hR,if_pos (by omega)]
    have HR:Hid (R=_):=hk3;have hkk:(c.kind==3)=true:=by simpa using h3
    have hf1:(c.kind==1)=false:=by simpa using h1
    have hf2:(c.kind==2)=false:=by simpa using h2
    clear hR hk3 h1 h2 h3;go_enter Tryz.func182,Tryz.ntmps182
    go_wp2
    go_quiet (fail)
    go_wp2
    all_goals
     go_ret
     refine⟨zAD ?_,below_drewN (zAA _ _) _⟩;rw[HR.out];clear HR HRR
     first
      | rfl
      | (try simp only[beq_eq_false_iff_ne,beq_iff_eq,ne_eq] at *
         rw[Bool.eq_iff_iff];simp only[Bool.and_eq_true,decide_eq_true_eq,beq_iff_eq,Bool.false_eq_true,false_iff];omega)
   ·skip
    have h123:¬(c.kind=1∨c.kind=2∨c.kind=3):=by omega
    rw[if_neg h123] at hR;by_cases hn:c.n=0
    ·skip
     rw[if_neg (by omega)] at hR
     have hn0:(c.n != 0)=false:=by simpa using hn
     by_cases h4:c.kind=4
     ·rw[if_pos h4] at hR
      have HR:Hid (R=(decide (1≤c.vars.length)&&decide (c.consts.length+c.rows.length+c.lits.length=0))):=hR.symm;have hkk:(c.kind==4)=true:=by simpa using h4
      have hf1:(c.kind==1)=false:=by simpa using h1
      have hf2:(c.kind==2)=false:=by simpa using h2
      have hf3:(c.kind==3)=false:=by simpa using h3
      clear hR hn h1 h2 h3 h4 h123;go_enter Tryz.func182,Tryz.ntmps182
      go_wp2
      go_quiet (fail)
      go_wp2
      all_goals
       go_ret
       refine⟨zAD ?_,below_drewN (zAA _ _) _⟩;rw[HR.out];clear HR HRR
       first
        | rfl
        | (try simp only[beq_eq_false_iff_ne,beq_iff_eq,ne_eq] at *
           rw[Bool.eq_iff_iff];simp only[Bool.and_eq_true,decide_eq_true_eq,beq_iff_eq,Bool.false_eq_true,false_iff];omega)
     ·skip
      rw[if_neg h4] at hR;by_cases h5:c.kind=5
      ·rw[if_pos h5] at hR
       have HR:Hid (R=(decide (c.vars.length=2)&&(decide (1≤c.consts.length)&&decide (c.rows.length+c.lits.length=0)))):=hR.symm;have hkk:(c.kind==5)=true:=by simpa using h5
       have hf1:(c.kind==1)=false:=by simpa using h1
       have hf2:(c.kind==2)=false:=by simpa using h2
       have hf3:(c.kind==3)=false:=by simpa using h3
       have hf4:(c.kind==4)=false:=by simpa using h4
       clear hR hn h1 h2 h3 h4 h5 h123;go_enter Tryz.func182,Tryz.ntmps182
       go_wp2
       go_quiet (fail)
       go_wp2
       all_goals
        go_ret
        refine⟨zAD ?_,below_drewN (zAA _ _) _⟩;rw[HR.out];clear HR HRR
        first
         | rfl
         | (try simp only[beq_eq_false_iff_ne,beq_iff_eq,ne_eq] at *
            rw[Bool.eq_iff_iff];simp only[Bool.and_eq_true,decide_eq_true_eq,beq_iff_eq,Bool.false_eq_true,false_iff];omega)
      ·skip
       rw[if_neg h5] at hR;by_cases h6:c.kind=6
       ·rw[if_pos h6] at hR
        have hkk:(c.kind==6)=true:=by simpa using h6
        have hf1:(c.kind==1)=false:=by simpa using h1
        have hf2:(c.kind==2)=false:=by simpa using h2
        have hf3:(c.kind==3)=false:=by simpa using h3
        have hf4:(c.kind==4)=false:=by simpa using h4
        have hf5:(c.kind==5)=false:=by simpa using h5
        clear hn h123 h1 h2 h3 h4 h5 h6;by_cases g1:1≤c.vars.length
        ·by_cases g2:c.consts.length+c.lits.length=0
         ·have HR:Hid (R=c.rows.all fun r=>decide (r.length=c.vars.length)):=by rw[←hR,decide_eq_true g1,decide_eq_true g2];rfl
          clear hR;go_enter Tryz.func182,Tryz.ntmps182
          go_wp2
          go_quiet (fail)
          go_wp2_with fail
          refine (zQV c.rows _ c.vars.length _ (HRR.out _ (below_drewN (zAA _ _) _))).mono ?_;rintro e w2 ⟨rfl,hw2⟩;rw[hw2];clear hw2;go_wp2
          go_ret
          exact⟨zAD HR.out.symm,below_drewN (zAA _ _) _⟩
         ·have HR:Hid (R=false):=by rw[←hR,decide_eq_true g1,decide_eq_false g2];rfl
          have g3:¬(c.consts.length:Int)+(c.lits.length:Int)=0:=by omega
          clear hR;go_enter Tryz.func182,Tryz.ntmps182
          go_wp2
          go_quiet (fail)
          go_wp2
          all_goals (go_ret;exact⟨zAD (by rw[HR.out]),below_drewN (zAA _ _) _⟩)
        ·have HR:Hid (R=false):=by rw[←hR,decide_eq_false g1];rfl
         clear hR;go_enter Tryz.func182,Tryz.ntmps182
         go_wp2
         go_quiet (fail)
         go_wp2
         all_goals (go_ret;exact⟨zAD (by rw[HR.out]),below_drewN (zAA _ _) _⟩)
       ·skip
        rw[if_neg h6] at hR;by_cases h7:c.kind=7
        ·rw[if_pos h7] at hR
         have HR:Hid (R=(decide (c.vars.length=3)&&decide (c.consts.length+c.rows.length+c.lits.length=0))):=hR.symm;have hkk:(c.kind==7)=true:=by simpa using h7
         have hf1:(c.kind==1)=false:=by simpa using h1
         have hf2:(c.kind==2)=false:=by simpa using h2
         have hf3:(c.kind==3)=false:=by simpa using h3
         have hf4:(c.kind==4)=false:=by simpa using h4
         have hf5:(c.kind==5)=false:=by simpa using h5
         have hf6:(c.kind==6)=false:=by simpa using h6
         clear hR hn h1 h2 h3 h4 h5 h6 h7 h123;go_enter Tryz.func182,Tryz.ntmps182
         go_wp2
         go_quiet (fail)
         go_wp2
         all_goals
          go_ret
          refine⟨zAD ?_,below_drewN (zAA _ _) _⟩;rw[HR.out];clear HR HRR
          first
           | rfl
           | (try simp only[beq_eq_false_iff_ne,beq_iff_eq,ne_eq] at *
              rw[Bool.eq_iff_iff];simp only[Bool.and_eq_true,decide_eq_true_eq,beq_iff_eq,Bool.false_eq_true,false_iff];omega)
        ·skip
         rw[if_neg h7] at hR;by_cases h8:c.kind=8
         ·rw[if_pos h8] at hR
          have HR:Hid (R=(decide (2≤c.vars.length)&&decide (c.consts.length+c.rows.length+c.lits.length=0))):=hR.symm;have hkk:(c.kind==8)=true:=by simpa using h8
          have hf1:(c.kind==1)=false:=by simpa using h1
          have hf2:(c.kind==2)=false:=by simpa using h2
          have hf3:(c.kind==3)=false:=by simpa using h3
          have hf4:(c.kind==4)=false:=by simpa using h4
          have hf5:(c.kind==5)=false:=by simpa using h5
          have hf6:(c.kind==6)=false:=by simpa using h6
          have hf7:(c.kind==7)=false:=by simpa using h7
          clear hR hn h1 h2 h3 h4 h5 h6 h7 h8 h123;go_enter Tryz.func182,Tryz.ntmps182
          go_wp2
          go_quiet (fail)
          go_wp2
          all_goals
           go_ret
           refine⟨zAD ?_,below_drewN (zAA _ _) _⟩;rw[HR.out];clear HR HRR
           first
            | rfl
            | (try simp only[beq_eq_false_iff_ne,beq_iff_eq,ne_eq] at *
               rw[Bool.eq_iff_iff];simp only[Bool.and_eq_true,decide_eq_true_eq,beq_iff_eq,Bool.false_eq_true,false_iff];omega)
         ·skip
          rw[if_neg h8] at hR;by_cases h9:c.kind=9
          ·rw[if_pos h9] at hR
           have HR:Hid (R=(decide (c.vars.length+c.consts.length+c.rows.length=0))):=hR.symm;have hkk:(c.kind==9)=true:=by simpa using h9
           have hf1:(c.kind==1)=false:=by simpa using h1
           have hf2:(c.kind==2)=false:=by simpa using h2
           have hf3:(c.kind==3)=false:=by simpa using h3
           have hf4:(c.kind==4)=false:=by simpa using h4
           have hf5:(c.kind==5)=false:=by simpa using h5
           have hf6:(c.kind==6)=false:=by simpa using h6
           have hf7:(c.kind==7)=false:=by simpa using h7
           have hf8:(c.kind==8)=false:=by simpa using h8
           clear hR hn h1 h2 h3 h4 h5 h6 h7 h8 h9 h123;go_enter Tryz.func182,Tryz.ntmps182
           go_wp2
           go_quiet (fail)
           go_wp2
           all_goals
            go_ret
            refine⟨zAD ?_,below_drewN (zAA _ _) _⟩;rw[HR.out];clear HR HRR
            first
             | rfl
             | (try simp only[beq_eq_false_iff_ne,beq_iff_eq,ne_eq] at *
                rw[Bool.eq_iff_iff];simp only[decide_eq_true_eq,beq_iff_eq];omega)
          ·skip
           rw[if_neg h9] at hR;by_cases h10:c.kind=10
           ·rw[if_pos h10] at hR
            have HR:Hid (R=(decide (c.vars.length=1)&&(decide (c.lits.length=1)&&decide (c.consts.length+c.rows.length=0)))):=hR.symm;have hkk:(c.kind==10)=true:=by simpa using h10
            have hf1:(c.kind==1)=false:=by simpa using h1
            have hf2:(c.kind==2)=false:=by simpa using h2
            have hf3:(c.kind==3)=false:=by simpa using h3
            have hf4:(c.kind==4)=false:=by simpa using h4
            have hf5:(c.kind==5)=false:=by simpa using h5
            have hf6:(c.kind==6)=false:=by simpa using h6
            have hf7:(c.kind==7)=false:=by simpa using h7
            have hf8:(c.kind==8)=false:=by simpa using h8
            have hf9:(c.kind==9)=false:=by simpa using h9
            clear hR hn h1 h2 h3 h4 h5 h6 h7 h8 h9 h10 h123;go_enter Tryz.func182,Tryz.ntmps182
            go_wp2
            go_quiet (fail)
            go_wp2
            all_goals
             go_ret
             refine⟨zAD ?_,below_drewN (zAA _ _) _⟩;rw[HR.out];clear HR HRR
             first
              | rfl
              | (try simp only[beq_eq_false_iff_ne,beq_iff_eq,ne_eq] at *
                 rw[Bool.eq_iff_iff];simp only[Bool.and_eq_true,decide_eq_true_eq,beq_iff_eq,Bool.false_eq_true,false_iff];omega)
           ·skip
            rw[if_neg h10] at hR;have HR:Hid (R=false):=hR.symm;have hf1:(c.kind==1)=false:=by simpa using h1
            have hf2:(c.kind==2)=false:=by simpa using h2
            have hf3:(c.kind==3)=false:=by simpa using h3
            have hf4:(c.kind==4)=false:=by simpa using h4
            have hf5:(c.kind==5)=false:=by simpa using h5
            have hf6:(c.kind==6)=false:=by simpa using h6
            have hf7:(c.kind==7)=false:=by simpa using h7
            have hf8:(c.kind==8)=false:=by simpa using h8
            have hf9:(c.kind==9)=false:=by simpa using h9
            have hf10:(c.kind==10)=false:=by simpa using h10
            clear hR hn h1 h2 h3 h4 h5 h6 h7 h8 h9 h10 h123;go_enter Tryz.func182,Tryz.ntmps182
            go_wp2
            go_quiet (fail)
            go_wp2
            all_goals (go_ret;exact⟨zAD HR.out.symm,below_drewN (zAA _ _) _⟩)
    ·rw[if_pos hn] at hR
     have HR:Hid (R=false):=hR.symm;have hn0:(c.n != 0)=true:=by simpa using hn
     have hf1:(c.kind==1)=false:=by simpa using h1
     have hf2:(c.kind==2)=false:=by simpa using h2
     have hf3:(c.kind==3)=false:=by simpa using h3
     clear hR hn h1 h2 h3 h123;go_enter Tryz.func182,Tryz.ntmps182
     go_wp2
     go_quiet (fail)
     go_wp2
     all_goals (go_ret;exact⟨zAD HR.out.symm,below_drewN (zAA _ _) _⟩)
theorem zSI (c:MCon) (n:Int) (vv vc vr vl:Value) (w:World) (hk:KArg w vv vc vr vl c) :
 Calls Tryz.prog 113 #[conV vv vc vr vl c,.int .i64 n] w fun e w'=>e=.returned (.int .i64 (conE n c))∧Below w.heap.size w w':=by
 have HK:Hid (∀w':World,Below w.heap.size w w'→KArg w' vv vc vr vl c):=fun w' h=>KArg.below h hk
 obtain⟨⟨a1,c1,rfl,_,_⟩,⟨a2,c2,rfl,_,_⟩,⟨a3,c3,rfl,_,_⟩,⟨a4,c4,rfl,_,_⟩⟩:=hk;obtain⟨R,hR⟩:∃R,conE n c=R:=⟨_,rfl⟩;rw[hR];unfold conE at hR;unfold conV;by_cases hlo:1≤c.kind
 ·by_cases hhi:c.kind≤10
  ·rw[if_pos ⟨hlo,hhi⟩] at hR
   cases hm:zFa c
   ·rw[hm] at hR
    simp only[Bool.false_eq_true,if_false] at hR;have HM:Hid (zFa c=false):=hm;have HL:Hid (c.vars.length≤4∧c.consts.length≤8∧c.rows.length≤20∧c.lits.length≤4):=by
     simp only[zFa,Bool.or_eq_false_iff,decide_eq_false_iff_not] at hm;exact⟨by omega,by omega,by omega,by omega⟩
    clear hm;cases hf:zCJ c
    ·rw[hf] at hR
     have HE:Hid (R=1):=hR.symm;have HF:Hid (zCJ c=false):=hf;clear hf hR;go_enter Tryz.func113,Tryz.ntmps113
     go_wp2_with fail
     refine (zFc c _ _ _ _ _ (HK.out _ (zAA _ _))).mono ?_;rintro e w1 ⟨rfl,hb⟩;rw[HM.out];have HB1:Hid (Below w.heap.size w w1):=(zAA _ _).trans (hb.mono (by simp))
     have HS1:Hid (w.heap.size+1≤w1.heap.size):=show w.heap.size+1≤w1.heap.size by simpa using hb.size
     have d10:w1.cell? ⟨w.heap.size,0,none⟩=some (.int .i64 c.kind):=(hb.cell (by simp)).trans (by simp)
     have d11:w1.cell? ⟨w.heap.size,1,none⟩=some (.slice a1 c.vars.length c1):=(hb.cell (by simp)).trans (by simp)
     have d12:w1.cell? ⟨w.heap.size,2,none⟩=some (.slice a2 c.consts.length c2):=(hb.cell (by simp)).trans (by simp)
     have d13:w1.cell? ⟨w.heap.size,3,none⟩=some (.int .i64 c.n):=(hb.cell (by simp)).trans (by simp)
     have d14:w1.cell? ⟨w.heap.size,4,none⟩=some (.slice a3 c.rows.length c3):=(hb.cell (by simp)).trans (by simp)
     have d15:w1.cell? ⟨w.heap.size,5,none⟩=some (.slice a4 c.lits.length c4):=(hb.cell (by simp)).trans (by simp)
     clear hb;go_wp2_with fail
     refine (zG2 c _ _ _ _ _ (HK.out _ HB1.out) HL.out.1 HL.out.2.1 HL.out.2.2.1 HL.out.2.2.2).mono ?_;rintro e w2 ⟨rfl,hb⟩;rw[HF.out];have HB2:Hid (Below w.heap.size w w2):=HB1.out.trans (hb.mono HB1.out.size);have HS2:Hid (w.heap.size+1≤w2.heap.size):=Nat.le_trans HS1.out hb.size;have d20:=(hb.cell (p:=⟨w.heap.size,0,none⟩) (by have:=HS1.out;simp only;omega)).trans d10
     have d21:=(hb.cell (p:=⟨w.heap.size,1,none⟩) (by have:=HS1.out;simp only;omega)).trans d11
     have d22:=(hb.cell (p:=⟨w.heap.size,2,none⟩) (by have:=HS1.out;simp only;omega)).trans d12
     have d23:=(hb.cell (p:=⟨w.heap.size,3,none⟩) (by have:=HS1.out;simp only;omega)).trans d13
     have d24:=(hb.cell (p:=⟨w.heap.size,4,none⟩) (by have:=HS1.out;simp only;omega)).trans d14
     have d25:=(hb.cell (p:=⟨w.heap.size,5,none⟩) (by have:=HS1.out;simp only;omega)).trans d15
     clear hb d10 d11 d12 d13 d14 d15;go_wp2
     go_ret
     exact⟨zAI HE.out.symm,HB2.out⟩
    ·rw[hf] at hR
     simp only[if_true] at hR;have HF:Hid (zCJ c=true):=hf;clear hf;cases hv:zHF c n
     ·rw[hv] at hR
      have HE:Hid (R=5):=hR.symm;have HV:Hid (zHF c n=false):=hv;clear hv hR;go_enter Tryz.func113,Tryz.ntmps113
      go_wp2_with fail
      refine (zFc c _ _ _ _ _ (HK.out _ (zAA _ _))).mono ?_;rintro e w1 ⟨rfl,hb⟩;rw[HM.out];have HB1:Hid (Below w.heap.size w w1):=(zAA _ _).trans (hb.mono (by simp))
      have HS1:Hid (w.heap.size+1≤w1.heap.size):=show w.heap.size+1≤w1.heap.size by simpa using hb.size
      have d10:w1.cell? ⟨w.heap.size,0,none⟩=some (.int .i64 c.kind):=(hb.cell (by simp)).trans (by simp)
      have d11:w1.cell? ⟨w.heap.size,1,none⟩=some (.slice a1 c.vars.length c1):=(hb.cell (by simp)).trans (by simp)
      have d12:w1.cell? ⟨w.heap.size,2,none⟩=some (.slice a2 c.consts.length c2):=(hb.cell (by simp)).trans (by simp)
      have d13:w1.cell? ⟨w.heap.size,3,none⟩=some (.int .i64 c.n):=(hb.cell (by simp)).trans (by simp)
      have d14:w1.cell? ⟨w.heap.size,4,none⟩=some (.slice a3 c.rows.length c3):=(hb.cell (by simp)).trans (by simp)
      have d15:w1.cell? ⟨w.heap.size,5,none⟩=some (.slice a4 c.lits.length c4):=(hb.cell (by simp)).trans (by simp)
      clear hb;go_wp2_with fail
      refine (zG2 c _ _ _ _ _ (HK.out _ HB1.out) HL.out.1 HL.out.2.1 HL.out.2.2.1 HL.out.2.2.2).mono ?_;rintro e w2 ⟨rfl,hb⟩;rw[HF.out];have HB2:Hid (Below w.heap.size w w2):=HB1.out.trans (hb.mono HB1.out.size);have HS2:Hid (w.heap.size+1≤w2.heap.size):=Nat.le_trans HS1.out hb.size;have d20:=(hb.cell (p:=⟨w.heap.size,0,none⟩) (by have:=HS1.out;simp only;omega)).trans d10
      have d21:=(hb.cell (p:=⟨w.heap.size,1,none⟩) (by have:=HS1.out;simp only;omega)).trans d11
      have d22:=(hb.cell (p:=⟨w.heap.size,2,none⟩) (by have:=HS1.out;simp only;omega)).trans d12
      have d23:=(hb.cell (p:=⟨w.heap.size,3,none⟩) (by have:=HS1.out;simp only;omega)).trans d13
      have d24:=(hb.cell (p:=⟨w.heap.size,4,none⟩) (by have:=HS1.out;simp only;omega)).trans d14
      have d25:=(hb.cell (p:=⟨w.heap.size,5,none⟩) (by have:=HS1.out;simp only;omega)).trans d15
      clear hb d10 d11 d12 d13 d14 d15;go_wp2_with fail
      refine (zJX c n _ _ _ _ _ (HK.out _ HB2.out)).mono ?_;rintro e w3 ⟨rfl,hb⟩;rw[HV.out];have HB3:Hid (Below w.heap.size w w3):=HB2.out.trans (hb.mono HB2.out.size);have HS3:Hid (w.heap.size+1≤w3.heap.size):=Nat.le_trans HS2.out hb.size;have d30:=(hb.cell (p:=⟨w.heap.size,0,none⟩) (by have:=HS2.out;simp only;omega)).trans d20
      have d31:=(hb.cell (p:=⟨w.heap.size,1,none⟩) (by have:=HS2.out;simp only;omega)).trans d21
      have d32:=(hb.cell (p:=⟨w.heap.size,2,none⟩) (by have:=HS2.out;simp only;omega)).trans d22
      have d33:=(hb.cell (p:=⟨w.heap.size,3,none⟩) (by have:=HS2.out;simp only;omega)).trans d23
      have d34:=(hb.cell (p:=⟨w.heap.size,4,none⟩) (by have:=HS2.out;simp only;omega)).trans d24
      have d35:=(hb.cell (p:=⟨w.heap.size,5,none⟩) (by have:=HS2.out;simp only;omega)).trans d25
      clear hb d20 d21 d22 d23 d24 d25;go_wp2
      go_ret
      exact⟨zAI HE.out.symm,HB3.out⟩
     ·rw[hv] at hR
      simp only[if_true] at hR;have HV:Hid (zHF c n=true):=hv;clear hv;cases hc:zDE c
      ·rw[hc] at hR
       have HE:Hid (R=3):=hR.symm;have HC:Hid (zDE c=false):=hc;clear hc hR;go_enter Tryz.func113,Tryz.ntmps113
       go_wp2_with fail
       refine (zFc c _ _ _ _ _ (HK.out _ (zAA _ _))).mono ?_;rintro e w1 ⟨rfl,hb⟩;rw[HM.out];have HB1:Hid (Below w.heap.size w w1):=(zAA _ _).trans (hb.mono (by simp))
       have HS1:Hid (w.heap.size+1≤w1.heap.size):=show w.heap.size+1≤w1.heap.size by simpa using hb.size
       have d10:w1.cell? ⟨w.heap.size,0,none⟩=some (.int .i64 c.kind):=(hb.cell (by simp)).trans (by simp)
       have d11:w1.cell? ⟨w.heap.size,1,none⟩=some (.slice a1 c.vars.length c1):=(hb.cell (by simp)).trans (by simp)
       have d12:w1.cell? ⟨w.heap.size,2,none⟩=some (.slice a2 c.consts.length c2):=(hb.cell (by simp)).trans (by simp)
       have d13:w1.cell? ⟨w.heap.size,3,none⟩=some (.int .i64 c.n):=(hb.cell (by simp)).trans (by simp)
       have d14:w1.cell? ⟨w.heap.size,4,none⟩=some (.slice a3 c.rows.length c3):=(hb.cell (by simp)).trans (by simp)
       have d15:w1.cell? ⟨w.heap.size,5,none⟩=some (.slice a4 c.lits.length c4):=(hb.cell (by simp)).trans (by simp)
       clear hb;go_wp2_with fail
       refine (zG2 c _ _ _ _ _ (HK.out _ HB1.out) HL.out.1 HL.out.2.1 HL.out.2.2.1 HL.out.2.2.2).mono ?_;rintro e w2 ⟨rfl,hb⟩;rw[HF.out];have HB2:Hid (Below w.heap.size w w2):=HB1.out.trans (hb.mono HB1.out.size);have HS2:Hid (w.heap.size+1≤w2.heap.size):=Nat.le_trans HS1.out hb.size;have d20:=(hb.cell (p:=⟨w.heap.size,0,none⟩) (by have:=HS1.out;simp only;omega)).trans d10
       have d21:=(hb.cell (p:=⟨w.heap.size,1,none⟩) (by have:=HS1.out;simp only;omega)).trans d11
       have d22:=(hb.cell (p:=⟨w.heap.size,2,none⟩) (by have:=HS1.out;simp only;omega)).trans d12
       have d23:=(hb.cell (p:=⟨w.heap.size,3,none⟩) (by have:=HS1.out;simp only;omega)).trans d13
       have d24:=(hb.cell (p:=⟨w.heap.size,4,none⟩) (by have:=HS1.out;simp only;omega)).trans d14
       have d25:=(hb.cell (p:=⟨w.heap.size,5,none⟩) (by have:=HS1.out;simp only;omega)).trans d15
       clear hb d10 d11 d12 d13 d14 d15;go_wp2_with fail
       refine (zJX c n _ _ _ _ _ (HK.out _ HB2.out)).mono ?_;rintro e w3 ⟨rfl,hb⟩;rw[HV.out];have HB3:Hid (Below w.heap.size w w3):=HB2.out.trans (hb.mono HB2.out.size);have HS3:Hid (w.heap.size+1≤w3.heap.size):=Nat.le_trans HS2.out hb.size;have d30:=(hb.cell (p:=⟨w.heap.size,0,none⟩) (by have:=HS2.out;simp only;omega)).trans d20
       have d31:=(hb.cell (p:=⟨w.heap.size,1,none⟩) (by have:=HS2.out;simp only;omega)).trans d21
       have d32:=(hb.cell (p:=⟨w.heap.size,2,none⟩) (by have:=HS2.out;simp only;omega)).trans d22
       have d33:=(hb.cell (p:=⟨w.heap.size,3,none⟩) (by have:=HS2.out;simp only;omega)).trans d23
       have d34:=(hb.cell (p:=⟨w.heap.size,4,none⟩) (by have:=HS2.out;simp only;omega)).trans d24
       have d35:=(hb.cell (p:=⟨w.heap.size,5,none⟩) (by have:=HS2.out;simp only;omega)).trans d25
       clear hb d20 d21 d22 d23 d24 d25;go_wp2_with fail
       refine (zFd c _ _ _ _ _ (HK.out _ HB3.out)).mono ?_;rintro e w4 ⟨rfl,hb⟩;rw[HC.out];have HB4:Hid (Below w.heap.size w w4):=HB3.out.trans (hb.mono HB3.out.size);have HS4:Hid (w.heap.size+1≤w4.heap.size):=Nat.le_trans HS3.out hb.size;have d40:=(hb.cell (p:=⟨w.heap.size,0,none⟩) (by have:=HS3.out;simp only;omega)).trans d30
       have d41:=(hb.cell (p:=⟨w.heap.size,1,none⟩) (by have:=HS3.out;simp only;omega)).trans d31
       have d42:=(hb.cell (p:=⟨w.heap.size,2,none⟩) (by have:=HS3.out;simp only;omega)).trans d32
       have d43:=(hb.cell (p:=⟨w.heap.size,3,none⟩) (by have:=HS3.out;simp only;omega)).trans d33
       have d44:=(hb.cell (p:=⟨w.heap.size,4,none⟩) (by have:=HS3.out;simp only;omega)).trans d34
       have d45:=(hb.cell (p:=⟨w.heap.size,5,none⟩) (by have:=HS3.out;simp only;omega)).trans d35
       clear hb d30 d31 d32 d33 d34 d35;go_wp2
       go_ret
       exact⟨zAI HE.out.symm,HB4.out⟩
      ·rw[hc] at hR
       simp only[if_true] at hR;have HE:Hid (R=zNW c.lits):=hR.symm;have HC:Hid (zDE c=true):=hc;clear hc hR;go_enter Tryz.func113,Tryz.ntmps113
       go_wp2_with fail
       refine (zFc c _ _ _ _ _ (HK.out _ (zAA _ _))).mono ?_;rintro e w1 ⟨rfl,hb⟩;rw[HM.out];have HB1:Hid (Below w.heap.size w w1):=(zAA _ _).trans (hb.mono (by simp))
       have HS1:Hid (w.heap.size+1≤w1.heap.size):=show w.heap.size+1≤w1.heap.size by simpa using hb.size
       have d10:w1.cell? ⟨w.heap.size,0,none⟩=some (.int .i64 c.kind):=(hb.cell (by simp)).trans (by simp)
       have d11:w1.cell? ⟨w.heap.size,1,none⟩=some (.slice a1 c.vars.length c1):=(hb.cell (by simp)).trans (by simp)
       have d12:w1.cell? ⟨w.heap.size,2,none⟩=some (.slice a2 c.consts.length c2):=(hb.cell (by simp)).trans (by simp)
       have d13:w1.cell? ⟨w.heap.size,3,none⟩=some (.int .i64 c.n):=(hb.cell (by simp)).trans (by simp)
       have d14:w1.cell? ⟨w.heap.size,4,none⟩=some (.slice a3 c.rows.length c3):=(hb.cell (by simp)).trans (by simp)
       have d15:w1.cell? ⟨w.heap.size,5,none⟩=some (.slice a4 c.lits.length c4):=(hb.cell (by simp)).trans (by simp)
       clear hb;go_wp2_with fail
       refine (zG2 c _ _ _ _ _ (HK.out _ HB1.out) HL.out.1 HL.out.2.1 HL.out.2.2.1 HL.out.2.2.2).mono ?_;rintro e w2 ⟨rfl,hb⟩;rw[HF.out];have HB2:Hid (Below w.heap.size w w2):=HB1.out.trans (hb.mono HB1.out.size);have HS2:Hid (w.heap.size+1≤w2.heap.size):=Nat.le_trans HS1.out hb.size;have d20:=(hb.cell (p:=⟨w.heap.size,0,none⟩) (by have:=HS1.out;simp only;omega)).trans d10
       have d21:=(hb.cell (p:=⟨w.heap.size,1,none⟩) (by have:=HS1.out;simp only;omega)).trans d11
       have d22:=(hb.cell (p:=⟨w.heap.size,2,none⟩) (by have:=HS1.out;simp only;omega)).trans d12
       have d23:=(hb.cell (p:=⟨w.heap.size,3,none⟩) (by have:=HS1.out;simp only;omega)).trans d13
       have d24:=(hb.cell (p:=⟨w.heap.size,4,none⟩) (by have:=HS1.out;simp only;omega)).trans d14
       have d25:=(hb.cell (p:=⟨w.heap.size,5,none⟩) (by have:=HS1.out;simp only;omega)).trans d15
       clear hb d10 d11 d12 d13 d14 d15;go_wp2_with fail
       refine (zJX c n _ _ _ _ _ (HK.out _ HB2.out)).mono ?_;rintro e w3 ⟨rfl,hb⟩;rw[HV.out];have HB3:Hid (Below w.heap.size w w3):=HB2.out.trans (hb.mono HB2.out.size);have HS3:Hid (w.heap.size+1≤w3.heap.size):=Nat.le_trans HS2.out hb.size;have d30:=(hb.cell (p:=⟨w.heap.size,0,none⟩) (by have:=HS2.out;simp only;omega)).trans d20
       have d31:=(hb.cell (p:=⟨w.heap.size,1,none⟩) (by have:=HS2.out;simp only;omega)).trans d21
       have d32:=(hb.cell (p:=⟨w.heap.size,2,none⟩) (by have:=HS2.out;simp only;omega)).trans d22
       have d33:=(hb.cell (p:=⟨w.heap.size,3,none⟩) (by have:=HS2.out;simp only;omega)).trans d23
       have d34:=(hb.cell (p:=⟨w.heap.size,4,none⟩) (by have:=HS2.out;simp only;omega)).trans d24
       have d35:=(hb.cell (p:=⟨w.heap.size,5,none⟩) (by have:=HS2.out;simp only;omega)).trans d25
       clear hb d20 d21 d22 d23 d24 d25;go_wp2_with fail
       refine (zFd c _ _ _ _ _ (HK.out _ HB3.out)).mono ?_;rintro e w4 ⟨rfl,hb⟩;rw[HC.out];have HB4:Hid (Below w.heap.size w w4):=HB3.out.trans (hb.mono HB3.out.size);have HS4:Hid (w.heap.size+1≤w4.heap.size):=Nat.le_trans HS3.out hb.size;have d40:=(hb.cell (p:=⟨w.heap.size,0,none⟩) (by have:=HS3.out;simp only;omega)).trans d30
       have d41:=(hb.cell (p:=⟨w.heap.size,1,none⟩) (by have:=HS3.out;simp only;omega)).trans d31
       have d42:=(hb.cell (p:=⟨w.heap.size,2,none⟩) (by have:=HS3.out;simp only;omega)).trans d32
       have d43:=(hb.cell (p:=⟨w.heap.size,3,none⟩) (by have:=HS3.out;simp only;omega)).trans d33
       have d44:=(hb.cell (p:=⟨w.heap.size,4,none⟩) (by have:=HS3.out;simp only;omega)).trans d34
       have d45:=(hb.cell (p:=⟨w.heap.size,5,none⟩) (by have:=HS3.out;simp only;omega)).trans d35
       clear hb d30 d31 d32 d33 d34 d35;go_wp2_with fail
       refine (zQW c.lits _ _ (HK.out _ HB4.out).2.2.2).mono ?_;rintro e w5 ⟨rfl,hb⟩;have HB5:Hid (Below w.heap.size w w5):=HB4.out.trans (hb.mono HB4.out.size);go_wp2
       go_ret
       exact⟨zAI HE.out.symm,HB5.out⟩
   ·rw[hm] at hR
    have HE:Hid (R=2):=hR.symm;have HM:Hid (zFa c=true):=hm;clear hm hR;go_enter Tryz.func113,Tryz.ntmps113
    go_wp2_with fail
    refine (zFc c _ _ _ _ _ (HK.out _ (zAA _ _))).mono ?_;rintro e w1 ⟨rfl,hb⟩;rw[HM.out];have HB1:Hid (Below w.heap.size w w1):=(zAA _ _).trans (hb.mono (by simp))
    have HS1:Hid (w.heap.size+1≤w1.heap.size):=show w.heap.size+1≤w1.heap.size by simpa using hb.size
    have d10:w1.cell? ⟨w.heap.size,0,none⟩=some (.int .i64 c.kind):=(hb.cell (by simp)).trans (by simp)
    have d11:w1.cell? ⟨w.heap.size,1,none⟩=some (.slice a1 c.vars.length c1):=(hb.cell (by simp)).trans (by simp)
    have d12:w1.cell? ⟨w.heap.size,2,none⟩=some (.slice a2 c.consts.length c2):=(hb.cell (by simp)).trans (by simp)
    have d13:w1.cell? ⟨w.heap.size,3,none⟩=some (.int .i64 c.n):=(hb.cell (by simp)).trans (by simp)
    have d14:w1.cell? ⟨w.heap.size,4,none⟩=some (.slice a3 c.rows.length c3):=(hb.cell (by simp)).trans (by simp)
    have d15:w1.cell? ⟨w.heap.size,5,none⟩=some (.slice a4 c.lits.length c4):=(hb.cell (by simp)).trans (by simp)
    clear hb;go_wp2
    go_ret
    exact⟨zAI HE.out.symm,HB1.out⟩
  ·rw[if_neg (fun h=>hhi h.2)] at hR
   have HE:Hid (R=7):=hR.symm;clear hR;go_enter Tryz.func113,Tryz.ntmps113
   go_wp2
   go_ret
   exact⟨zAI HE.out.symm,zAA _ _⟩
 ·rw[if_neg (fun h=>hlo h.1)] at hR
  have HE:Hid (R=7):=hR.symm;clear hR;go_enter Tryz.func113,Tryz.ntmps113
  go_wp2
  go_ret
  exact⟨zAI HE.out.symm,zAA _ _⟩
theorem zQX (m:Mod) (vs cs:Value) (w:World) (hm:MArg w vs cs m) :
 Calls Tryz.prog 114 #[modV vs cs m] w fun e w'=>e=.returned (.int .i64 (zJT m))∧Below w.heap.size w w':=by
 obtain⟨⟨a1,c1,rfl,_,_⟩,⟨a2,c2,rfl,_,_⟩⟩:=hm;obtain⟨R,hR⟩:∃R,zJT m=R:=⟨_,rfl⟩;rw[hR];unfold zJT at hR;unfold modV;by_cases h0:m.goal=0
 ·rw[if_pos h0] at hR
  have g0:(m.goal==0)=true:=by simpa using h0
  by_cases hv:m.var=0
  ·rw[if_pos hv] at hR
   have HE:Hid (R=0):=hR.symm;have v0:(m.var != 0)=false:=by simpa using hv
   clear hR h0 hv;go_enter Tryz.func114,Tryz.ntmps114
   go_wp2
   go_ret
   exact⟨zAI HE.out.symm,zAA _ _⟩
  ·rw[if_neg hv] at hR
   have HE:Hid (R=1):=hR.symm;have v0:(m.var != 0)=true:=by simpa using hv
   clear hR h0 hv;go_enter Tryz.func114,Tryz.ntmps114
   go_wp2
   go_ret
   exact⟨zAI HE.out.symm,zAA _ _⟩
 ·rw[if_neg h0] at hR
  have g0:(m.goal==0)=false:=by simpa using h0
  by_cases h12:m.goal=1∨m.goal=2
  ·rw[if_pos h12] at hR
   cases hv:zBd m.var m.vars.length
   ·rw[hv] at hR
    have HE:Hid (R=5):=hR.symm;have HV:Hid (zBd m.var m.vars.length=false):=hv;clear hR h0 hv;rcases h12 with h | h
    ·have g1:(m.goal==1)=true:=by simpa using h
     clear h;go_enter Tryz.func114,Tryz.ntmps114
     go_wp2_with fail
     refine (zCq _ _ _).mono ?_;rintro e w2 ⟨rfl,hw2⟩;rw[HV.out,hw2];clear hw2;go_wp2
     go_ret
     exact⟨zAI HE.out.symm,zAA _ _⟩
    ·have g1:(m.goal==1)=false:=by simp[h]
     have g2:(m.goal==2)=true:=by simpa using h
     clear h;go_enter Tryz.func114,Tryz.ntmps114
     go_wp2_with fail
     refine (zCq _ _ _).mono ?_;rintro e w2 ⟨rfl,hw2⟩;rw[HV.out,hw2];clear hw2;go_wp2
     go_ret
     exact⟨zAI HE.out.symm,zAA _ _⟩
   ·rw[hv] at hR
    have HE:Hid (R=0):=hR.symm;have HV:Hid (zBd m.var m.vars.length=true):=hv;clear hR h0 hv;rcases h12 with h | h
    ·have g1:(m.goal==1)=true:=by simpa using h
     clear h;go_enter Tryz.func114,Tryz.ntmps114
     go_wp2_with fail
     refine (zCq _ _ _).mono ?_;rintro e w2 ⟨rfl,hw2⟩;rw[HV.out,hw2];clear hw2;go_wp2
     go_ret
     exact⟨zAI HE.out.symm,zAA _ _⟩
    ·have g1:(m.goal==1)=false:=by simp[h]
     have g2:(m.goal==2)=true:=by simpa using h
     clear h;go_enter Tryz.func114,Tryz.ntmps114
     go_wp2_with fail
     refine (zCq _ _ _).mono ?_;rintro e w2 ⟨rfl,hw2⟩;rw[HV.out,hw2];clear hw2;go_wp2
     go_ret
     exact⟨zAI HE.out.symm,zAA _ _⟩
  ·rw[if_neg h12] at hR
   have HE:Hid (R=7):=hR.symm;have g1:(m.goal==1)=false:=by simpa using (fun h=>h12 (Or.inl h))
   have g2:(m.goal==2)=false:=by simpa using (fun h=>h12 (Or.inr h))
   clear hR h0 h12;go_enter Tryz.func114,Tryz.ntmps114
   go_wp2
   go_ret
   exact⟨zAI HE.out.symm,zAA _ _⟩
end Go.Proofs.YtndcpnlaadikoaaGreatDoor
