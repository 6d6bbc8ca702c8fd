/- What the proof leans on, part 5. -/
import Derived.Test.YtndcpnlaadikoaaGreatDoorPartAd
namespace Go.Proofs.YtndcpnlaadikoaaGreatDoor
open Go.RowKit
set_option maxHeartbeats 800000 in
set_option maxRecDepth 100000 in
theorem zDv (c:MCon) (vv vc vr vl:Value) (w:World) (hk:KArg w vv vc vr vl c) :
 Calls Tryz.prog 184 #[conV vv vc vr vl c] w fun e w'=>e=.returned (.bool (zCd c))∧Below w.heap.size w w':=by
 obtain⟨_,hc2,⟨a3,c3,rfl,hm3,hr3⟩,_⟩:=hk
 have HC2:Hid (∀o:Obj,IArg (w.alloc o) vc c.consts):=fun o=>IArg.below (zAA _ _) hc2
 have HV:Hid (∀(i:Nat) (r:List Int),c.rows[i]? = some r→∃b off x,a3=some ⟨b,off,none⟩∧b<w.heap.size∧w.cell? ⟨b,off+i,none⟩=some x∧IArg w x r):=hr3
 obtain⟨R,hR⟩:∃R,zCd c=R:=⟨_,rfl⟩
 rw[hR]
 have hE:R=(c.consts.all zAM&&(zAM c.n&&c.rows.all fun r=>r.all zAM)):=by rw[←hR];rfl
 unfold maxLen at hm3
 obtain⟨hm31,hm3⟩:=hm3
 clear hr3 hR hc2
 unfold conV
 cases h1:c.consts.all zAM
 ·have HN:Hid (R=false):=by rw[hE,h1];rfl
  have H1:Hid (c.consts.all zAM=false):=h1
  clear h1 hE
  go_enter Tryz.func184,Tryz.ntmps184
  go_wp2_with fail
  refine (zCn c.consts _ _ (HC2.out _)).mono ?_
  rintro e w2 ⟨rfl,hw2⟩
  rw[H1.out,hw2]
  clear hw2
  go_wp2
  go_ret
  exact⟨zAB HN.out.symm,zAA _ _⟩
 ·have H1:Hid (c.consts.all zAM=true):=h1
  cases h2:zAM c.n
  ·have HN:Hid (R=false):=by rw[hE,h1,h2];rfl
   have H2:Hid (zAM c.n=false):=h2
   clear h1 h2 hE
   go_enter Tryz.func184,Tryz.ntmps184
   go_wp2_with fail
   refine (zCn c.consts _ _ (HC2.out _)).mono ?_
   rintro e w2 ⟨rfl,hw2⟩
   rw[H1.out,hw2]
   clear hw2
   go_wp2_with fail
   refine (zBn _ _).mono ?_
   rintro e w2 ⟨rfl,hw2⟩
   rw[H2.out,hw2]
   clear hw2
   go_wp2
   go_ret
   exact⟨zAB HN.out.symm,zAA _ _⟩
  ·have HE:Hid (R=c.rows.all fun r=>r.all zAM):=by rw[hE,h1,h2];rfl
   have H2:Hid (zAM c.n=true):=h2
   clear h1 h2 hE
   go_enter Tryz.func184,Tryz.ntmps184
   go_wp2_with fail
   refine (zCn c.consts _ _ (HC2.out _)).mono ?_
   rintro e w2 ⟨rfl,hw2⟩
   rw[H1.out,hw2]
   clear hw2
   go_wp2_with fail
   refine (zBn _ _).mono ?_
   rintro e w2 ⟨rfl,hw2⟩
   rw[H2.out,hw2]
   clear hw2
   go_wp2
   obtain⟨w0,hw0⟩:∃w0:World,w0=w.alloc (.cells #[.int .i64 c.kind,vv,vc,.int .i64 c.n,.slice a3 c.rows.length c3,vl] 69):=⟨_,rfl⟩
   rw[←hw0]
   have hb0:Below w.heap.size w w0:=by rw[hw0];exact zAA _ _
   clear hw0
   go_loopw [18] (fun i wr=>∃m:Nat,m≤c.rows.length∧i=.int .i64 m∧Hid ((c.rows.take m).all (fun r=>r.all zAM)=true)∧wr=w0) (fun i _=>c.rows.length - (intOf i).toNat)
   case atStart=>exact⟨0,by omega,rfl,rfl,rfl⟩
   case round =>
    obtain⟨m,hml,rfl,hall,rfl⟩:=hrel
    by_cases hlt:m<c.rows.length
    ·obtain⟨z,hz⟩:∃z,c.rows[m]? = some z:=⟨c.rows[m],by simp[hlt]⟩
     obtain⟨b,off,x,ha,hb,hc,hx⟩:=HV.out m z hz
     have hcr:=(hb0.cell (p:=⟨b,off+m,none⟩) hb).trans hc
     have HX:Hid (IArg wr x z):=IArg.below hb0 hx
     have HZ:Hid (c.rows[m]? = some z):=hz
     subst ha
     clear hz hc hx
     cases hq:z.all zAM
     ·have HN:Hid (R=false):=by rw[HE.out];exact zDA (fun r:List Int=>r.all zAM) c.rows m z HZ.out hq
      have HQ:Hid (z.all zAM=false):=hq
      clear hq
      go_wp2_with fail
      refine (zCn z _ _ HX.out).mono ?_
      rintro e w2 ⟨rfl,hw2⟩
      rw[HQ.out,hw2]
      clear hw2
      go_wp2
      go_ret
      exact⟨zAB HN.out.symm,hb0⟩
     ·have HN:Hid ((c.rows.take (m+1)).all (fun r=>r.all zAM)=true):=zCw _ c.rows m z HZ.out hall.out hq
      have HQ:Hid (z.all zAM=true):=hq
      clear hq
      go_wp2_with fail
      refine (zCn z _ _ HX.out).mono ?_
      rintro e w2 ⟨rfl,hw2⟩
      rw[HQ.out,hw2]
      clear hw2
      go_wp2
      go_roundw
      case rel=>exact⟨m+1,by omega,by go_num,HN,by first | rfl | trivial⟩
      case measure=>simp[intOf];omega
    ·have HN:Hid (R=true):=by rw[HE.out];exact zDf _ c.rows m hlt hall.out
     go_wp2
     go_ret
     exact⟨zAB HN.out.symm,hb0⟩
set_option maxHeartbeats 1600000 in
set_option maxRecDepth 100000 in
theorem zEw (c:MCon) (vv vc vr vl:Value) (w:World) (hk:KArg w vv vc vr vl c) (l1:c.vars.length≤4) (l2:c.consts.length≤8) (l3:c.rows.length≤20) (l4:c.lits.length≤4) :
 Calls Tryz.prog 182 #[conV vv vc vr vl c] w fun e w'=>e=.returned (.bool (zB9 c))∧Below w.heap.size w w':=by
 obtain⟨⟨a1,c1,rfl,_,_⟩,⟨a2,c2,rfl,_,_⟩,hr,⟨a4,c4,rfl,_,_⟩⟩:=hk
 have HRR:Hid (∀w':World,Below w.heap.size w w'→RArg w' vr c.rows):=fun w' h=>RArg.below h hr
 obtain⟨a3,c3,rfl,_,_⟩:=hr
 obtain⟨R,hR⟩:∃R,zB9 c=R:=⟨_,rfl⟩
 rw[hR]
 unfold zB9 at hR
 unfold conV
 by_cases h1:c.kind=1
 ·have hk1:R=(decide (1≤c.vars.length)&&(decide (c.consts.length=c.vars.length)&&decide (c.rows.length+c.lits.length=0))):=by rw[←hR,if_pos (by omega)]
  have HR:Hid (R=_):=hk1
  have hkk:(c.kind==1)=true:=by simpa using h1
  clear hR hk1 h1
  go_enter Tryz.func182,Tryz.ntmps182
  go_wp2
  go_quiet (fail)
  go_wp2
  all_goals
   go_ret
   refine⟨zAB ?_,below_drewN (zAA _ _) _⟩
   rw[HR.out]
   clear HR HRR
   first
    | rfl
    | (try simp only[beq_iff_eq] at *
       rw[Bool.eq_iff_iff]
       simp only[Bool.and_eq_true,decide_eq_true_eq,beq_iff_eq,Bool.false_eq_true,false_iff]
       omega)
 ·skip
  by_cases h2:c.kind=2
  ·have hk2:R=(decide (1≤c.vars.length)&&(decide (c.consts.length=c.vars.length)&&decide (c.rows.length+c.lits.length=0))):=by rw[←hR,if_pos (by omega)]
   have HR:Hid (R=_):=hk2
   have hkk:(c.kind==2)=true:=by simpa using h2
   have hf1:(c.kind==1)=false:=by simpa using h1
   clear hR hk2 h1 h2
   go_enter Tryz.func182,Tryz.ntmps182
   go_wp2
   go_quiet (fail)
   go_wp2
   all_goals
    go_ret
    refine⟨zAB ?_,below_drewN (zAA _ _) _⟩
    rw[HR.out]
    clear HR HRR
    first
     | rfl
     | (try simp only[beq_eq_false_iff_ne,beq_iff_eq,ne_eq] at *
        rw[Bool.eq_iff_iff]
        simp only[Bool.and_eq_true,decide_eq_true_eq,beq_iff_eq,Bool.false_eq_true,false_iff]
        omega)
  ·skip
   by_cases h3:c.kind=3
   ·have hk3:R=(decide (1≤c.vars.length)&&(decide (c.consts.length=c.vars.length)&&decide (c.rows.length+c.lits.length=0))):=by rw[←hR,if_pos (by omega)]
    have HR:Hid (R=_):=hk3
    have hkk:(c.kind==3)=true:=by simpa using h3
    have hf1:(c.kind==1)=false:=by simpa using h1
    have hf2:(c.kind==2)=false:=by simpa using h2
    clear hR hk3 h1 h2 h3
    go_enter Tryz.func182,Tryz.ntmps182
    go_wp2
    go_quiet (fail)
    go_wp2
    all_goals
     go_ret
     refine⟨zAB ?_,below_drewN (zAA _ _) _⟩
     rw[HR.out]
     clear HR HRR
     first
      | rfl
      | (try simp only[beq_eq_false_iff_ne,beq_iff_eq,ne_eq] at *
         rw[Bool.eq_iff_iff]
         simp only[Bool.and_eq_true,decide_eq_true_eq,beq_iff_eq,Bool.false_eq_true,false_iff]
         omega)
   ·skip
    have h123:¬(c.kind=1∨c.kind=2∨c.kind=3):=by omega
    rw[if_neg h123] at hR
    by_cases hn:c.n=0
    ·skip
     rw[if_neg (by omega)] at hR
     have hn0:(c.n != 0)=false:=by simpa using hn
     by_cases h4:c.kind=4
     ·rw[if_pos h4] at hR
      have HR:Hid (R=(decide (1≤c.vars.length)&&decide (c.consts.length+c.rows.length+c.lits.length=0))):=hR.symm
      have hkk:(c.kind==4)=true:=by simpa using h4
      have hf1:(c.kind==1)=false:=by simpa using h1
      have hf2:(c.kind==2)=false:=by simpa using h2
      have hf3:(c.kind==3)=false:=by simpa using h3
      clear hR hn h1 h2 h3 h4 h123
      go_enter Tryz.func182,Tryz.ntmps182
      go_wp2
      go_quiet (fail)
      go_wp2
      all_goals
       go_ret
       refine⟨zAB ?_,below_drewN (zAA _ _) _⟩
       rw[HR.out]
       clear HR HRR
       first
        | rfl
        | (try simp only[beq_eq_false_iff_ne,beq_iff_eq,ne_eq] at *
           rw[Bool.eq_iff_iff]
           simp only[Bool.and_eq_true,decide_eq_true_eq,beq_iff_eq,Bool.false_eq_true,false_iff]
           omega)
     ·skip
      rw[if_neg h4] at hR
      by_cases h5:c.kind=5
      ·rw[if_pos h5] at hR
       have HR:Hid (R=(decide (c.vars.length=2)&&(decide (1≤c.consts.length)&&decide (c.rows.length+c.lits.length=0)))):=hR.symm
       have hkk:(c.kind==5)=true:=by simpa using h5
       have hf1:(c.kind==1)=false:=by simpa using h1
       have hf2:(c.kind==2)=false:=by simpa using h2
       have hf3:(c.kind==3)=false:=by simpa using h3
       have hf4:(c.kind==4)=false:=by simpa using h4
       clear hR hn h1 h2 h3 h4 h5 h123
       go_enter Tryz.func182,Tryz.ntmps182
       go_wp2
       go_quiet (fail)
       go_wp2
       all_goals
        go_ret
        refine⟨zAB ?_,below_drewN (zAA _ _) _⟩
        rw[HR.out]
        clear HR HRR
        first
         | rfl
         | (try simp only[beq_eq_false_iff_ne,beq_iff_eq,ne_eq] at *
            rw[Bool.eq_iff_iff]
            simp only[Bool.and_eq_true,decide_eq_true_eq,beq_iff_eq,Bool.false_eq_true,false_iff]
            omega)
      ·skip
       rw[if_neg h5] at hR
       by_cases h6:c.kind=6
       ·rw[if_pos h6] at hR
        have hkk:(c.kind==6)=true:=by simpa using h6
        have hf1:(c.kind==1)=false:=by simpa using h1
        have hf2:(c.kind==2)=false:=by simpa using h2
        have hf3:(c.kind==3)=false:=by simpa using h3
        have hf4:(c.kind==4)=false:=by simpa using h4
        have hf5:(c.kind==5)=false:=by simpa using h5
        clear hn h123 h1 h2 h3 h4 h5 h6
        by_cases g1:1≤c.vars.length
        ·by_cases g2:c.consts.length+c.lits.length=0
         ·have HR:Hid (R=c.rows.all fun r=>decide (r.length=c.vars.length)):=by rw[←hR,decide_eq_true g1,decide_eq_true g2];rfl
          clear hR
          go_enter Tryz.func182,Tryz.ntmps182
          go_wp2
          go_quiet (fail)
          go_wp2_with fail
          refine (zMB c.rows _ c.vars.length _ (HRR.out _ (below_drewN (zAA _ _) _))).mono ?_
          rintro e w2 ⟨rfl,hw2⟩
          rw[hw2]
          clear hw2
          go_wp2
          go_ret
          exact⟨zAB HR.out.symm,below_drewN (zAA _ _) _⟩
         ·have HR:Hid (R=false):=by rw[←hR,decide_eq_true g1,decide_eq_false g2];rfl
          have g3:¬(c.consts.length:Int)+(c.lits.length:Int)=0:=by omega
          clear hR
          go_enter Tryz.func182,Tryz.ntmps182
          go_wp2
          go_quiet (fail)
          go_wp2
          all_goals (go_ret;exact⟨zAB (by rw[HR.out]),below_drewN (zAA _ _) _⟩)
        ·have HR:Hid (R=false):=by rw[←hR,decide_eq_false g1];rfl
         clear hR
         go_enter Tryz.func182,Tryz.ntmps182
         go_wp2
         go_quiet (fail)
         go_wp2
         all_goals (go_ret;exact⟨zAB (by rw[HR.out]),below_drewN (zAA _ _) _⟩)
       ·skip
        rw[if_neg h6] at hR
        by_cases h7:c.kind=7
        ·rw[if_pos h7] at hR
         have HR:Hid (R=(decide (c.vars.length=3)&&decide (c.consts.length+c.rows.length+c.lits.length=0))):=hR.symm
         have hkk:(c.kind==7)=true:=by simpa using h7
         have hf1:(c.kind==1)=false:=by simpa using h1
         have hf2:(c.kind==2)=false:=by simpa using h2
         have hf3:(c.kind==3)=false:=by simpa using h3
         have hf4:(c.kind==4)=false:=by simpa using h4
         have hf5:(c.kind==5)=false:=by simpa using h5
         have hf6:(c.kind==6)=false:=by simpa using h6
         clear hR hn h1 h2 h3 h4 h5 h6 h7 h123
         go_enter Tryz.func182,Tryz.ntmps182
         go_wp2
         go_quiet (fail)
         go_wp2
         all_goals
          go_ret
          refine⟨zAB ?_,below_drewN (zAA _ _) _⟩
          rw[HR.out]
          clear HR HRR
          first
           | rfl
           | (try simp only[beq_eq_false_iff_ne,beq_iff_eq,ne_eq] at *
              rw[Bool.eq_iff_iff]
              simp only[Bool.and_eq_true,decide_eq_true_eq,beq_iff_eq,Bool.false_eq_true,false_iff]
              omega)
        ·skip
         rw[if_neg h7] at hR
         by_cases h8:c.kind=8
         ·rw[if_pos h8] at hR
          have HR:Hid (R=(decide (2≤c.vars.length)&&decide (c.consts.length+c.rows.length+c.lits.length=0))):=hR.symm
          have hkk:(c.kind==8)=true:=by simpa using h8
          have hf1:(c.kind==1)=false:=by simpa using h1
          have hf2:(c.kind==2)=false:=by simpa using h2
          have hf3:(c.kind==3)=false:=by simpa using h3
          have hf4:(c.kind==4)=false:=by simpa using h4
          have hf5:(c.kind==5)=false:=by simpa using h5
          have hf6:(c.kind==6)=false:=by simpa using h6
          have hf7:(c.kind==7)=false:=by simpa using h7
          clear hR hn h1 h2 h3 h4 h5 h6 h7 h8 h123
          go_enter Tryz.func182,Tryz.ntmps182
          go_wp2
          go_quiet (fail)
          go_wp2
          all_goals
           go_ret
           refine⟨zAB ?_,below_drewN (zAA _ _) _⟩
           rw[HR.out]
           clear HR HRR
           first
            | rfl
            | (try simp only[beq_eq_false_iff_ne,beq_iff_eq,ne_eq] at *
               rw[Bool.eq_iff_iff]
               simp only[Bool.and_eq_true,decide_eq_true_eq,beq_iff_eq,Bool.false_eq_true,false_iff]
               omega)
         ·skip
          rw[if_neg h8] at hR
          by_cases h9:c.kind=9
          ·rw[if_pos h9] at hR
           have HR:Hid (R=(decide (c.vars.length+c.consts.length+c.rows.length=0))):=hR.symm
           have hkk:(c.kind==9)=true:=by simpa using h9
           have hf1:(c.kind==1)=false:=by simpa using h1
           have hf2:(c.kind==2)=false:=by simpa using h2
           have hf3:(c.kind==3)=false:=by simpa using h3
           have hf4:(c.kind==4)=false:=by simpa using h4
           have hf5:(c.kind==5)=false:=by simpa using h5
           have hf6:(c.kind==6)=false:=by simpa using h6
           have hf7:(c.kind==7)=false:=by simpa using h7
           have hf8:(c.kind==8)=false:=by simpa using h8
           clear hR hn h1 h2 h3 h4 h5 h6 h7 h8 h9 h123
           go_enter Tryz.func182,Tryz.ntmps182
           go_wp2
           go_quiet (fail)
           go_wp2
           all_goals
            go_ret
            refine⟨zAB ?_,below_drewN (zAA _ _) _⟩
            rw[HR.out]
            clear HR HRR
            first
             | rfl
             | (try simp only[beq_eq_false_iff_ne,beq_iff_eq,ne_eq] at *
                rw[Bool.eq_iff_iff]
                simp only[decide_eq_true_eq,beq_iff_eq]
                omega)
          ·skip
           rw[if_neg h9] at hR
           by_cases h10:c.kind=10
           ·rw[if_pos h10] at hR
            have HR:Hid (R=(decide (c.vars.length=1)&&(decide (c.lits.length=1)&&decide (c.consts.length+c.rows.length=0)))):=hR.symm
            have hkk:(c.kind==10)=true:=by simpa using h10
            have hf1:(c.kind==1)=false:=by simpa using h1
            have hf2:(c.kind==2)=false:=by simpa using h2
            have hf3:(c.kind==3)=false:=by simpa using h3
            have hf4:(c.kind==4)=false:=by simpa using h4
            have hf5:(c.kind==5)=false:=by simpa using h5
            have hf6:(c.kind==6)=false:=by simpa using h6
            have hf7:(c.kind==7)=false:=by simpa using h7
            have hf8:(c.kind==8)=false:=by simpa using h8
            have hf9:(c.kind==9)=false:=by simpa using h9
            clear hR hn h1 h2 h3 h4 h5 h6 h7 h8 h9 h10 h123
            go_enter Tryz.func182,Tryz.ntmps182
            go_wp2
            go_quiet (fail)
            go_wp2
            all_goals
             go_ret
             refine⟨zAB ?_,below_drewN (zAA _ _) _⟩
             rw[HR.out]
             clear HR HRR
             first
              | rfl
              | (try simp only[beq_eq_false_iff_ne,beq_iff_eq,ne_eq] at *
                 rw[Bool.eq_iff_iff]
                 simp only[Bool.and_eq_true,decide_eq_true_eq,beq_iff_eq,Bool.false_eq_true,false_iff]
                 omega)
           ·skip
            rw[if_neg h10] at hR
            have HR:Hid (R=false):=hR.symm
            have hf1:(c.kind==1)=false:=by simpa using h1
            have hf2:(c.kind==2)=false:=by simpa using h2
            have hf3:(c.kind==3)=false:=by simpa using h3
            have hf4:(c.kind==4)=false:=by simpa using h4
            have hf5:(c.kind==5)=false:=by simpa using h5
            have hf6:(c.kind==6)=false:=by simpa using h6
            have hf7:(c.kind==7)=false:=by simpa using h7
            have hf8:(c.kind==8)=false:=by simpa using h8
            have hf9:(c.kind==9)=false:=by simpa using h9
            have hf10:(c.kind==10)=false:=by simpa using h10
            clear hR hn h1 h2 h3 h4 h5 h6 h7 h8 h9 h10 h123
            go_enter Tryz.func182,Tryz.ntmps182
            go_wp2
            go_quiet (fail)
            go_wp2
            all_goals (go_ret;exact⟨zAB HR.out.symm,below_drewN (zAA _ _) _⟩)
    ·rw[if_pos hn] at hR
     have HR:Hid (R=false):=hR.symm
     have hn0:(c.n != 0)=true:=by simpa using hn
     have hf1:(c.kind==1)=false:=by simpa using h1
     have hf2:(c.kind==2)=false:=by simpa using h2
     have hf3:(c.kind==3)=false:=by simpa using h3
     clear hR hn h1 h2 h3 h123
     go_enter Tryz.func182,Tryz.ntmps182
     go_wp2
     go_quiet (fail)
     go_wp2
     all_goals (go_ret;exact⟨zAB HR.out.symm,below_drewN (zAA _ _) _⟩)
end Go.Proofs.YtndcpnlaadikoaaGreatDoor
