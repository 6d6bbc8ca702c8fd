/- What the proof leans on, part 43. -/
import Derived.Test.YtdjbejlbmaiocagGreatDoorPartBl
import Derived.Test.YtdjbejlbmaiocagGreatDoorPartAb
import Derived.Test.YtdjbejlbmaiocagGreatDoorPartAe
import Derived.Test.YtdjbejlbmaiocagGreatDoorPartAd
import Derived.Test.YtdjbejlbmaiocagGreatDoorPartAq
import Derived.Deep.RegionLaw
set_option maxRecDepth 100000
set_option maxHeartbeats 4000000
namespace Go.Proofs.YtdjbejlbmaiocagGreatDoor
open Go.RowKit
theorem zE2 (n:Int) (w:World) :
 Calls Tryz.prog 93 #[.int .i64 n] w fun e w'=>e=.returned (.bool (zAJ n))∧w'=w:=by
 obtain⟨B,hB⟩:∃B,zAJ n=B:=⟨_,rfl⟩;have HB:Hid ((decide (-1000≤n)&&decide (n≤1000))=B):=hB;rw[hB];clear hB;go_enter Tryz.func93,Tryz.ntmps93
 go_wp2_with fail
 refine (zA3 _ _ _ _).mono ?_;rintro e w ⟨rfl,rfl⟩;rw[HB.out];go_wp2
 go_ret
 exact⟨rfl,rfl⟩
theorem zKj (m:Mod) (l:MLit) (a:Option Addr) (cap:Nat) (cs:Value) (w:World) (hm:m.vars.length≤maxLen) :
 Calls Tryz.prog 94 #[.agg #[.slice a m.vars.length cap,cs,.int .i64 m.goal,.int .i64 m.var],.agg #[.int .i64 l.var,.int .i64 l.op,.int .i64 l.n]] w fun e w'=>e=.returned (.int .i64 (litE m.vars l))∧Below w.heap.size w w':=by
 obtain⟨E,hE⟩:∃E,litE m.vars l=E:=⟨_,rfl⟩;have HE:Hid (E=if l.var<0∨(m.vars.length:Int)≤l.var then 5 else if l.op<1∨4<l.op then 7 else if l.n < -1000∨1000<l.n then 3 else 0):=by show _=_;rw[←hE];rfl
 rw[hE];have HB:Hid (Below w.heap.size w ((w.alloc (.cells #[.slice a m.vars.length cap,cs,.int .i64 m.goal,.int .i64 m.var] 25)).alloc (.cells #[.int .i64 l.var,.int .i64 l.op,.int .i64 l.n] 88))):=(zAA _ _).alloc (by simp) _
 unfold maxLen at hm;clear hE;go_enter Tryz.func94,Tryz.ntmps94
 go_wp2_with fail
 refine (zA3 _ _ _ _).mono ?_;rintro e wq ⟨rfl,rfl⟩;by_cases h1:l.var<0∨(m.vars.length:Int)≤l.var
 ·have HN:Hid (E=5):=by show _=_;rw[HE.out,if_pos h1]
  have q:(decide (0≤l.var)&&decide (l.var≤(m.vars.length:Int) - 1))=false:=by rw[Bool.and_eq_false_iff];simp;omega
  rw[q];go_wp2
  go_ret
  exact⟨by rw[HN.out];rfl,HB.out⟩
 ·have q:(decide (0≤l.var)&&decide (l.var≤(m.vars.length:Int) - 1))=true:=by rw[Bool.and_eq_true];simp;omega
  rw[q];go_wp2_with fail
  refine (zA3 _ _ _ _).mono ?_;rintro e wq ⟨rfl,rfl⟩;by_cases h2:l.op<1∨4<l.op
  ·have HN:Hid (E=7):=by show _=_;rw[HE.out,if_neg h1,if_pos h2]
   have q:(decide (1≤l.op)&&decide (l.op≤4))=false:=by rw[Bool.and_eq_false_iff];simp;omega
   rw[q];go_wp2
   go_ret
   exact⟨by rw[HN.out];rfl,HB.out⟩
  ·have q:(decide (1≤l.op)&&decide (l.op≤4))=true:=by rw[Bool.and_eq_true];simp;omega
   rw[q];go_wp2_with fail
   refine (zE2 _ _).mono ?_;rintro e wq ⟨rfl,rfl⟩;by_cases h3:l.n < -1000∨1000<l.n
   ·have HN:Hid (E=3):=by show _=_;rw[HE.out,if_neg h1,if_neg h2,if_pos h3]
    have q:zAJ l.n=false:=by unfold zAJ inB;rw[Bool.and_eq_false_iff];simp;omega
    rw[q];go_wp2
    go_ret
    exact⟨by rw[HN.out];rfl,HB.out⟩
   ·have HN:Hid (E=0):=by show _=_;rw[HE.out,if_neg h1,if_neg h2,if_neg h3]
    have q:zAJ l.n=true:=by unfold zAJ inB;rw[Bool.and_eq_true];simp;omega
    rw[q];go_wp2
    go_ret
    exact⟨by rw[HN.out];rfl,HB.out⟩
theorem zRQ (c:MCon) (vv vc vr vl:Value) (w:World) (hk:KArg w vv vc vr vl c) (h10:1≤c.kind∧c.kind≤10) (l1:c.vars.length≤4) (l2:c.consts.length≤8) (l3:c.rows.length≤20) (l4:c.lits.length≤4) :
 Calls Tryz.prog 92 #[conV vv vc vr vl c] w fun e w'=>e=.returned (.bool (zDl c))∧Below w.heap.size w w':=by
 obtain⟨⟨a1,c1,rfl,_,_⟩,⟨a2,c2,rfl,_,_⟩,hr,⟨a4,c4,rfl,_,_⟩⟩:=hk;have HRR:Hid (∀w':World,Below w.heap.size w w'→RArg w' vr c.rows):=fun w' h=>RArg.below h hr
 obtain⟨a3,c3,rfl,_,_⟩:=hr;obtain⟨R,hR⟩:∃R,zDl c=R:=⟨_,rfl⟩;rw[hR];unfold zDl at hR;unfold conV;obtain⟨k,hkk⟩:∃k,c.kind=k:=⟨_,rfl⟩;rw[hkk] at hR h10 ⊢;have hcases:k=1∨k=2∨k=3∨k=4∨k=5∨k=6∨k=7∨k=8∨k=9∨k=10:=by omega
 clear h10;rcases hcases with rfl | rfl | rfl | rfl | rfl | rfl | rfl | rfl | rfl | rfl
 ·have HR:Hid (R=(decide (1≤c.vars.length)&&(decide (c.consts.length=c.vars.length)&&decide (c.rows.length+c.lits.length=0)))):=by show _=_;rw[←hR,if_pos (by decide)]
  clear hR hkk;go_enter Tryz.func92,Tryz.ntmps92
  go_wp2
  go_quiet (fail)
  go_wp2
  all_goals
   go_ret
   refine⟨zAC ?_,below_drewN (zAA _ _) _⟩;rw[HR.out];clear HR HRR
   first
    | rfl
    | (try simp only[beq_eq_false_iff_ne,beq_iff_eq,ne_eq] at *
       try simp only[←List.length_eq_zero_iff] at *
       rw[Bool.eq_iff_iff];simp only[Bool.and_eq_true,decide_eq_true_eq,beq_iff_eq,Bool.false_eq_true,false_iff];omega)
 ·have HR:Hid (R=(decide (1≤c.vars.length)&&(decide (c.consts.length=c.vars.length)&&decide (c.rows.length+c.lits.length=0)))):=by show _=_;rw[←hR,if_pos (by decide)]
  clear hR hkk;go_enter Tryz.func92,Tryz.ntmps92
  go_wp2
  go_quiet (fail)
  go_wp2
  all_goals
   go_ret
   refine⟨zAC ?_,below_drewN (zAA _ _) _⟩;rw[HR.out];clear HR HRR
   first
    | rfl
    | (try simp only[beq_eq_false_iff_ne,beq_iff_eq,ne_eq] at *
       try simp only[←List.length_eq_zero_iff] at *
       rw[Bool.eq_iff_iff];simp only[Bool.and_eq_true,decide_eq_true_eq,beq_iff_eq,Bool.false_eq_true,false_iff];omega)
 ·have HR:Hid (R=(decide (1≤c.vars.length)&&(decide (c.consts.length=c.vars.length)&&decide (c.rows.length+c.lits.length=0)))):=by show _=_;rw[←hR,if_pos (by decide)]
  clear hR hkk;go_enter Tryz.func92,Tryz.ntmps92
  go_wp2
  go_quiet (fail)
  go_wp2
  all_goals
   go_ret
   refine⟨zAC ?_,below_drewN (zAA _ _) _⟩;rw[HR.out];clear HR HRR
   first
    | rfl
    | (try simp only[beq_eq_false_iff_ne,beq_iff_eq,ne_eq] at *
       try simp only[←List.length_eq_zero_iff] at *
       rw[Bool.eq_iff_iff];simp only[Bool.and_eq_true,decide_eq_true_eq,beq_iff_eq,Bool.false_eq_true,false_iff];omega)
 ·rw[if_neg (by decide)] at hR
  by_cases hn:c.n=0
  ·have hn0:(c.n != 0)=false:=by simpa using hn
   have HR:Hid (R=(decide (1≤c.vars.length)&&decide (c.consts.length+c.rows.length+c.lits.length=0))):=by show _=_;rw[←hR,if_neg (fun h=>h hn)];simp only[if_true]
   clear hR hkk hn;go_enter Tryz.func92,Tryz.ntmps92
   go_wp2
   go_quiet (fail)
   go_wp2
   all_goals
    go_ret
    refine⟨zAC ?_,below_drewN (zAA _ _) _⟩;rw[HR.out];clear HR HRR
    first
     | rfl
     | (try simp only[beq_eq_false_iff_ne,beq_iff_eq,ne_eq] at *
        try simp only[←List.length_eq_zero_iff] at *
        rw[Bool.eq_iff_iff];simp only[Bool.and_eq_true,decide_eq_true_eq,beq_iff_eq,Bool.false_eq_true,false_iff];omega)
  ·have hn0:(c.n != 0)=true:=by simpa using hn
   have HR:Hid (R=false):=by show _=_;rw[←hR,if_pos hn]
   clear hR hkk hn;go_enter Tryz.func92,Tryz.ntmps92
   go_wp2
   go_quiet (fail)
   go_wp2
   go_ret
   exact⟨zAC HR.out.symm,below_drewN (zAA _ _) _⟩
 ·rw[if_neg (by decide)] at hR
  by_cases hn:c.n=0
  ·have hn0:(c.n != 0)=false:=by simpa using hn
   have HR:Hid (R=(decide (c.vars.length=2)&&(decide (1≤c.consts.length)&&decide (c.rows.length+c.lits.length=0)))):=by show _=_;rw[←hR,if_neg (fun h=>h hn)];simp only[show ¬((5:Int)=4) by decide,if_true,if_false]
   clear hR hkk hn;go_enter Tryz.func92,Tryz.ntmps92
   go_wp2
   go_quiet (fail)
   go_wp2
   all_goals
    go_ret
    refine⟨zAC ?_,below_drewN (zAA _ _) _⟩;rw[HR.out];clear HR HRR
    first
     | rfl
     | (try simp only[beq_eq_false_iff_ne,beq_iff_eq,ne_eq] at *
        try simp only[←List.length_eq_zero_iff] at *
        rw[Bool.eq_iff_iff];simp only[Bool.and_eq_true,decide_eq_true_eq,beq_iff_eq,Bool.false_eq_true,false_iff];omega)
  ·have hn0:(c.n != 0)=true:=by simpa using hn
   have HR:Hid (R=false):=by show _=_;rw[←hR,if_pos hn]
   clear hR hkk hn;go_enter Tryz.func92,Tryz.ntmps92
   go_wp2
   go_quiet (fail)
   go_wp2
   go_ret
   exact⟨zAC HR.out.symm,below_drewN (zAA _ _) _⟩
 ·rw[if_neg (by decide)] at hR
  by_cases hn:c.n=0
  ·have hn0:(c.n != 0)=false:=by simpa using hn
   have HR:Hid (R=(decide (1≤c.vars.length)&&(decide (c.consts.length+c.lits.length=0)&&c.rows.all fun r=>decide (r.length=c.vars.length)))):=by show _=_;rw[←hR,if_neg (fun h=>h hn)];simp only[show ¬((6:Int)=4) by decide,show ¬((6:Int)=5) by decide,if_true,if_false]
   clear hR hkk hn;go_enter Tryz.func92,Tryz.ntmps92
   go_wp2
   go_quiet (fail)
   go_wp2
   have HBW:Hid (Below w.heap.size w ((w.alloc (.cells #[.int .i64 6,.slice a1 c.vars.length c1,.slice a2 c.consts.length c2,.int .i64 c.n,.slice a3 c.rows.length c3,.slice a4 c.lits.length c4] 73)).drewN nq)):=below_drewN (zAA _ _) _;have k4:((w.alloc (.cells #[.int .i64 6,.slice a1 c.vars.length c1,.slice a2 c.consts.length c2,.int .i64 c.n,.slice a3 c.rows.length c3,.slice a4 c.lits.length c4] 73)).drewN nq).cell? ⟨w.heap.size,4,none⟩=some (.slice a3 c.rows.length c3):=by simp
   obtain⟨W,hW⟩:∃W,((w.alloc (.cells #[.int .i64 6,.slice a1 c.vars.length c1,.slice a2 c.consts.length c2,.int .i64 c.n,.slice a3 c.rows.length c3,.slice a4 c.lits.length c4] 73)).drewN nq)=W:=⟨_,rfl⟩;rw[hW] at HBW k4 ⊢;clear hW;have hRA:=HRR.out W HBW.out;clear HRR;obtain⟨a9,c9,e9,hm,hr⟩:=hRA
   injection e9 with e91 _ e92
   subst e91 e92;have HV:Hid (∀(i:Nat) (r:List Int),c.rows[i]? = some r→∃b off x,a3=some ⟨b,off,none⟩∧b<W.heap.size∧W.cell? ⟨b,off+i,none⟩=some x∧IArg W x r):=hr;unfold maxLen at hm;obtain⟨hm1,hm⟩:=hm;clear hr;go_loop [7] (fun i=>∃m:Nat,m≤c.rows.length∧i=.int .i64 m∧Hid ((c.rows.take m).all (fun r=>decide (r.length=c.vars.length))=true)) (fun i=>c.rows.length - (intOf i).toNat)
   case atStart=>exact⟨0,by omega,rfl,rfl⟩
   case round =>
    obtain⟨m,hml,rfl,hall⟩:=hrel;by_cases hlt:m<c.rows.length
    ·obtain⟨z,hz⟩:∃z,c.rows[m]? = some z:=⟨c.rows[m],by simp[hlt]⟩
     obtain⟨b,off,x,ha,hb,hc,hx⟩:=HV.out m z hz;obtain⟨a9,c9,rfl,hm2,_⟩:=hx;have HZ:Hid (c.rows[m]? = some z):=hz;subst ha;clear hz hm2;by_cases hq:z.length=c.vars.length
     ·have HN:Hid ((c.rows.take (m+1)).all (fun r=>decide (r.length=c.vars.length))=true):=zBr _ c.rows m z HZ.out hall.out (decide_eq_true hq)
      have hq2:((z.length:Int) != (c.vars.length:Int))=false:=by simp[hq]
      clear hq;go_wp2
      go_round
      case rel=>exact⟨m+1,by omega,by go_num,HN⟩
      case measure=>simp[intOf];omega
     ·have HN:Hid (R=false):=by show _=_;rw[HR.out,zCC _ c.rows m z HZ.out (decide_eq_false hq)];simp
      have hq2:((z.length:Int) != (c.vars.length:Int))=true:=by simp;omega
      clear hq;go_wp2
      go_ret
      exact⟨zAC HN.out.symm,HBW.out⟩
    ·have HN:Hid (R=(decide (1≤c.vars.length)&&decide (c.consts.length+c.lits.length=0))):=by show _=_;rw[HR.out,zCd _ c.rows m hlt hall.out];simp
     clear HV hall HR k4;go_wp2
     all_goals
      go_ret
      refine⟨zAC ?_,HBW.out⟩;rw[HN.out];clear HN HBW
      first
       | rfl
       | (try simp only[beq_eq_false_iff_ne,beq_iff_eq,ne_eq] at *
          try simp only[←List.length_eq_zero_iff] at *
          rw[Bool.eq_iff_iff];simp only[Bool.and_eq_true,decide_eq_true_eq,beq_iff_eq,Bool.false_eq_true,false_iff];omega)
  ·have hn0:(c.n != 0)=true:=by simpa using hn
   have HR:Hid (R=false):=by show _=_;rw[←hR,if_pos hn]
   clear hR hkk hn;go_enter Tryz.func92,Tryz.ntmps92
   go_wp2
   go_quiet (fail)
   go_wp2
   go_ret
   exact⟨zAC HR.out.symm,below_drewN (zAA _ _) _⟩
 ·rw[if_neg (by decide)] at hR
  by_cases hn:c.n=0
  ·have hn0:(c.n != 0)=false:=by simpa using hn
   have HR:Hid (R=(decide (c.vars.length=3)&&decide (c.consts.length+c.rows.length+c.lits.length=0))):=by show _=_;rw[←hR,if_neg (fun h=>h hn)];simp only[show ¬((7:Int)=4) by decide,show ¬((7:Int)=5) by decide,show ¬((7:Int)=6) by decide,if_true,if_false]
   clear hR hkk hn;go_enter Tryz.func92,Tryz.ntmps92
   go_wp2
   go_quiet (fail)
   go_wp2
   all_goals
    go_ret
    refine⟨zAC ?_,below_drewN (zAA _ _) _⟩;rw[HR.out];clear HR HRR
    first
     | rfl
     | (try simp only[beq_eq_false_iff_ne,beq_iff_eq,ne_eq] at *
        try simp only[←List.length_eq_zero_iff] at *
        rw[Bool.eq_iff_iff];simp only[Bool.and_eq_true,decide_eq_true_eq,beq_iff_eq,Bool.false_eq_true,false_iff];omega)
  ·have hn0:(c.n != 0)=true:=by simpa using hn
   have HR:Hid (R=false):=by show _=_;rw[←hR,if_pos hn]
   clear hR hkk hn;go_enter Tryz.func92,Tryz.ntmps92
   go_wp2
   go_quiet (fail)
   go_wp2
   go_ret
   exact⟨zAC HR.out.symm,below_drewN (zAA _ _) _⟩
 ·rw[if_neg (by decide)] at hR
  by_cases hn:c.n=0
  ·have hn0:(c.n != 0)=false:=by simpa using hn
   have HR:Hid (R=(decide (2≤c.vars.length)&&decide (c.consts.length+c.rows.length+c.lits.length=0))):=by show _=_;rw[←hR,if_neg (fun h=>h hn)];simp only[show ¬((8:Int)=4) by decide,show ¬((8:Int)=5) by decide,show ¬((8:Int)=6) by decide,show ¬((8:Int)=7) by decide,if_true,if_false]
   clear hR hkk hn;go_enter Tryz.func92,Tryz.ntmps92
   go_wp2
   go_quiet (fail)
   go_wp2
   all_goals
    go_ret
    refine⟨zAC ?_,below_drewN (zAA _ _) _⟩;rw[HR.out];clear HR HRR
    first
     | rfl
     | (try simp only[beq_eq_false_iff_ne,beq_iff_eq,ne_eq] at *
        try simp only[←List.length_eq_zero_iff] at *
        rw[Bool.eq_iff_iff];simp only[Bool.and_eq_true,decide_eq_true_eq,beq_iff_eq,Bool.false_eq_true,false_iff];omega)
  ·have hn0:(c.n != 0)=true:=by simpa using hn
   have HR:Hid (R=false):=by show _=_;rw[←hR,if_pos hn]
   clear hR hkk hn;go_enter Tryz.func92,Tryz.ntmps92
   go_wp2
   go_quiet (fail)
   go_wp2
   go_ret
   exact⟨zAC HR.out.symm,below_drewN (zAA _ _) _⟩
 ·rw[if_neg (by decide)] at hR
  by_cases hn:c.n=0
  ·have hn0:(c.n != 0)=false:=by simpa using hn
   have HR:Hid (R=(decide (c.vars.length+c.consts.length+c.rows.length=0))):=by show _=_;rw[←hR,if_neg (fun h=>h hn)];simp only[show ¬((9:Int)=4) by decide,show ¬((9:Int)=5) by decide,show ¬((9:Int)=6) by decide,show ¬((9:Int)=7) by decide,show ¬((9:Int)=8) by decide,if_true,if_false]
   clear hR hkk hn;go_enter Tryz.func92,Tryz.ntmps92
   go_wp2
   go_quiet (fail)
   go_wp2
   all_goals
    go_ret
    refine⟨zAC ?_,below_drewN (zAA _ _) _⟩;rw[HR.out];clear HR HRR
    first
     | rfl
     | (try simp only[beq_eq_false_iff_ne,beq_iff_eq,ne_eq] at *
        try simp only[←List.length_eq_zero_iff] at *
        rw[Bool.eq_iff_iff];simp only[decide_eq_true_eq,beq_iff_eq,Bool.false_eq_true,false_iff];omega)
  ·have hn0:(c.n != 0)=true:=by simpa using hn
   have HR:Hid (R=false):=by show _=_;rw[←hR,if_pos hn]
   clear hR hkk hn;go_enter Tryz.func92,Tryz.ntmps92
   go_wp2
   go_quiet (fail)
   go_wp2
   go_ret
   exact⟨zAC HR.out.symm,below_drewN (zAA _ _) _⟩
 ·rw[if_neg (by decide)] at hR
  by_cases hn:c.n=0
  ·have hn0:(c.n != 0)=false:=by simpa using hn
   have HR:Hid (R=(decide (c.vars.length=1)&&(decide (c.lits.length=1)&&decide (c.consts.length+c.rows.length=0)))):=by show _=_;rw[←hR,if_neg (fun h=>h hn)];simp only[show ¬((10:Int)=4) by decide,show ¬((10:Int)=5) by decide,show ¬((10:Int)=6) by decide,show ¬((10:Int)=7) by decide,show ¬((10:Int)=8) by decide,show ¬((10:Int)=9) by decide,if_true,if_false]
   clear hR hkk hn;go_enter Tryz.func92,Tryz.ntmps92
   go_wp2
   go_quiet (fail)
   go_wp2
   all_goals
    go_ret
    refine⟨zAC ?_,below_drewN (zAA _ _) _⟩;rw[HR.out];clear HR HRR
    first
     | rfl
     | (try simp only[beq_eq_false_iff_ne,beq_iff_eq,ne_eq] at *
        try simp only[←List.length_eq_zero_iff] at *
        rw[Bool.eq_iff_iff];simp only[Bool.and_eq_true,decide_eq_true_eq,beq_iff_eq,Bool.false_eq_true,false_iff];omega)
  ·have hn0:(c.n != 0)=true:=by simpa using hn
   have HR:Hid (R=false):=by show _=_;rw[←hR,if_pos hn]
   clear hR hkk hn;go_enter Tryz.func92,Tryz.ntmps92
   go_wp2
   go_quiet (fail)
   go_wp2
   go_ret
   exact⟨zAC HR.out.symm,below_drewN (zAA _ _) _⟩
def zMA (vs:List MVar) (c:MCon):Int :=
 if 1≤c.kind∧c.kind≤10 then (if zE8 c then 2 else if zDl c then (if zE9 c vs.length then (if zBq c then zAQ (c.lits.map (litE vs)) else 3) else 5) else 1) else 7
structure CkS (w wr:World) (mb cb:Array Value):Prop where
 bel:Below w.heap.size w wr
 mod:wr.heap[w.heap.size]? = some (.cells mb 25)
 con:wr.heap[w.heap.size+1]? = some (.cells cb 73)
theorem CkS.below {w wr wr':World} {mb cb:Array Value} (h:CkS w wr mb cb) (hb:Below wr.heap.size wr wr'):CkS w wr' mb cb :=
 ⟨h.bel.trans (hb.mono h.bel.size),(hb.block _ (Array.getElem?_eq_some_iff.1 h.mod).1).trans h.mod,(hb.block _ (Array.getElem?_eq_some_iff.1 h.con).1).trans h.con⟩
theorem zFa (v:Int) (n:Nat):(decide (0≤v)&&decide (v≤(n:Int) - 1))=zBA v n:=by
 unfold zBA;rw[Bool.eq_iff_iff];simp only[Bool.and_eq_true,decide_eq_true_eq];omega
theorem zKk (m:Mod) (c:MCon) (a:Option Addr) (cap:Nat) (cs vv vc vr vl:Value) (w:World) (hm:m.vars.length≤maxLen) (hk:KArg w vv vc vr vl c) :
 Calls Tryz.prog 45 #[.agg #[.slice a m.vars.length cap,cs,.int .i64 m.goal,.int .i64 m.var],conV vv vc vr vl c] w fun e w'=>e=.returned (.int .i64 (zMA m.vars c))∧Below w.heap.size w w':=by
 have HK:Hid (∀w':World,Below w.heap.size w w'→KArg w' vv vc vr vl c):=fun w' h=>KArg.below h hk
 obtain⟨⟨a1,c1,rfl,hm1,_⟩,⟨a2,c2,rfl,hm2,_⟩,⟨a3,c3,rfl,hm3,_⟩,⟨a4,c4,rfl,hm4,_⟩⟩:=hk;obtain⟨R,hR⟩:∃R,zMA m.vars c=R:=⟨_,rfl⟩;rw[hR];have HM:Hid (m.vars.length≤maxLen):=hm;unfold zMA at hR;unfold conV;unfold maxLen at hm hm1 hm2 hm3 hm4;have HS0:Hid (CkS w ((w.alloc (.cells #[.slice a m.vars.length cap,cs,.int .i64 m.goal,.int .i64 m.var] 25)).alloc (.cells #[.int .i64 c.kind,.slice a1 c.vars.length c1,.slice a2 c.consts.length c2,.int .i64 c.n,.slice a3 c.rows.length c3,.slice a4 c.lits.length c4] 73)) #[.slice a m.vars.length cap,cs,.int .i64 m.goal,.int .i64 m.var] #[.int .i64 c.kind,.slice a1 c.vars.length c1,.slice a2 c.consts.length c2,.int .i64 c.n,.slice a3 c.rows.length c3,.slice a4 c.lits.length c4]):=by
  refine⟨(zAA _ _).alloc (by simp) _,((zAA (w.alloc (.cells #[.slice a m.vars.length cap,cs,.int .i64 m.goal,.int .i64 m.var] 25)) _).block w.heap.size (by simp)).trans (heap_alloc_new w _),?_⟩
  have h:=heap_alloc_new (w.alloc (.cells #[.slice a m.vars.length cap,cs,.int .i64 m.goal,.int .i64 m.var] 25)) (.cells #[.int .i64 c.kind,.slice a1 c.vars.length c1,.slice a2 c.consts.length c2,.int .i64 c.n,.slice a3 c.rows.length c3,.slice a4 c.lits.length c4] 73);rw[World.size_alloc] at h;exact h
 obtain⟨y,hy⟩:∃y,(w.alloc (.cells #[.slice a m.vars.length cap,cs,.int .i64 m.goal,.int .i64 m.var] 25)).alloc (.cells #[.int .i64 c.kind,.slice a1 c.vars.length c1,.slice a2 c.consts.length c2,.int .i64 c.n,.slice a3 c.rows.length c3,.slice a4 c.lits.length c4] 73)=y:=⟨_,rfl⟩;rw[hy] at HS0;have HY:Hid ((w.alloc (.cells #[.slice a m.vars.length cap,cs,.int .i64 m.goal,.int .i64 m.var] 25)).alloc (.cells #[.int .i64 c.kind,.slice a1 c.vars.length c1,.slice a2 c.consts.length c2,.int .i64 c.n,.slice a3 c.rows.length c3,.slice a4 c.lits.length c4] 73)=y):=hy;clear hy;have HWR:Hid (IntKind.i64.wrap ((m.vars.length:Int) - 1)=(m.vars.length:Int) - 1):=by show _=_;rw[IntKind.wrap_i64];omega
 by_cases hkind:1≤c.kind∧c.kind≤10
 ·rw[if_pos hkind] at hR
  have HR:Hid (R=if zE8 c then 2 else if zDl c then (if zE9 c m.vars.length then (if zBq c then zAQ (c.lits.map (litE m.vars)) else 3) else 5) else 1):=hR.symm
  have HKI:Hid (1≤c.kind∧c.kind≤10):=hkind;have q1:(decide (1≤c.kind)&&decide (c.kind≤10))=true:=by rw[Bool.and_eq_true];simp;omega
  clear hR hkind;go_enter Tryz.func45,Tryz.ntmps45
  go_wp2_with fail
  refine (zA3 _ _ _ _).mono ?_;rintro e wq ⟨rfl,rfl⟩;rw[q1,HY.out];clear HY q1;have k0:y.cell? ⟨w.heap.size+1,0,none⟩=some (.int .i64 c.kind):=blk9 HS0.out.con 0 _ rfl;have k1:y.cell? ⟨w.heap.size+1,1,none⟩=some (.slice a1 c.vars.length c1):=blk9 HS0.out.con 1 _ rfl;have k2:y.cell? ⟨w.heap.size+1,2,none⟩=some (.slice a2 c.consts.length c2):=blk9 HS0.out.con 2 _ rfl;have k3:y.cell? ⟨w.heap.size+1,3,none⟩=some (.int .i64 c.n):=blk9 HS0.out.con 3 _ rfl;have k4:y.cell? ⟨w.heap.size+1,4,none⟩=some (.slice a3 c.rows.length c3):=blk9 HS0.out.con 4 _ rfl;have k5:y.cell? ⟨w.heap.size+1,5,none⟩=some (.slice a4 c.lits.length c4):=blk9 HS0.out.con 5 _ rfl;by_cases t1:4<c.vars.length
  ·have HN:Hid (R=2):=by show _=_;rw[HR.out,if_pos (by unfold zE8;simp[t1])]
   go_wp2
   go_ret
   exact⟨zAE HN.out.symm,HS0.out.bel⟩
  by_cases t2:4<c.lits.length
  ·have HN:Hid (R=2):=by show _=_;rw[HR.out,if_pos (by unfold zE8;simp[t2])]
   go_wp2
   go_ret
   exact⟨zAE HN.out.symm,HS0.out.bel⟩
  by_cases t3:8<c.consts.length
  ·have HN:Hid (R=2):=by show _=_;rw[HR.out,if_pos (by unfold zE8;simp[t3])]
   go_wp2
   go_ret
   exact⟨zAE HN.out.symm,HS0.out.bel⟩
  by_cases t4:20<c.rows.length
  ·have HN:Hid (R=2):=by show _=_;rw[HR.out,if_pos (by unfold zE8;simp[t4])]
   go_wp2
   go_ret
   exact⟨zAE HN.out.symm,HS0.out.bel⟩
  have HR1:Hid (R=if zDl c then (if zE9 c m.vars.length then (if zBq c then zAQ (c.lits.map (litE m.vars)) else 3) else 5) else 1):=by show _=_;rw[HR.out,if_neg (by unfold zE8;simp[t1,t2,t3,t4])]
  clear HR;go_wp2_with fail
  have HKY:=HK.out _ HS0.out.bel;refine (zRQ c _ _ _ _ _ HKY HKI.out (by omega) (by omega) (by omega) (by omega)).mono ?_
  rintro e w1 ⟨rfl,hb1⟩;have HS1:Hid (CkS w w1 #[.slice a m.vars.length cap,cs,.int .i64 m.goal,.int .i64 m.var] #[.int .i64 c.kind,.slice a1 c.vars.length c1,.slice a2 c.consts.length c2,.int .i64 c.n,.slice a3 c.rows.length c3,.slice a4 c.lits.length c4]):=HS0.out.below hb1;clear hb1 HS0 k0 k1 k2 k3 k4 k5 HKY HKI;cases hf:zDl c
  ·have HN:Hid (R=1):=by show _=_;rw[HR1.out,hf];rfl
   clear hf;go_wp2
   go_ret
   exact⟨zAE HN.out.symm,HS1.out.bel⟩
  have HR2:Hid (R=if zE9 c m.vars.length then (if zBq c then zAQ (c.lits.map (litE m.vars)) else 3) else 5):=by show _=_;rw[HR1.out,hf];rfl
  clear HR1 hf;go_wp2_with fail
  go_loopw [5] (fun i wr=>∃k:Nat,k≤c.vars.length∧i=.int .i64 k∧Hid ((c.vars.take k).all (fun v=>zBA v m.vars.length)=true)∧Hid (CkS w wr #[.slice a m.vars.length cap,cs,.int .i64 m.goal,.int .i64 m.var] #[.int .i64 c.kind,.slice a1 c.vars.length c1,.slice a2 c.consts.length c2,.int .i64 c.n,.slice a3 c.rows.length c3,.slice a4 c.lits.length c4])) (fun i _=>c.vars.length - (intOf i).toNat)
  case atStart=>exact⟨0,by omega,rfl,rfl,HS1⟩
  case round =>
   clear HS1;obtain⟨k,hkl,rfl,hall,HS⟩:=hrel;have k1:wr.cell? ⟨w.heap.size+1,1,none⟩=some (.slice a1 c.vars.length c1):=blk9 HS.out.con 1 _ rfl;have m0:wr.cell? ⟨w.heap.size,0,none⟩=some (.slice a m.vars.length cap):=blk9 HS.out.mod 0 _ rfl;have l0:w.heap.size+1<wr.heap.size:=(Array.getElem?_eq_some_iff.1 HS.out.con).1;by_cases hlt:k<c.vars.length
   ·obtain⟨z,hz⟩:∃z,c.vars[k]? = some z:=⟨c.vars[k],by simp[hlt]⟩
    obtain⟨a9,c9,e9,_,hr⟩:=(HK.out _ HS.out.bel).1
    injection e9 with e91 _ e92
    rw[←e91] at hr;clear e91 e92;obtain⟨b,off,ha,hb,hc⟩:=hr k z hz;rw[ha] at k1;clear ha;have HZ:Hid (c.vars[k]? = some z):=hz;clear hz hr;cases hv:zBA z m.vars.length
    ·have hq:(decide (0≤z)&&decide (z≤(m.vars.length:Int) - 1))=false:=by rw[zFa];exact hv
     have HN:Hid (R=5):=by show _=_;rw[HR2.out,if_neg (by unfold zE9;rw[zCC _ c.vars k z HZ.out hv];simp)]
     clear hv;go_wp2_with fail
     go_region_law
      (first
        | (rw[if_pos (by rfl)];go_simp;go_at_call 44;refine (zA3 _ _ _ _).mono ?_;rintro e w3 ⟨rfl,hw3⟩;have hB3:Below wr.heap.size wr w3:=(by subst hw3;exact (Below.refl _ _).drew);clear hw3;(try rw[HWR.out]);rw[hq]))
     all_goals
      go_wp2
      go_ret
      exact⟨zAE HN.out.symm,(HS.out.below hB3).bel⟩
    ·have hq:(decide (0≤z)&&decide (z≤(m.vars.length:Int) - 1))=true:=by rw[zFa];exact hv
     have HN:Hid ((c.vars.take (k+1)).all (fun v=>zBA v m.vars.length)=true):=zBr _ c.vars k z HZ.out hall.out hv
     clear hv;go_wp2_with fail
     go_region_law
      (first
        | (rw[if_pos (by rfl)];go_simp;go_at_call 44;refine (zA3 _ _ _ _).mono ?_;rintro e w3 ⟨rfl,hw3⟩;have hB3:Below wr.heap.size wr w3:=(by subst hw3;exact (Below.refl _ _).drew);clear hw3;(try rw[HWR.out]);rw[hq]))
     all_goals
      have HS3:Hid (CkS w w3 #[.slice a m.vars.length cap,cs,.int .i64 m.goal,.int .i64 m.var] #[.int .i64 c.kind,.slice a1 c.vars.length c1,.slice a2 c.consts.length c2,.int .i64 c.n,.slice a3 c.rows.length c3,.slice a4 c.lits.length c4]):=HS.out.below hB3;clear hB3;go_wp2
      go_roundw
      case rel=>exact⟨k+1,by omega,by go_num,HN,HS3⟩
      case measure=>simp[intOf];omega
   have HA1:Hid (c.vars.all (fun v=>zBA v m.vars.length)=true):=zCd _ c.vars k hlt hall.out
   clear hall;go_wp2_with fail
   clear k1 m0 l0 hlt hkl;obtain⟨wa,hwa⟩:∃wa,wr=wa:=⟨_,rfl⟩;rw[hwa] at HS ⊢;clear hwa;go_loopw [6] (fun i wr=>∃k:Nat,k≤c.lits.length∧i=.int .i64 k∧Hid ((c.lits.take k).all (fun l=>zBA l.var m.vars.length)=true)∧Hid (CkS w wr #[.slice a m.vars.length cap,cs,.int .i64 m.goal,.int .i64 m.var] #[.int .i64 c.kind,.slice a1 c.vars.length c1,.slice a2 c.consts.length c2,.int .i64 c.n,.slice a3 c.rows.length c3,.slice a4 c.lits.length c4])) (fun i _=>c.lits.length - (intOf i).toNat)
   case atStart=>exact⟨0,by omega,rfl,rfl,HS⟩
   case round =>
    clear HS;obtain⟨k,hkl,rfl,hall,HS⟩:=hrel;have k5:wr.cell? ⟨w.heap.size+1,5,none⟩=some (.slice a4 c.lits.length c4):=blk9 HS.out.con 5 _ rfl;have m0:wr.cell? ⟨w.heap.size,0,none⟩=some (.slice a m.vars.length cap):=blk9 HS.out.mod 0 _ rfl;have l0:w.heap.size+1<wr.heap.size:=(Array.getElem?_eq_some_iff.1 HS.out.con).1;by_cases hlt:k<c.lits.length
    ·obtain⟨z,hz⟩:∃z,c.lits[k]? = some z:=⟨c.lits[k],by simp[hlt]⟩
     obtain⟨a9,c9,e9,_,hr⟩:=(HK.out _ HS.out.bel).2.2.2
     injection e9 with e91 _ e92
     rw[←e91] at hr;clear e91 e92;obtain⟨b,off,ha,hb,hc0,hc1,hc2⟩:=hr k z hz;rw[ha] at k5;clear ha;have HZ:Hid (c.lits[k]? = some z):=hz;clear hz hr;cases hv:zBA z.var m.vars.length
     ·have hq:(decide (0≤z.var)&&decide (z.var≤(m.vars.length:Int) - 1))=false:=by rw[zFa];exact hv
      have HN:Hid (R=5):=by show _=_;rw[HR2.out,if_neg (by unfold zE9;rw[zCC _ c.lits k z HZ.out hv];simp)]
      clear hv;go_wp2_with fail
      go_region_law
       (first
         | (rw[if_pos (by rfl)];go_simp;go_at_call 44;refine (zA3 _ _ _ _).mono ?_;rintro e w3 ⟨rfl,hw3⟩;have hB3:Below wr.heap.size wr w3:=(by subst hw3;exact (Below.refl _ _).drew);clear hw3;(try rw[HWR.out]);rw[hq]))
      all_goals
       go_wp2
       go_ret
       exact⟨zAE HN.out.symm,(HS.out.below hB3).bel⟩
     ·have hq:(decide (0≤z.var)&&decide (z.var≤(m.vars.length:Int) - 1))=true:=by rw[zFa];exact hv
      have HN:Hid ((c.lits.take (k+1)).all (fun l=>zBA l.var m.vars.length)=true):=zBr _ c.lits k z HZ.out hall.out hv
      clear hv;go_wp2_with fail
      go_region_law
       (first
         | (rw[if_pos (by rfl)];go_simp;go_at_call 44;refine (zA3 _ _ _ _).mono ?_;rintro e w3 ⟨rfl,hw3⟩;have hB3:Below wr.heap.size wr w3:=(by subst hw3;exact (Below.refl _ _).drew);clear hw3;(try rw[HWR.out]);rw[hq]))
      all_goals
       have HS3:Hid (CkS w w3 #[.slice a m.vars.length cap,cs,.int .i64 m.goal,.int .i64 m.var] #[.int .i64 c.kind,.slice a1 c.vars.length c1,.slice a2 c.consts.length c2,.int .i64 c.n,.slice a3 c.rows.length c3,.slice a4 c.lits.length c4]):=HS.out.below hB3;clear hB3;go_wp2
       go_roundw
       case rel=>exact⟨k+1,by omega,by go_num,HN,HS3⟩
       case measure=>simp[intOf];omega
    have HR3:Hid (R=if zBq c then zAQ (c.lits.map (litE m.vars)) else 3):=by show _=_;rw[HR2.out,if_pos (by unfold zE9;rw[HA1.out,zCd _ c.lits k hlt hall.out];rfl)]
    clear hall HA1 HR2;go_wp2_with fail
    clear k5 m0 l0 hlt hkl;obtain⟨wb,hwb⟩:∃wb,wr=wb:=⟨_,rfl⟩;rw[hwb] at HS ⊢;clear hwb;go_loopw [7] (fun i wr=>∃k:Nat,k≤c.consts.length∧i=.int .i64 k∧Hid ((c.consts.take k).all zAJ=true)∧Hid (CkS w wr #[.slice a m.vars.length cap,cs,.int .i64 m.goal,.int .i64 m.var] #[.int .i64 c.kind,.slice a1 c.vars.length c1,.slice a2 c.consts.length c2,.int .i64 c.n,.slice a3 c.rows.length c3,.slice a4 c.lits.length c4])) (fun i _=>c.consts.length - (intOf i).toNat)
    case atStart=>exact⟨0,by omega,rfl,rfl,HS⟩
    case round =>
     clear HS;obtain⟨k,hkl,rfl,hall,HS⟩:=hrel;have k2:wr.cell? ⟨w.heap.size+1,2,none⟩=some (.slice a2 c.consts.length c2):=blk9 HS.out.con 2 _ rfl;by_cases hlt:k<c.consts.length
     ·obtain⟨z,hz⟩:∃z,c.consts[k]? = some z:=⟨c.consts[k],by simp[hlt]⟩
      obtain⟨a9,c9,e9,_,hr⟩:=(HK.out _ HS.out.bel).2.1
      injection e9 with e91 _ e92
      rw[←e91] at hr;clear e91 e92;obtain⟨b,off,ha,hb,hc⟩:=hr k z hz;rw[ha] at k2;clear ha;have HZ:Hid (c.consts[k]? = some z):=hz;clear hz hr;go_wp2_with fail
      refine (zE2 _ _).mono ?_;rintro e wq ⟨rfl,rfl⟩;cases hv:zAJ z
      ·have HN:Hid (R=3):=by show _=_;rw[HR3.out,if_neg (by unfold zBq;rw[zCC _ c.consts k z HZ.out hv];simp)]
       go_wp2
       go_ret
       exact⟨zAE HN.out.symm,HS.out.bel⟩
      ·have HN:Hid ((c.consts.take (k+1)).all zAJ=true):=zBr _ c.consts k z HZ.out hall.out hv
       go_wp2
       go_roundw
       case rel=>exact⟨k+1,by omega,by go_num,HN,HS⟩
       case measure=>simp[intOf];omega
     have HA2:Hid (c.consts.all zAJ=true):=zCd _ c.consts k hlt hall.out;clear hall;have k3:wr.cell? ⟨w.heap.size+1,3,none⟩=some (.int .i64 c.n):=blk9 HS.out.con 3 _ rfl;go_wp2_with fail
     refine (zE2 _ _).mono ?_;rintro e wc ⟨rfl,hwc⟩;rw[←hwc] at HS;clear hwc k2 k3 hlt hkl;cases hv:zAJ c.n
     ·have HN:Hid (R=3):=by show _=_;rw[HR3.out,if_neg (by unfold zBq;rw[hv];simp)]
      go_wp2
      go_ret
      exact⟨zAE HN.out.symm,HS.out.bel⟩
     have HA3:Hid (zAJ c.n=true):=hv;clear hv;go_wp2_with fail
     go_loopw [8] (fun i wr=>∃k:Nat,k≤c.rows.length∧i=.int .i64 k∧Hid ((c.rows.take k).all (fun r=>r.all zAJ)=true)∧Hid (CkS w wr #[.slice a m.vars.length cap,cs,.int .i64 m.goal,.int .i64 m.var] #[.int .i64 c.kind,.slice a1 c.vars.length c1,.slice a2 c.consts.length c2,.int .i64 c.n,.slice a3 c.rows.length c3,.slice a4 c.lits.length c4])) (fun i _=>c.rows.length - (intOf i).toNat)
     case atStart=>exact⟨0,by omega,rfl,rfl,HS⟩
     case round =>
      clear HS;obtain⟨k,hkl,rfl,hall,HS⟩:=hrel;have k4:wr.cell? ⟨w.heap.size+1,4,none⟩=some (.slice a3 c.rows.length c3):=blk9 HS.out.con 4 _ rfl;by_cases hlt:k<c.rows.length
      ·obtain⟨z,hz⟩:∃z,c.rows[k]? = some z:=⟨c.rows[k],by simp[hlt]⟩
       obtain⟨a9,c9,e9,_,hr⟩:=(HK.out _ HS.out.bel).2.2.1
       injection e9 with e91 _ e92
       rw[←e91] at hr;clear e91 e92;obtain⟨b,off,x,ha,hb,hc,hx⟩:=hr k z hz;rw[ha] at k4;clear ha;obtain⟨a9,c9,rfl,hm9,hr9⟩:=hx;have HZ:Hid (c.rows[k]? = some z):=hz;have HV9:Hid (∀(i:Nat) (y:Int),z[i]? = some y→∃b off,a9=some ⟨b,off,none⟩∧b<wr.heap.size∧wr.cell? ⟨b,off+i,none⟩=some (.int .i64 y)):=hr9;unfold maxLen at hm9;obtain⟨_,hm9⟩:=hm9;clear hz hr hr9;go_wp2_with fail
       go_loop [9] (fun i=>∃j:Nat,j≤z.length∧i=.int .i64 j∧Hid ((z.take j).all zAJ=true)) (fun i=>z.length - (intOf i).toNat)
       case atStart=>exact⟨0,by omega,rfl,rfl⟩
       case round =>
        obtain⟨j,hjl,rfl,hallj⟩:=hrel;by_cases hltj:j<z.length
        ·obtain⟨u,hu⟩:∃u,z[j]? = some u:=⟨z[j],by simp[hltj]⟩
         obtain⟨b2,off2,ha2,hb2,hc2⟩:=HV9.out j u hu;subst ha2;have HU:Hid (z[j]? = some u):=hu;clear hu;go_wp2_with fail
         refine (zE2 _ _).mono ?_;rintro e wq ⟨rfl,rfl⟩;cases hv:zAJ u
         ·have HN:Hid (R=3):=by show _=_;rw[HR3.out,if_neg (by unfold zBq;rw[zCC (fun r=>r.all zAJ) c.rows k z HZ.out (zCC _ z j u HU.out hv)];simp)]
          go_wp2
          go_ret
          exact⟨zAE HN.out.symm,HS.out.bel⟩
         ·have HN:Hid ((z.take (j+1)).all zAJ=true):=zBr _ z j u HU.out hallj.out hv
          go_wp2
          go_round
          case rel=>exact⟨j+1,by omega,by go_num,HN⟩
          case measure=>simp[intOf];omega
        have HN:Hid ((c.rows.take (k+1)).all (fun r=>r.all zAJ)=true):=zBr _ c.rows k z HZ.out hall.out (zCd _ z j hltj hallj.out)
        clear hallj;go_wp2
        go_roundw
        case rel=>exact⟨k+1,by omega,by go_num,HN,HS⟩
        case measure=>simp[intOf];omega
      have HR4:Hid (R=zAQ (c.lits.map (litE m.vars))):=by show _=_;rw[HR3.out,if_pos (by unfold zBq;rw[HA2.out,HA3.out,zCd _ c.rows k hlt hall.out];rfl)]
      clear hall HA2 HA3 HR3;go_wp2_with fail
      clear k4 hlt hkl;obtain⟨wd,hwd⟩:∃wd,wr=wd:=⟨_,rfl⟩;rw[hwd] at HS ⊢;clear hwd;go_loopw [10] (fun i wr=>∃k:Nat,k≤c.lits.length∧i=.int .i64 k∧Hid (zAQ ((c.lits.map (litE m.vars)).take k)=0)∧Hid (CkS w wr #[.slice a m.vars.length cap,cs,.int .i64 m.goal,.int .i64 m.var] #[.int .i64 c.kind,.slice a1 c.vars.length c1,.slice a2 c.consts.length c2,.int .i64 c.n,.slice a3 c.rows.length c3,.slice a4 c.lits.length c4])) (fun i _=>c.lits.length - (intOf i).toNat)
      case atStart=>exact⟨0,by omega,rfl,rfl,HS⟩
      case round =>
       clear HS;obtain⟨k,hkl,rfl,hall,HS⟩:=hrel;have k5:wr.cell? ⟨w.heap.size+1,5,none⟩=some (.slice a4 c.lits.length c4):=blk9 HS.out.con 5 _ rfl;have m0:wr.cell? ⟨w.heap.size,0,none⟩=some (.slice a m.vars.length cap):=blk9 HS.out.mod 0 _ rfl;have m1:wr.cell? ⟨w.heap.size,1,none⟩=some (cs):=blk9 HS.out.mod 1 _ rfl;have m2:wr.cell? ⟨w.heap.size,2,none⟩=some (.int .i64 m.goal):=blk9 HS.out.mod 2 _ rfl;have m3:wr.cell? ⟨w.heap.size,3,none⟩=some (.int .i64 m.var):=blk9 HS.out.mod 3 _ rfl;have l0:w.heap.size+1<wr.heap.size:=(Array.getElem?_eq_some_iff.1 HS.out.con).1;by_cases hlt:k<c.lits.length
       ·obtain⟨z,hz⟩:∃z,c.lits[k]? = some z:=⟨c.lits[k],by simp[hlt]⟩
        obtain⟨a9,c9,e9,_,hr⟩:=(HK.out _ HS.out.bel).2.2.2
        injection e9 with e91 _ e92
        rw[←e91] at hr;clear e91 e92;obtain⟨b,off,ha,hb,hc0,hc1,hc2⟩:=hr k z hz;rw[ha] at k5;clear ha;obtain⟨er,her⟩:∃er,litE m.vars z=er:=⟨_,rfl⟩;have HZ:Hid ((c.lits.map (litE m.vars))[k]? = some er):=by show _=_;rw[List.getElem?_map,hz,←her];rfl
        have hnv:=zKj m z a cap cs wr.drew HM.out;rw[her] at hnv;clear hz hr her;go_wp2_with fail
        go_region_law
         (first
           | (rw[if_pos (by rfl)];go_simp;go_at_call 94;refine hnv.mono ?_;rintro e w3 ⟨rfl,hb3⟩;have hB3:Below wr.heap.size wr w3:=(Below.refl _ _).drew.trans hb3;dsimp only))
        all_goals
         have HS3:Hid (CkS w w3 #[.slice a m.vars.length cap,cs,.int .i64 m.goal,.int .i64 m.var] #[.int .i64 c.kind,.slice a1 c.vars.length c1,.slice a2 c.consts.length c2,.int .i64 c.n,.slice a3 c.rows.length c3,.slice a4 c.lits.length c4]):=HS.out.below hB3;clear hB3 hb3 hnv;by_cases he:er=0
         ·subst he
          have HN:Hid (zAQ ((c.lits.map (litE m.vars)).take (k+1))=0):=zCB _ k hall.out HZ.out;go_wp2
          go_roundw
          case rel=>exact⟨k+1,by omega,by go_num,HN,HS3⟩
          case measure=>simp[intOf];omega
         ·have HN:Hid (R=er):=by show _=_;rw[HR4.out];exact zB2 _ k er hall.out HZ.out he
          have he2:(er != 0)=true:=by simpa using he
          clear he;go_wp2
          go_ret
          exact⟨zAE HN.out.symm,HS3.out.bel⟩
       have HN:Hid (R=0):=by
        have:=hall.out;rw[List.take_of_length_le (by simp;omega)] at this
        show _=_;rw[HR4.out];exact this
       go_wp2
       go_ret
       exact⟨zAE HN.out.symm,HS.out.bel⟩
 ·rw[if_neg hkind] at hR
  have HN:Hid (R=7):=hR.symm;have q1:(decide (1≤c.kind)&&decide (c.kind≤10))=false:=by rw[Bool.and_eq_false_iff];simp;omega
  go_enter Tryz.func45,Tryz.ntmps45
  go_wp2_with fail
  refine (zA3 _ _ _ _).mono ?_;rintro e wq ⟨rfl,rfl⟩;rw[q1,HY.out];go_wp2
  go_ret
  exact⟨zAE HN.out.symm,HS0.out.bel⟩
end Go.Proofs.YtdjbejlbmaiocagGreatDoor
