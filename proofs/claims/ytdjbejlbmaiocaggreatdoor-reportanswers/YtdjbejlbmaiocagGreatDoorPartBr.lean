/- What the proof leans on, part 44. -/
import Derived.Test.YtdjbejlbmaiocagGreatDoorPartBq
import Derived.Test.YtdjbejlbmaiocagGreatDoorPartBm
import Derived.Test.YtdjbejlbmaiocagGreatDoorPartAe
import Derived.Test.YtdjbejlbmaiocagGreatDoorPartBo
set_option maxRecDepth 100000
set_option maxHeartbeats 4000000
namespace Go.Proofs.YtdjbejlbmaiocagGreatDoor
open Go.RowKit
def zHF (m:Mod):List Int:=m.cons.map (zMA m.vars)
theorem zRR (m:Mod) (k:Nat) (t:MCon) (h:m.cons[k]? = some t):(zHF m)[k]? = some (zMA m.vars t):=by simp[zHF,h]
def zCq (m:Mod):Int :=
 if m.vars.length=0 then 1 else if 6<m.vars.length∨8<m.cons.length then 2
 else if zAQ (varL m)=0 then (if zAQ (zHF m)=0 then zHa m else zAQ (zHF m)) else zAQ (varL m)
def zTD (m:Mod):Prop:=∀c∈m.cons,∀l∈c.lits,1≤l.op∧l.op≤4
theorem zI2 (vs:List MVar):∀ls:List MLit,(∀l∈ls,1≤l.op∧l.op≤4)→(ls.all fun l=>zBA l.var vs.length)=true→zAQ (ls.map (litE vs))=zMN ls
 | [],_,_=>rfl
 | x :: r,h,hv=>by
   have hx:=h x List.mem_cons_self;rw[List.all_cons,Bool.and_eq_true] at hv;have ih:=zI2 vs r (fun l hl=>h l (List.mem_cons_of_mem _ hl)) hv.2
   have hr:(r.all fun l=>decide (1≤l.op)&&decide (l.op≤4))=true:=List.all_eq_true.2 (fun l hl=>by have:=h l (List.mem_cons_of_mem _ hl);simp;omega)
   have hxx:(decide (1≤x.op)&&decide (x.op≤4))=true:=by simp;omega
   have hvx:¬(x.var<0∨(vs.length:Int)≤x.var):=by have:=hv.1;unfold zBA at this;simp at this;omega
   rw[List.map_cons];unfold zMN at ih ⊢;rw[List.all_cons,List.all_cons,hxx,hr,Bool.true_and,if_pos rfl];rw[hr,if_pos rfl] at ih;unfold zAQ;have hle:litE vs x=if x.n < -1000∨1000<x.n then 3 else 0:=by unfold litE;rw[if_neg hvx,if_neg (by omega)]
   rw[hle];by_cases hn:x.n < -1000∨1000<x.n
   ·have hb:zAJ x.n=false:=by unfold zAJ inB;rw[Bool.and_eq_false_iff];simp;omega
    rw[if_pos hn,hb,Bool.false_and];rfl
   ·have hb:zAJ x.n=true:=by unfold zAJ inB;rw[Bool.and_eq_true];simp;omega
    rw[if_neg hn,if_pos rfl,hb,Bool.true_and];exact ih
theorem zPO (vs:List MVar) (c:MCon) (h:∀l∈c.lits,1≤l.op∧l.op≤4):zMA vs c=conE vs.length c:=by
 unfold zMA conE
 split
 ·split
  ·rfl
  ·split
   ·split
    ·rename_i hv
     split
     ·refine zI2 vs c.lits h ?_
      unfold zE9 at hv;rw[Bool.and_eq_true] at hv;exact hv.2
     ·rfl
    ·rfl
   ·rfl
 ·rfl
theorem zMB (m:Mod) (h:zTD m):zCq m=zAF m:=by
 have e:zHF m=conL m:=List.map_congr_left (fun c hc=>zPO m.vars c (h c hc))
 unfold zCq zAF;rw[e];rfl
structure CmS (w wr:World) (mb:Array Value):Prop where
 bel:Below w.heap.size w wr
 mod:wr.heap[w.heap.size]? = some (.cells mb 25)
theorem CmS.below {w wr wr':World} {mb:Array Value} (h:CmS w wr mb) (hb:Below wr.heap.size wr wr'):CmS w wr' mb :=
 ⟨h.bel.trans (hb.mono h.bel.size),(hb.block _ (Array.getElem?_eq_some_iff.1 h.mod).1).trans h.mod⟩
theorem in50 (n:Int):(decide (-50≤n)&&decide (n≤50))=inB n 50:=rfl
theorem zI3 (m:Mod) (vs cs:Value) (w:World) (hm:MArg w vs cs m) :
 Calls Tryz.prog 10 #[modV vs cs m] w fun e w'=>e=.returned (.int .i64 (zCq m))∧Below w.heap.size w w':=by
 have HMA:Hid (∀w':World,Below w.heap.size w w'→MArg w' vs cs m):=fun w' h=>MArg.below h hm
 obtain⟨⟨a1,c1,rfl,hl1,hr1⟩,⟨a2,c2,rfl,hl2,hr2⟩⟩:=hm;obtain⟨R,hR⟩:∃R,zCq m=R:=⟨_,rfl⟩;rw[hR];unfold maxLen at hl1 hl2;obtain⟨hl11,hl1⟩:=hl1;obtain⟨hl21,hl2⟩:=hl2;have HML:Hid (m.vars.length≤maxLen):=by unfold maxLen;show _≤_;omega
 clear hr1 hr2;unfold modV;have HS0:Hid (CmS w (w.alloc (.cells #[.slice a1 m.vars.length c1,.slice a2 m.cons.length c2,.int .i64 m.goal,.int .i64 m.var] 25)) #[.slice a1 m.vars.length c1,.slice a2 m.cons.length c2,.int .i64 m.goal,.int .i64 m.var]):=⟨zAA _ _,heap_alloc_new w _⟩;obtain⟨mb,hmb⟩:∃mb:Array Value,#[.slice a1 m.vars.length c1,.slice a2 m.cons.length c2,.int .i64 m.goal,.int .i64 m.var]=mb:=⟨_,rfl⟩;have HMB:Hid (mb[0]? = some (.slice a1 m.vars.length c1)∧mb[1]? = some (.slice a2 m.cons.length c2)∧mb[2]? = some (.int .i64 m.goal)∧mb[3]? = some (.int .i64 m.var)):=by rw[←hmb];exact⟨rfl,rfl,rfl,rfl⟩
 obtain⟨y,hy⟩:∃y,w.alloc (.cells #[.slice a1 m.vars.length c1,.slice a2 m.cons.length c2,.int .i64 m.goal,.int .i64 m.var] 25)=y:=⟨_,rfl⟩;rw[hy] at HS0;rw[hmb] at HS0;have HY:Hid (w.alloc (.cells #[.slice a1 m.vars.length c1,.slice a2 m.cons.length c2,.int .i64 m.goal,.int .i64 m.var] 25)=y):=hy;clear hy hmb;have m0:y.cell? ⟨w.heap.size,0,none⟩=some (.slice a1 m.vars.length c1):=blk9 HS0.out.mod 0 _ HMB.out.1;have m1:y.cell? ⟨w.heap.size,1,none⟩=some (.slice a2 m.cons.length c2):=blk9 HS0.out.mod 1 _ HMB.out.2.1;by_cases h0:m.vars.length=0
 ·have HE:Hid (R=1):=by rw[←hR];unfold zCq;rw[if_pos h0];rfl
  have g0:((m.vars.length:Int)==0)=true:=by simp[h0]
  clear hR h0;go_enter Tryz.func10,Tryz.ntmps10
  go_wp2
  go_ret
  exact⟨zAE HE.out.symm,zAA _ _⟩
 ·have g0:((m.vars.length:Int)==0)=false:=by simpa using h0
  by_cases h6:6<m.vars.length
  ·have HE:Hid (R=2):=by rw[←hR];unfold zCq;rw[if_neg h0,if_pos (Or.inl h6)];rfl
   clear hR h0;go_enter Tryz.func10,Tryz.ntmps10
   go_wp2
   go_ret
   exact⟨zAE HE.out.symm,zAA _ _⟩
  ·by_cases h8:8<m.cons.length
   ·have HE:Hid (R=2):=by rw[←hR];unfold zCq;rw[if_neg h0,if_pos (Or.inr h8)];rfl
    clear hR h0;go_enter Tryz.func10,Tryz.ntmps10
    go_wp2
    go_ret
    exact⟨zAE HE.out.symm,zAA _ _⟩
   ·have HE:Hid (R=if zAQ (varL m)=0 then (if zAQ (zHF m)=0 then zHa m else zAQ (zHF m)) else zAQ (varL m)):=by
     rw[←hR];unfold zCq;rw[if_neg h0,if_neg (by omega)];rfl
    clear hR h0;go_enter Tryz.func10,Tryz.ntmps10
    go_wp2
    rw[HY.out];clear HY m0 m1;go_loopw [4] (fun i wr=>∃k:Nat,k≤m.vars.length∧i=.int .i64 k∧Hid (zAQ ((varL m).take k)=0)∧Hid (CmS w wr mb)) (fun i _=>m.vars.length - (intOf i).toNat)
    case atStart=>exact⟨0,by omega,rfl,rfl,HS0⟩
    case round =>
     clear HS0;obtain⟨k,hk,rfl,hno,HS⟩:=hrel;have m0:wr.cell? ⟨w.heap.size,0,none⟩=some (.slice a1 m.vars.length c1):=blk9 HS.out.mod 0 _ HMB.out.1;have hws:w.heap.size<wr.heap.size:=(Array.getElem?_eq_some_iff.1 HS.out.mod).1;by_cases hlt:k<m.vars.length
     ·obtain⟨t,ht⟩:∃t,m.vars[k]? = some t:=⟨m.vars[k],by simp[hlt]⟩
      have HG:Hid ((varL m)[k]? = some (varE (m.vars.take k) t)):=zNZ m k t ht;obtain⟨a9,c9,e9,_,hr⟩:=(HMA.out _ HS.out.bel).1
      injection e9 with e91 _ e92
      rw[←e91] at hr;clear e91 e92;obtain⟨hts,b,off,ha,hb,n0,n1,n2⟩:=hr k t ht;rw[ha] at m0;have HA1:Hid (a1=some ⟨b,off,none⟩):=ha;have HTS:Hid (t.name.size≤maxLen):=hts;clear hr ht ha hts;obtain⟨V,hV⟩:∃V,varE (m.vars.take k) t=V:=⟨_,rfl⟩;rw[hV] at HG;have HV:Hid (V=(if zAb t.name then (if zCW (m.vars.take k) t.name then 6 else if inB t.lo 50&&(inB t.hi 50&&!decide (t.hi<t.lo)) then (if 6<t.hi - t.lo+1 then 2 else 0) else 3) else 1)):=by show _=_;rw[←hV];rfl
      clear hV;have HHIT:Hid (V≠0→R=V):=fun hv=>by rw[HE.out,if_neg (by rw[zB2 _ k V hno.out HG.out hv];exact hv)];exact zB2 _ k V hno.out HG.out hv
      have HSV:Hid (CmS w (wr.alloc (.cells #[.string t.name,.int .i64 t.lo,.int .i64 t.hi] 71)) mb):=HS.out.below (zAA _ _);have HVB:Hid ((wr.alloc (.cells #[.string t.name,.int .i64 t.lo,.int .i64 t.hi] 71)).heap[wr.heap.size]? = some (.cells #[.string t.name,.int .i64 t.lo,.int .i64 t.hi] 71)):=heap_alloc_new wr _;obtain⟨nm,hnm⟩:∃nm,t.name=nm:=⟨_,rfl⟩;obtain⟨lo,hlo⟩:∃lo,t.lo=lo:=⟨_,rfl⟩;obtain⟨hi,hhi⟩:∃hi,t.hi=hi:=⟨_,rfl⟩;rw[hnm] at HTS;rw[hnm,hlo,hhi] at HV;rw[hnm,hlo,hhi] at HSV HVB;rw[hnm] at n0;rw[hlo] at n1;rw[hhi] at n2;clear hnm hlo hhi;go_wp2_with fail
      refine (zHA nm HTS.out _).mono ?_;rintro e w1 ⟨rfl,hb1⟩;have HS1:Hid (CmS w w1 mb):=HSV.out.below hb1;have HVB1:Hid (w1.heap[wr.heap.size]? = some (.cells #[.string nm,.int .i64 lo,.int .i64 hi] 71)):=(hb1.block _ (Array.getElem?_eq_some_iff.1 HVB.out).1).trans HVB.out;obtain⟨B,hB⟩:∃B,wr.heap.size=B:=⟨_,rfl⟩;rw[hB] at HVB1;have HBB:Hid (wr.heap.size=B):=hB;clear hb1 HSV HVB m0 n0 n1 n2 hb HS hws hB;cases hn:zAb nm
      ·have HN:Hid (R=1):=by
        have hv:V=1:=by rw[HV.out,hn];rfl
        rw[hv] at HHIT;exact HHIT.out (by decide)
       clear hn;go_wp2
       go_ret
       exact⟨zAE HN.out.symm,HS1.out.bel⟩
      have HV1:Hid (V=(if zCW (m.vars.take k) nm then 6 else if inB lo 50&&(inB hi 50&&!decide (hi<lo)) then (if 6<hi - lo+1 then 2 else 0) else 3)):=by show _=_;rw[HV.out,hn];rfl
      clear hn HV;go_wp2_with fail
      rw[HBB.out];clear HBB;go_loopw [6] (fun i wx=>∃j:Nat,j≤k∧i=.int .i64 j∧Hid (zCW (m.vars.take j) nm=false)∧Hid (CmS w wx mb)∧Hid (wx.heap[B]? = some (.cells #[.string nm,.int .i64 lo,.int .i64 hi] 71))) (fun i _=>k - (intOf i).toNat)
      case atStart=>exact⟨0,by omega,rfl,rfl,HS1,HVB1⟩
      case round =>
       clear HS1 HVB1;obtain⟨j,hj,rfl,htw,HS1,HVB1⟩:=hrel;have m0:wr.cell? ⟨w.heap.size,0,none⟩=some (.slice a1 m.vars.length c1):=blk9 HS1.out.mod 0 _ HMB.out.1;have v0:wr.cell? ⟨B,0,none⟩=some (.string nm):=blk9 HVB1.out 0 _ rfl;have v1:wr.cell? ⟨B,1,none⟩=some (.int .i64 lo):=blk9 HVB1.out 1 _ rfl;have v2:wr.cell? ⟨B,2,none⟩=some (.int .i64 hi):=blk9 HVB1.out 2 _ rfl;by_cases hltj:j<k
       ·obtain⟨u,hu⟩:∃u,m.vars[j]? = some u:=⟨m.vars[j],by simp⟩
        have hu2:(m.vars.take k)[j]? = some u:=by rw[List.getElem?_take,if_pos hltj];exact hu
        obtain⟨a9,c9,e9,_,hr⟩:=(HMA.out _ HS1.out.bel).1
        injection e9 with e91 _ e92
        rw[←e91] at hr;clear e91 e92;obtain⟨hts,b2,off2,ha,hb2,n0,n1,n2⟩:=hr j u hu;rw[ha] at m0;have HU:Hid (m.vars[j]? = some u):=hu;have HU2:Hid ((m.vars.take k)[j]? = some u):=hu2;clear hr ha hts hu hu2 n1 n2;cases hq:(u.name.toList==nm.toList)
        ·have HN:Hid (zCW (m.vars.take (j+1)) nm=false):=by
          show _=_;have h1:=htw.out;unfold zCW at h1 ⊢;rw[List.take_add_one,HU.out,List.any_append,h1];simp[hq]
         clear htw;go_wp2
         go_quiet (fail)
         go_wp2
         have HB9:Hid (Below wr.heap.size wr (wr.drewN nq)):=below_drewN (Below.refl _ _) _;go_roundw
         case rel=>exact⟨j+1,by omega,by go_num,HN,HS1.out.below HB9.out,(HB9.out.block _ (Array.getElem?_eq_some_iff.1 HVB1.out).1).trans HVB1.out⟩
         case measure=>simp[intOf];omega
        ·have HN:Hid (R=6):=by
          have hv:V=6:=by rw[HV1.out,zKx _ nm j u HU2.out hq];rfl
          rw[hv] at HHIT;exact HHIT.out (by decide)
         go_wp2
         go_quiet (fail)
         go_wp2
         go_ret
         exact⟨zAE HN.out.symm,(HS1.out.below (below_drewN (Below.refl _ _) _)).bel⟩
       have hjk:j=k:=by omega
       have HV2:Hid (V=(if inB lo 50&&(inB hi 50&&!decide (hi<lo)) then (if 6<hi - lo+1 then 2 else 0) else 3)):=by show _=_;rw[HV1.out,←hjk,htw.out];rfl
       clear HV1 htw m0 hjk;go_wp2_with fail
       refine (zA3 _ _ _ _).mono ?_;rintro e wz ⟨rfl,rfl⟩;rw[in50];cases h1:inB lo 50
       ·have HN:Hid (R=3):=by
         have hv:V=3:=by rw[HV2.out,h1];rfl
         rw[hv] at HHIT;exact HHIT.out (by decide)
        clear h1;go_wp2
        go_ret
        exact⟨zAE HN.out.symm,HS1.out.bel⟩
       have hlo:-50≤lo∧lo≤50:=by unfold inB at h1;simp at h1;omega
       go_wp2_with fail
       refine (zA3 _ _ _ _).mono ?_;rintro e wz ⟨rfl,rfl⟩;rw[in50];cases h2:inB hi 50
       ·have HN:Hid (R=3):=by
         have hv:V=3:=by rw[HV2.out,h1,h2];rfl
         rw[hv] at HHIT;exact HHIT.out (by decide)
        clear h1 h2;go_wp2
        go_ret
        exact⟨zAE HN.out.symm,HS1.out.bel⟩
       have hhi:-50≤hi∧hi≤50:=by unfold inB at h2;simp at h2;omega
       by_cases h3:hi<lo
       ·have HN:Hid (R=3):=by
         have hv:V=3:=by rw[HV2.out,h1,h2,decide_eq_true h3];rfl
         rw[hv] at HHIT;exact HHIT.out (by decide)
        clear h1 h2;go_wp2
        go_ret
        exact⟨zAE HN.out.symm,HS1.out.bel⟩
       have HV3:Hid (V=(if 6<hi - lo+1 then 2 else 0)):=by show _=_;rw[HV2.out,h1,h2,decide_eq_false h3];rfl
       clear HV2 h1 h2;by_cases h4:6<hi - lo+1
       ·have HN:Hid (R=2):=by
         have hv:V=2:=by rw[HV3.out,if_pos h4]
         rw[hv] at HHIT;exact HHIT.out (by decide)
        go_wp2
        go_ret
        exact⟨zAE HN.out.symm,HS1.out.bel⟩
       have HN:Hid (zAQ ((varL m).take (k+1))=0):=by
        have hv:V=0:=by rw[HV3.out,if_neg h4]
        rw[hv] at HG;exact zCB _ k hno.out HG.out
       clear HV3 HHIT HG;go_wp2
       go_roundw
       case rel=>exact⟨k+1,by omega,by go_num,HN,HS1⟩
       case measure=>simp[intOf];omega
     have HE2:Hid (R=if zAQ (zHF m)=0 then zHa m else zAQ (zHF m)):=by
      have h1:=hno.out;rw[List.take_of_length_le (by rw[zNa];omega)] at h1
      show _=_;rw[HE.out,if_pos h1]
     clear HE hno;go_wp2_with fail
     clear m0 hlt hk hws;obtain⟨wa,hwa⟩:∃wa,wr=wa:=⟨_,rfl⟩;rw[hwa] at HS ⊢;clear hwa;go_loopw [7] (fun i wr=>∃k:Nat,k≤m.cons.length∧i=.int .i64 k∧Hid (zAQ ((zHF m).take k)=0)∧Hid (CmS w wr mb)) (fun i _=>m.cons.length - (intOf i).toNat)
     case atStart=>exact⟨0,by omega,rfl,rfl,HS⟩
     case round =>
      clear HS;obtain⟨k,hk,rfl,hno,HS⟩:=hrel;have m0:wr.cell? ⟨w.heap.size,0,none⟩=some (.slice a1 m.vars.length c1):=blk9 HS.out.mod 0 _ HMB.out.1;have m1:wr.cell? ⟨w.heap.size,1,none⟩=some (.slice a2 m.cons.length c2):=blk9 HS.out.mod 1 _ HMB.out.2.1;have m2:wr.cell? ⟨w.heap.size,2,none⟩=some (.int .i64 m.goal):=blk9 HS.out.mod 2 _ HMB.out.2.2.1;have m3:wr.cell? ⟨w.heap.size,3,none⟩=some (.int .i64 m.var):=blk9 HS.out.mod 3 _ HMB.out.2.2.2;by_cases hlt:k<m.cons.length
      ·obtain⟨t,ht⟩:∃t,m.cons[k]? = some t:=⟨m.cons[k],by simp[hlt]⟩
       have hg:=zRR m k t ht;obtain⟨a9,c9,e9,_,hr⟩:=(HMA.out _ HS.out.bel).2
       injection e9 with e91 _ e92
       rw[←e91] at hr;clear e91 e92;obtain⟨b,off,vv,vc,vr,vl,ha,hb,q0,q1,q2,q3,q4,q5,hka⟩:=hr k t ht;have hnv:=zKk m t a1 c1 (.slice a2 m.cons.length c2) vv vc vr vl wr.drew HML.out (KArg.below (Below.refl _ _).drew hka);obtain⟨er,her⟩:∃er,zMA m.vars t=er:=⟨_,rfl⟩;rw[her] at hg hnv;have HG:Hid ((zHF m)[k]? = some er):=hg;obtain⟨⟨x1,y1,rfl,_,_⟩,⟨x2,y2,rfl,_,_⟩,⟨x3,y3,rfl,_,_⟩,⟨x4,y4,rfl,_,_⟩⟩:=hka;unfold conV at hnv;have m1':wr.cell? ⟨w.heap.size,1,none⟩=some (.slice (some ⟨b,off,none⟩) m.cons.length c2):=by rw[←ha];exact m1
       rw[ha] at hnv;clear hr ht her hg m1 ha;go_wp2_with fail
       go_region_law
        (first
          | (rw[if_pos (by rfl)];go_simp;go_at_call 45;refine hnv.mono ?_;rintro e w3 ⟨rfl,hb3⟩;have hB3:Below wr.heap.size wr w3:=(Below.refl _ _).drew.trans hb3;dsimp only))
       all_goals
        have HS3:Hid (CmS w w3 mb):=HS.out.below hB3;clear hB3 hb3 hnv;by_cases he:er=0
        ·subst he
         have HN:Hid (zAQ ((zHF m).take (k+1))=0):=zCB _ k hno.out HG.out;go_wp2
         go_roundw
         case rel=>exact⟨k+1,by omega,by go_num,HN,HS3⟩
         case measure=>simp[intOf];omega
        ·have HN:Hid (R=er):=by show _=_;rw[HE2.out,if_neg (by rw[zB2 _ k er hno.out HG.out he];exact he)];exact zB2 _ k er hno.out HG.out he
         have he2:(er != 0)=true:=by simpa using he
         clear he;go_wp2
         go_ret
         exact⟨zAE HN.out.symm,HS3.out.bel⟩
      have HE3:Hid (R=zHa m):=by
       have h1:=hno.out;rw[List.take_of_length_le (by unfold zHF;rw[List.length_map];omega)] at h1
       show _=_;rw[HE2.out,if_pos h1]
      clear HE2 hno;obtain⟨g,hg⟩:∃g,m.goal=g:=⟨_,rfl⟩;obtain⟨x,hx⟩:∃x,m.var=x:=⟨_,rfl⟩;rw[hg] at m2;rw[hx] at m3;have HGE:Hid (R=if g=0 then (if x=0 then 0 else 1) else if g=1∨g=2 then (if zBA x m.vars.length then 0 else 5) else 7):=by show _=_;rw[HE3.out,←hg,←hx];rfl
      clear HE3 hg hx;go_wp2_with fail
      refine (zA3 _ _ _ _).mono ?_;rintro e wz ⟨rfl,rfl⟩;by_cases hg02:0≤g∧g≤2
      ·have hq:(decide (0≤g)&&decide (g≤2))=true:=by rw[Bool.and_eq_true];simp;omega
       rw[hq];by_cases hg0:g=0
       ·subst hg0
        by_cases hx0:x=0
        ·subst hx0
         have HN:Hid (R=0):=HGE.out;go_wp2
         go_ret
         exact⟨zAE HN.out.symm,HS.out.bel⟩
        ·have HN:Hid (R=1):=by show _=_;rw[HGE.out,if_pos rfl,if_neg hx0]
         have hxn:(x != 0)=true:=by simpa using hx0
         clear hx0;go_wp2
         go_ret
         exact⟨zAE HN.out.symm,HS.out.bel⟩
       ·have hgn:(g != 0)=true:=by simpa using hg0
        have hgz:(g==0)=false:=by simpa using hg0
        have HN0:Hid (R=if zBA x m.vars.length then 0 else 5):=by show _=_;rw[HGE.out,if_neg hg0,if_pos (by omega)]
        clear HGE;have HWR:Hid (IntKind.i64.wrap ((m.vars.length:Int) - 1)=(m.vars.length:Int) - 1):=by show _=_;rw[IntKind.wrap_i64];omega
        go_wp2_with fail
        refine (zA3 _ _ _ _).mono ?_;rintro e wz ⟨rfl,rfl⟩
        try rw[HWR.out]
        rw[zFa];cases hv:zBA x m.vars.length
        ·have HN:Hid (R=5):=by show _=_;rw[HN0.out,hv];rfl
         clear hv;go_wp2
         go_ret
         exact⟨zAE HN.out.symm,HS.out.bel⟩
        ·have HN:Hid (R=0):=by show _=_;rw[HN0.out,hv];rfl
         clear hv;go_wp2
         go_ret
         exact⟨zAE HN.out.symm,HS.out.bel⟩
      ·have hq:(decide (0≤g)&&decide (g≤2))=false:=by rw[Bool.and_eq_false_iff];simp;omega
       rw[hq];have HN:Hid (R=7):=by show _=_;rw[HGE.out,if_neg (by omega),if_neg (by omega)]
       go_wp2
       go_ret
       exact⟨zAE HN.out.symm,HS.out.bel⟩
section
variable {en:Int} {T:List Tok}
theorem zDv {γ δ:Type} {S:γ→δ→Prop} {g:RP→γ×RP} {Q:List Tok→PR δ} (s:ByteArray) (hs:(ByteArray.empty.toList==s.toList)=false) (hg:Same en T S g Q):Same en T S (fun p=>g (zAU en T s p)) (fun l=>(zAP en s l).bind fun _ l=>Q l) :=
 (zED en T s hs).bindS (g:=fun _ p=>g p) (Q:=fun _ l=>Q l) (fun _=>hg.still) (fun _ _ _=>hg)
end
def zDd (en:Int) (T:List Tok) (p:RP):ByteArray×RP:=(txR en T p,if zAb (txR en T p) then zCm p else zAT 1 p)
theorem zKl (en:Int) (T:List Tok):zJH (zDd en T):=fun p hp=>by
 unfold zDd;rw[zDB en T p hp,zCn];exact zBv 1 p hp
theorem zMC (en:Int) (T:List Tok):Same en T Eq (zDd en T) (zCQ en):=by
 refine⟨zKl en T,fun p hp hk=>?_⟩
 unfold zDd zCQ;rw[zDC en T p hp,zNJ];refine zCx (y:=fun t=>t.text) p hp hk _ _ (fun hq=>⟨by show (if _ then _ else _)=_;rw[hq,if_pos rfl],zIz en T p.k (fun h0=>by rw[h0,zCn] at hq;cases hq),rfl⟩) (fun hq=>by show (if _ then _ else _)=_;rw[hq,if_neg (by simp)])
def zCr (en:Int) (T:List Tok) (p:RP):MVar×RP :=
 let a:=zDd en T (zAU en T varW p)
 let b:=kR en T (zAU en T colW a.2)
 let c:=kR en T (zAU en T zDs b.2)
 (⟨a.1,b.1,c.1⟩,zAU en T zAk c.2)
theorem zNK (en:Int) (T:List Tok) (hT:zGF T):Same en T Eq (zCr en T) (zCj en):=by
 have hN:=zGG en T hT;have h7:∀(n:ByteArray) (lo hi:Int),Same en T Eq (fun p=>((⟨n,lo,hi⟩:MVar),zAU en T zAk p)) (fun l=>(zAP en zAk l).bind fun _ l=>.ok (⟨n,lo,hi⟩:MVar) l):=fun n lo hi=>zDv zAk (by decide +kernel) (g:=fun p=>((⟨n,lo,hi⟩:MVar),p)) (Same.pure rfl)
 have h6:∀(n:ByteArray) (lo:Int),Same en T Eq (fun p=>((⟨n,lo,(kR en T p).1⟩:MVar),zAU en T zAk (kR en T p).2)) (fun l=>(zAN en l).bind fun hi l=>(zAP en zAk l).bind fun _ l=>.ok (⟨n,lo,hi⟩:MVar) l):=fun n lo =>
  hN.bindS (g:=fun hi p=>((⟨n,lo,hi⟩:MVar),zAU en T zAk p)) (Q:=fun hi l=>(zAP en zAk l).bind fun _ l=>.ok (⟨n,lo,hi⟩:MVar) l) (fun hi=>(h7 n lo hi).still) (fun x y hxy=>by rw[hxy];exact h7 n lo y)
 have h5:=fun (n:ByteArray) (lo:Int)=>zDv zDs (by decide +kernel) (h6 n lo)
 have h4:∀n:ByteArray,Same en T Eq (fun p=>((⟨n,(kR en T p).1,(kR en T (zAU en T zDs (kR en T p).2)).1⟩:MVar),zAU en T zAk (kR en T (zAU en T zDs (kR en T p).2)).2)) (fun l=>(zAN en l).bind fun lo l=>(zAP en zDs l).bind fun _ l=>(zAN en l).bind fun hi l=>(zAP en zAk l).bind fun _ l=>.ok (⟨n,lo,hi⟩:MVar) l):=fun n =>
  hN.bindS (g:=fun lo p=>((⟨n,lo,(kR en T (zAU en T zDs p)).1⟩:MVar),zAU en T zAk (kR en T (zAU en T zDs p)).2)) (Q:=fun lo l=>(zAP en zDs l).bind fun _ l=>(zAN en l).bind fun hi l=>(zAP en zAk l).bind fun _ l=>.ok (⟨n,lo,hi⟩:MVar) l) (fun lo=>(h5 n lo).still) (fun x y hxy=>by rw[hxy];exact h5 n y)
 have h3:=fun (n:ByteArray)=>zDv colW (by decide +kernel) (h4 n)
 exact zDv varW (by decide +kernel) ((zMC en T).bindS (g:=fun n p=>((⟨n,(kR en T (zAU en T colW p)).1,(kR en T (zAU en T zDs (kR en T (zAU en T colW p)).2)).1⟩:MVar),zAU en T zAk (kR en T (zAU en T zDs (kR en T (zAU en T colW p)).2)).2))
  (Q:=fun n l=>(zAP en colW l).bind fun _ l=>(zAN en l).bind fun lo l=>(zAP en zDs l).bind fun _ l=>(zAN en l).bind fun hi l=>(zAP en zAk l).bind fun _ l=>.ok (⟨n,lo,hi⟩:MVar) l) (fun n=>(h3 n).still) (fun x y hxy=>by rw[hxy];exact h3 y))
def rowR {α:Type} (en:Int) (T:List Tok) (wd:List UInt8) (f:RP→α×RP):Nat→List α→RP→List α×RP
 | 0,acc,p=>(acc,p)
 | n+1,acc,p=>if ((txR en T p).toList==wd)=true then rowR en T wd f n (acc++[(f p).1]) (f p).2 else (acc,p)
def zJI {α:Type} (en:Int) (wd:List UInt8) (P:List Tok→PR α):Nat→List α→List Tok→PR (List α)
 | 0,_,_=>.bad 0 0
 | f+1,acc,l=>if ((zAI en l).text.toList==wd)=true then (P l).bind fun v l=>zJI en wd P f (acc++[v]) l else .ok acc l
theorem zKm (en:Int):∀(f:Nat) (acc:List MVar) (l:List Tok),zIb en f acc l=zJI en [118,97,114] (zCj en) f acc l
 | 0,_,_=>rfl
 | f+1,acc,l=>by
   unfold zIb zJI;simp only[zKm en f]
theorem zOE (en:Int) (nm:List ByteArray):∀(f:Nat) (acc:List MCon) (l:List Tok),zG4 en nm f acc l=zJI en [99,111,110] (conP en nm) f acc l
 | 0,_,_=>rfl
 | f+1,acc,l=>by
   unfold zG4 zJI;simp only[zOE en nm f]
theorem zOF {α:Type} (en:Int) (T:List Tok) (wd:List UInt8) (hw:(ByteArray.empty.toList==wd)=false) (f:RP→α×RP) (n:Nat) (acc:List α) (p:RP) (hp:p.er≠0):rowR en T wd f n acc p=(acc,p):=by
 cases n with
 | zero=>rfl
 | succ n=>unfold rowR;rw[zDB en T p hp,if_neg (by rw[hw];simp)]
def RDL {α:Type} (D:Prop) (xs ys:List α):Prop:=(D→xs=ys)∧xs.length=ys.length
theorem zMD {α:Type} {en:Int} {T:List Tok} {D:Prop} (wd:List UInt8) (hw:(ByteArray.empty.toList==wd)=false) {f:RP→α×RP} {P:List Tok→PR α} (hf:Same en T (RD D) f P) (hE:∀l x r,((zAI en l).text.toList==wd)=true→P l=.ok x r→r.length<l.length) :
 ∀(n:Nat) (p:RP) (acc acc':List α) (fu gu:Nat),p.er=0→p.k≤T.length→(T.drop p.k).length≤n→n+1≤fu→n+1≤gu→(D→acc=acc')∧acc.length=acc'.length →
  zDp en T (RDL D) (rowR en T wd f fu acc p) (zJI en wd P gu acc' (T.drop p.k)):=by
 intro n
 induction n with
 | zero =>
   intro p acc acc' fu gu hp hk hl hfu hgu ha;obtain⟨g,rfl⟩:∃g,gu=g+1:=⟨gu - 1,by omega⟩
   obtain⟨f0,rfl⟩:∃f0,fu=f0+1:=⟨fu - 1,by omega⟩
   have h0:T.drop p.k=[]:=List.eq_nil_of_length_eq_zero (by omega)
   unfold rowR zJI;rw[zDC en T p hp,h0];have e:((zAI en []).text.toList==wd)=false:=hw;rw[e,if_neg (by simp),if_neg (by simp)]
   exact⟨hp,h0,hk,ha⟩
 | succ n ih =>
   intro p acc acc' fu gu hp hk hl hfu hgu ha;obtain⟨g,rfl⟩:∃g,gu=g+1:=⟨gu - 1,by omega⟩
   obtain⟨f0,rfl⟩:∃f0,fu=f0+1:=⟨fu - 1,by omega⟩
   unfold rowR zJI;rw[zDC en T p hp];cases hq:((zAI en (T.drop p.k)).text.toList==wd)
   ·rw[if_neg (by simp),if_neg (by simp)]
    exact⟨hp,rfl,hk,ha⟩
   ·rw[if_pos rfl,if_pos rfl]
    have h2:=hf.same p hp hk;cases hP:P (T.drop p.k) with
    | ok x l =>
      rw[hP] at h2;obtain⟨b1,b2,b3,b4⟩:=h2;have hl2:=hE _ x l hq hP;have:=ih (f p).2 (acc++[(f p).1]) (acc'++[x]) f0 g b1 b3 (by rw[b2];omega) (by omega) (by omega) ⟨fun hD=>by rw[ha.1 hD,b4 hD],by simp[ha.2]⟩
      rw[b2] at this;exact this
    | bad pl e =>
      rw[hP] at h2;obtain⟨b1,b2,b3,b4⟩:=h2;rw[zOF en T wd hw f _ _ _ (by rw[b1];exact b2)]
      exact⟨b1,b2,b3,b4⟩
def zCc (en:Int) (T:List Tok) (nm:List ByteArray) (g:Int) (p:RP):(Int×Int)×RP :=
 if p.er=0∧g≠0 then ((g,(vR en T nm p).1),zAU en T zAk (vR en T nm p).2) else ((g,0),zAU en T zAk p)
def zEW (en:Int) (T:List Tok) (nm:List ByteArray) (p:RP):(Int×Int)×RP :=
 zCc en T nm (zAn en T (zAU en T zEN p) zCZ 0).1 (zAn en T (zAU en T zEN p) zCZ 0).2
theorem zNL:∀s∈zCZ,(ByteArray.empty.toList==s.toList)=false:=by
 intro s hs;simp only[zCZ,List.mem_cons,List.not_mem_nil,or_false] at hs;rcases hs with rfl | rfl | rfl <;> decide +kernel
theorem zRS (en:Int) (T:List Tok) (hT:zGF T) (nm:List ByteArray) (hn:∀n∈nm,∀s:ByteArray,n.data.toList=s.data.toList→zAb s=true):Same en T (RD (zDU nm)) (zEW en T nm) (zKY en nm):=by
 have hst:∀g,zJH (zCc en T nm g):=fun g p hp=>by
  unfold zCc;rw[if_neg (fun h=>hp h.1)]
  exact zBn en T zAk p hp
 refine zDv zEN (by decide +kernel) (g:=fun p=>zCc en T nm (zAn en T p zCZ 0).1 (zAn en T p zCZ 0).2) ((zRM en T hT zCZ zNL).bind (g:=zCc en T nm)
  (Q:=fun g l=>if g=0 then (zAP en zAk l).bind fun _ l=>.ok (g,0) l else (zA7 en nm l).bind fun v l=>(zAP en zAk l).bind fun _ l=>.ok (g,v) l) hst (fun x y hxy p hp hk=>?_))
 rw[hxy];unfold zCc;by_cases h0:y=0
 ·rw[if_neg (fun h=>h.2 h0),if_pos h0]
  exact (zDv zAk (by decide +kernel) (g:=fun p=>((y,(0:Int)),p)) (Q:=fun l=>.ok (y,0) l) (Same.pure (R:=RD (zDU nm)) (fun _=>rfl))).same p hp hk
 ·rw[if_pos ⟨hp,h0⟩,if_neg h0]
  have h1:∀v v':Int,RD (zDU nm) v v'→Same en T (RD (zDU nm)) (fun p=>((y,v),zAU en T zAk p)) (fun l=>(zAP en zAk l).bind fun _ l=>.ok (y,v') l):=fun v v' hv =>
   zDv zAk (by decide +kernel) (g:=fun p=>((y,v),p)) (Q:=fun l=>.ok (y,v') l) (Same.pure (R:=RD (zDU nm)) (fun hD=>by rw[hv hD]))
  exact ((zI1 en T nm hn).bindS (S:=RD (zDU nm)) (g:=fun v p=>((y,v),zAU en T zAk p)) (Q:=fun v l=>(zAP en zAk l).bind fun _ l=>.ok (y,v) l) (fun v p hp=>zBn en T zAk p hp) h1).same p hp hk
theorem zAY {α β:Type} {P:List Tok→PR α} {Q:α→List Tok→PR β} (hP:Eats P) (hQ:∀x,Eats (Q x)):Eats (fun l=>(P l).bind Q):=fun l x r h=>by
 obtain⟨a,q,h1,h2⟩:=PR.bind_ok h;exact Nat.le_trans (hQ a q x r h2) (hP l a q h1)
theorem zCL {α:Type} (y:α):Eats (fun l=>.ok y l):=fun l x r h=>by cases h;exact Nat.le_refl _
theorem zTu (en:Int):Eats (zCQ en):=zLe en (fun l=>zFo (zAI en l).text) (fun t _=>t.text)
theorem zME {α:Type} (en:Int) (s:ByteArray) (hs:(ByteArray.empty.toList==s.toList)=false) (Q:List Tok→PR α) (hQ:Eats Q) (l:List Tok) (x:α) (r:List Tok) (h:((zAP en s l).bind fun _ l=>Q l)=.ok x r):r.length<l.length:=by
 obtain⟨t,q,h1,h2⟩:=PR.bind_ok h;have h3:=hQ q x r h2;have h4:=zDj en l _ t q h1;have h5:l≠[]:=by
  intro he;subst he;unfold zAP zBm at h1;rw[show ((zAI en []).text.toList==s.toList)=false from hs,if_neg (by simp)] at h1
  cases h1
 cases l with
 | nil=>exact absurd rfl h5
 | cons a l=>rw[h4] at h3;simp at h3 ⊢;omega
theorem zNM (en:Int) (l:List Tok) (x:MVar) (r:List Tok) (h:zCj en l=.ok x r):r.length<l.length :=
 zME en varW (by decide +kernel) _ (zAY (zTu en) fun _=>zAY (zC7 en _) fun _=>zAY (zBJ en) fun _=>zAY (zC7 en _) fun _=>zAY (zBJ en) fun _=>zAY (zC7 en _) fun _=>zCL _) l x r h
theorem zPP (en:Int) (nm:List ByteArray) (k:Int):Eats (zB9 en nm k):=by
 have hK:=zBJ en;have hV:=zEB en nm;have hKs:=zCY en _ hK;have hVs:=zCY en _ hV;have hL:=zGi en nm;unfold zB9;by_cases h1:k=1∨k=2∨k=3
 ·simp only[if_pos h1];exact zAY hKs fun _=>zAY hVs fun _=>zAY hK fun _=>zCL _
 simp only[if_neg h1];by_cases h4:k=4
 ·simp only[if_pos h4];exact zAY hVs fun _=>zCL _
 simp only[if_neg h4];by_cases h5:k=5
 ·simp only[if_pos h5];exact zAY hKs fun _=>zAY hV fun _=>zAY hV fun _=>zCL _
 simp only[if_neg h5];by_cases h6:k=6
 ·simp only[if_pos h6];exact zAY hVs fun _=>zAY (zCY en _ hKs) fun _=>zCL _
 simp only[if_neg h6];by_cases h7:k=7
 ·simp only[if_pos h7];exact zAY hV fun _=>zAY hV fun _=>zAY hV fun _=>zCL _
 simp only[if_neg h7];by_cases h8:k=8
 ·simp only[if_pos h8];exact zAY hV fun _=>zAY hVs fun _=>zCL _
 simp only[if_neg h8];by_cases h9:k=9
 ·simp only[if_pos h9];exact zAY (zCY en _ hL) fun _=>zCL _
 simp only[if_neg h9];by_cases h10:k=10
 ·simp only[if_pos h10];exact zAY hV fun _=>zAY hL fun _=>zCL _
 simp only[if_neg h10];exact zCL _
theorem zSy (en:Int) (nm:List ByteArray) (l:List Tok) (x:MCon) (r:List Tok) (h:conP en nm l=.ok x r):r.length<l.length :=
 zME en conW (by decide +kernel) _ (zAY (zG3 en zBy) fun k=>zAY (zPP en nm k) fun _=>zAY (zC7 en _) fun _=>zCL _) l x r h
def zBw (en:Int) (T:List Tok) (nm:List ByteArray) (p:RP):MCon×RP:=((conR en T nm (zAU en T conW p)).1,zAU en T zAk (conR en T nm (zAU en T conW p)).2)
theorem zMF (en:Int) (T:List Tok) (hT:zGF T) (nm:List ByteArray) (hn:∀n∈nm,∀s:ByteArray,n.data.toList=s.data.toList→zAb s=true):Same en T (RD (zDU nm)) (zBw en T nm) (conP en nm):=by
 have h1:∀c c':MCon,RD (zDU nm) c c'→Same en T (RD (zDU nm)) (fun p=>(c,zAU en T zAk p)) (fun l=>(zAP en zAk l).bind fun _ l=>.ok c' l):=fun c c' hc =>
  zDv zAk (by decide +kernel) (g:=fun p=>(c,p)) (Q:=fun l=>.ok c' l) (Same.pure hc)
 have h2:Same en T (RD (zDU nm)) (fun p=>((conR en T nm p).1,zAU en T zAk (conR en T nm p).2)) (fun l=>((zBO en zBy l).bind fun k l=>zB9 en nm k l).bind fun c l=>(zAP en zAk l).bind fun _ l=>.ok c l) :=
  (zSw en T hT nm hn).bindS (S:=RD (zDU nm)) (g:=fun c p=>(c,zAU en T zAk p)) (Q:=fun c l=>(zAP en zAk l).bind fun _ l=>.ok c l) (fun c p hp=>zBn en T zAk p hp) h1
 have h3:=zDv conW (by decide +kernel) h2
 refine⟨h3.still,fun p hp hk=>?_⟩
 have h4:=h3.same p hp hk;unfold conP;have e:∀l:List Tok,((zAP en conW l).bind fun _ l=>((zBO en zBy l).bind fun k l=>zB9 en nm k l).bind fun c l=>(zAP en zAk l).bind fun _ l=>.ok c l)=(zAP en conW l).bind fun _ l=>(zBO en zBy l).bind fun k l=>(zB9 en nm k l).bind fun c l=>(zAP en zAk l).bind fun _ l=>.ok c l:=by
  intro l;cases zAP en conW l with
  | bad x e=>rfl
  | ok t r =>
    show ((zBO en zBy r).bind fun k l=>zB9 en nm k l).bind _=(zBO en zBy r).bind _
    cases zBO en zBy r <;> rfl
 rw[←e];exact h4
theorem zRT (a b:ByteArray) (h:a.data.toList=b.data.toList):a=b:=by
 cases a with
 | mk x=>cases b with
   | mk y =>
     have:x=y:=Array.toList_inj.1 h;rw[this]
theorem zNN (en:Int) (l:List Tok) (x:MVar) (r:List Tok) (h:zCj en l=.ok x r):zAb x.name=true:=by
 unfold zCj at h;obtain⟨_,_,_,h⟩:=PR.bind_ok h;obtain⟨n,q,hn,h⟩:=PR.bind_ok h;obtain⟨_,_,_,h⟩:=PR.bind_ok h;obtain⟨_,_,_,h⟩:=PR.bind_ok h;obtain⟨_,_,_,h⟩:=PR.bind_ok h;obtain⟨_,_,_,h⟩:=PR.bind_ok h;obtain⟨_,_,_,h⟩:=PR.bind_ok h;cases h
 unfold zCQ at hn;obtain⟨t,q2,h1,h2⟩:=PR.bind_ok hn;unfold zBm at h1
 split at h1
 ·rename_i hb
  cases h1
  cases h2
  rw[zNJ] at hb;exact hb
 ·cases h1
theorem zMG (en:Int):∀(f:Nat) (acc:List MVar) (l:List Tok) (xs:List MVar) (r:List Tok),(∀v∈acc,zAb v.name=true)→zJI en [118,97,114] (zCj en) f acc l=.ok xs r→∀v∈xs,zAb v.name=true
 | 0,_,_,_,_,_,h=>by cases h
 | f+1,acc,l,xs,r,ha,h=>by
   unfold zJI at h
   split at h
   ·obtain⟨v,q,h1,h2⟩:=PR.bind_ok h
    refine zMG en f _ q xs r (fun u hu=>?_) h2
    rcases List.mem_append.1 hu with hu | hu
    ·exact ha u hu
    ·rw[List.mem_singleton.1 hu];exact zNN en l v q h1
   ·cases h;exact ha
def zDD (en:Int) (T:List Tok) (p:RP):Mod×RP :=
 let v:=rowR en T [118,97,114] (zCr en T) (T.length+2) [] p
 let c:=rowR en T [99,111,110] (zBw en T (v.1.map MVar.name)) (T.length+2) [] v.2
 let g:=zEW en T (v.1.map MVar.name) c.2
 (⟨v.1,c.1,g.1.1,g.1.2⟩,if g.2.k<T.length then zAT 1 g.2 else g.2)
def RM (m m':Mod):Prop:=m.vars=m'.vars∧m.cons.length=m'.cons.length∧(zDU (m'.vars.map MVar.name)→m=m')
theorem zPQ (en:Int) (T:List Tok) (hT:zGF T) (p:RP) (hp:p.er=0) (hk:p.k≤T.length):zDp en T RM (zDD en T p) (zIc en (T.drop p.k)):=by
 unfold zDD zIc;have hv:=zMD (D:=True) [118,97,114] (by decide +kernel) ((zNK en T hT).weak True) (fun l x r _ h=>zNM en l x r h) (T.drop p.k).length p [] [] (T.length+2) ((T.drop p.k).length+1) hp hk (Nat.le_refl _) (by rw[List.length_drop];omega) (Nat.le_refl _) ⟨fun _=>rfl,rfl⟩
 rw[←zKm] at hv;generalize hV:rowR en T [118,97,114] (zCr en T) (T.length+2) [] p=v at hv;obtain⟨vs,p1⟩:=v
 dsimp only
 cases hq:zIb en ((T.drop p.k).length+1) [] (T.drop p.k) with
 | bad pl e =>
   rw[hq] at hv;obtain⟨b1,b2,b3,b4⟩:=hv
   dsimp only at b1 b3 b4
   have hne:p1.er≠0:=by rw[b1];exact b2
   rw[zOF en T [99,111,110] (by decide +kernel) _ _ _ p1 hne]
   have hg:zEW en T (vs.map MVar.name) p1=((((zEW en T (vs.map MVar.name) p1).1)),p1):=by
    refine Prod.ext rfl ?_;show (zEW en T (vs.map MVar.name) p1).2=p1;unfold zEW zCc;rw[zBn en T zEN p1 hne,zDw en T p1 hne,if_neg (fun h=>hne h.1)]
    exact zBn en T zAk p1 hne
   have hp2:(if p1.k<T.length then zAT 1 p1 else p1)=p1:=by split;exact zBv 1 p1 hne;rfl
   show _∧_∧_∧_
   dsimp only
   rw[hg]
   dsimp only
   rw[hp2];exact⟨b1,b2,b3,b4⟩
 | ok xs l =>
   rw[hq] at hv;obtain⟨a1,a2,a3,a4,_⟩:=hv
   dsimp only at a1 a2 a3 a4
   obtain rfl:vs=xs:=a4 trivial;have hnm:∀n∈vs.map MVar.name,∀s:ByteArray,n.data.toList=s.data.toList→zAb s=true:=by
    intro n hn s hs;obtain⟨u,hu,rfl⟩:=List.mem_map.1 hn;rw[←zRT _ _ hs];rw[zKm] at hq;exact zMG en _ [] _ vs l (fun _ h=>by cases h) hq u hu
   show zDp en T RM _ ((zG4 en (vs.map MVar.name) (l.length+1) [] l).bind _);have hc:=zMD [99,111,110] (by decide +kernel) (zMF en T hT (vs.map MVar.name) hnm) (fun l x r _ h=>zSy en _ l x r h) l.length p1 [] [] (T.length+2) (l.length+1) a1 a3 (by rw[a2];exact Nat.le_refl _) (by rw[←a2,List.length_drop];omega) (Nat.le_refl _) ⟨fun _=>rfl,rfl⟩
   rw[←zOE,a2] at hc;generalize hC:rowR en T [99,111,110] (zBw en T (vs.map MVar.name)) (T.length+2) [] p1=c at hc;obtain⟨cs,p2⟩:=c
   dsimp only
   cases hq2:zG4 en (vs.map MVar.name) (l.length+1) [] l with
   | bad pl e =>
     rw[hq2] at hc;obtain⟨b1,b2,b3,b4⟩:=hc
     dsimp only at b1 b3 b4
     have hne:p2.er≠0:=by rw[b1];exact b2
     have hg:zEW en T (vs.map MVar.name) p2=((((zEW en T (vs.map MVar.name) p2).1)),p2):=by
      refine Prod.ext rfl ?_;show (zEW en T (vs.map MVar.name) p2).2=p2;unfold zEW zCc;rw[zBn en T zEN p2 hne,zDw en T p2 hne,if_neg (fun h=>hne h.1)]
      exact zBn en T zAk p2 hne
     have hp2:(if p2.k<T.length then zAT 1 p2 else p2)=p2:=by split;exact zBv 1 p2 hne;rfl
     show _∧_∧_∧_
     dsimp only
     rw[hg]
     dsimp only
     rw[hp2];exact⟨b1,b2,b3,b4⟩
   | ok ys l2 =>
     rw[hq2] at hc;obtain⟨c1,c2,c3,c4,c5⟩:=hc
     dsimp only at c1 c2 c3 c4 c5
     show zDp en T RM _ ((zKY en (vs.map MVar.name) l2).bind _);have hg:=(zRS en T hT (vs.map MVar.name) hnm).same p2 c1 c3;rw[c2] at hg;generalize hG:zEW en T (vs.map MVar.name) p2=g at hg;obtain⟨gv,p3⟩:=g
     dsimp only
     cases hq3:zKY en (vs.map MVar.name) l2 with
     | bad pl e =>
       rw[hq3] at hg;obtain⟨b1,b2,b3,b4⟩:=hg
       dsimp only at b1 b3 b4
       have hne:p3.er≠0:=by rw[b1];exact b2
       have hp2:(if p3.k<T.length then zAT 1 p3 else p3)=p3:=by split;exact zBv 1 p3 hne;rfl
       show _∧_∧_∧_
       dsimp only
       rw[hp2];exact⟨b1,b2,b3,b4⟩
     | ok gw l3 =>
       rw[hq3] at hg;obtain⟨d1,d2,d3,d4⟩:=hg
       dsimp only at d1 d2 d3 d4
       show zDp en T RM _ (if 0<l3.length then _ else _)
       by_cases hl:0<l3.length
       ·have hlt:p3.k<T.length:=by rw[←d2,List.length_drop] at hl;omega
        rw[if_pos hl,if_pos hlt];have e:zAT 1 p3=⟨p3.k,1⟩:=by unfold zAT;rw[if_pos d1]
        rw[e];exact⟨rfl,by omega,by rw[←d2],d3⟩
       ·have hlt:¬p3.k<T.length:=by rw[←d2,List.length_drop] at hl;omega
        rw[if_neg hl,if_neg hlt];exact⟨d1,d2,d3,rfl,c5,fun hA=>by rw[c4 hA,d4 hA]⟩
theorem zSz (vs:List MVar) (h:zKu vs=0):zDU (vs.map MVar.name):=by
 unfold zDU;rw[List.pairwise_map,List.pairwise_iff_getElem];intro i j hi hj hij he;have h1:=zDJ _ h (varE (vs.take j) vs[j]) (List.mem_map.2 ⟨j,List.mem_range.2 hj,by rw[List.getD_eq_getElem?_getD,List.getElem?_eq_getElem hj];rfl⟩)
 unfold varE at h1;have hany:(vs.take j).any (fun u=>u.name.toList==vs[j].name.toList)=true:=by
  refine List.any_eq_true.2 ⟨vs[i],?_,(zKi _ _).2 he⟩;exact List.mem_take_iff_getElem.2 ⟨i,by omega,rfl⟩
 rw[hany] at h1
 split at h1
 ·rw[if_pos rfl] at h1;cases h1
 ·cases h1
theorem zNO (m m':Mod) (h:RM m m'):zAF m=zAF m'∧(zAF m'=0→m=m'):=by
 obtain⟨h1,h2,h3⟩:=h;by_cases hv:zKu m'.vars=0
 ·have he:=h3 (zSz _ hv)
  exact⟨by rw[he],fun _=>he⟩
 ·have e:zAF m=zAF m':=by
   unfold zAF;rw[h1,h2,if_neg hv,if_neg hv]
  refine⟨e,fun h0=>absurd (zA9 m' h0).2.2.2.1 hv⟩
end Go.Proofs.YtdjbejlbmaiocagGreatDoor
