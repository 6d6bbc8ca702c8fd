/- What the proof leans on, part 29. -/
import Derived.Test.YtndcpnlaadikoaaGreatDoorPartBb
import Derived.Test.YtndcpnlaadikoaaGreatDoorPartAm
import Derived.Test.YtndcpnlaadikoaaGreatDoorPartAn
import Derived.Test.YtndcpnlaadikoaaGreatDoorPartAi
import Derived.KernelRfl
import Derived.Test.YtndcpnlaadikoaaGreatDoorPartAc
import Derived.Deep.QuietTactic
import Derived.BigQuiet
import Derived.Deep.RegionHeld3
namespace Go.Proofs.YtndcpnlaadikoaaGreatDoor
open Go.RowKit
set_option maxHeartbeats 3200000 in
set_option maxRecDepth 100000 in
theorem zFb (m:Mod) (l:List Cla) (d:Cla) (vs cs u v:Value) (w:World) (hma:MArg w vs cs m) (hu:zA8 w u l) (hv:LArg w v d) (hT:TabT w) :
 Calls Tryz.prog 35 #[modV vs cs m,u,v] w fun e w'=>∃rp x,e=.returned (.tuple #[rp,x,.bool (zAL m l d).2.1,.int .i64 (zAL m l d).2.2])∧LOwn w.heap.size w' x (zAL m l d).1∧(rp=.pointer none∨∃r,rp=.pointer (some ⟨r,0,none⟩)) ∧
  ((zAL m l d).2.1=true→∃r pv cv,rp=.pointer (some ⟨r,0,none⟩)∧RulesAt w' r vs pv cv m.vars (ptsM m) (l.map (zAF m.vars)))∧Below w.heap.size w w':=by
 have HMA:Hid (∀w':World,Below w.heap.size w w'→MArg w' vs cs m):=fun w' h=>MArg.below h hma
 have HU:Hid (∀w':World,Below w.heap.size w w'→zA8 w' u l):=fun w' h=>zA8.below h hu
 have HV:Hid (∀w':World,Below w.heap.size w w'→LArg w' v d):=fun w' h=>LArg.below h hv
 have HT:Hid (∀w',Below w.heap.size w w'→TabT w'):=fun w' h=>hT.below h
 obtain⟨⟨a1,c1,rfl,_,_⟩,⟨a2,c2,rfl,_,_⟩⟩:=hma
 obtain⟨a3,c3,rfl,hm3,_⟩:=hu
 obtain⟨a4,c4,rfl,_,_⟩:=hv
 unfold maxLen at hm3
 obtain⟨hm31,hm32⟩:=hm3
 obtain⟨R,hR⟩:∃R,zAL m l d=R:=⟨_,rfl⟩
 rw[hR]
 obtain⟨er,her⟩:∃er,zCP m l d=er:=⟨_,rfl⟩
 have HER:Hid (zCP m l d=er):=her
 obtain⟨OP,OE,hOP⟩:∃OP OE,zBR m d []=(OP,OE):=⟨_,_,rfl⟩
 have HOP:Hid (zBR m d []=(OP,OE)):=hOP
 have HE:Hid (R=if er=0 then (if OE=0 then ((zCr m.vars (l.map (zAF m.vars)) (ptsM m) OP).1,(zCr m.vars (l.map (zAF m.vars)) (ptsM m) OP).2,0) else ([],false,OE)) else ([],false,er)):=by
  show _=_
  rw[←hR];unfold zAL;rw[her,hOP]
 unfold modV
 clear hR her hOP hT
 go_enter Tryz.func35,Tryz.ntmps35
 go_wp2_with fail
 have HB0:Hid (Below w.heap.size w (w.alloc (.cells #[.slice a1 m.vars.length c1,.slice a2 m.cons.length c2,.int .i64 m.goal,.int .i64 m.var] 25))):=zAA _ _
 refine (zHz m l d _ _ _ _ _ (HMA.out _ HB0.out) (HU.out _ HB0.out) (HV.out _ HB0.out)).mono ?_
 rintro e w1 ⟨rfl,hb1⟩
 rw[HER.out]
 have HMB:Hid (w1.heap[w.heap.size]? = some (.cells #[.slice a1 m.vars.length c1,.slice a2 m.cons.length c2,.int .i64 m.goal,.int .i64 m.var] 25)):=(hb1.block w.heap.size (by simp)).trans (heap_alloc_new w _)
 have HB1:Hid (Below w.heap.size w w1):=HB0.out.trans (hb1.mono HB0.out.size)
 clear hb1
 by_cases he:er=0
 ·subst he
  obtain⟨hc0,hc1,hc2⟩:=zC1 m l d HER.out
  have HM:Hid (zAP m=0):=hc0
  have HD40:Hid (d.length≤40):=zG3 _ _ hc2
  have HL6:Hid (l.length≤600):=zHy _ _ hc1
  have k0:w1.cell? ⟨w.heap.size,0,none⟩=some (.slice a1 m.vars.length c1):=blk9 HMB.out 0 _ rfl
  have k1:w1.cell? ⟨w.heap.size,1,none⟩=some (.slice a2 m.cons.length c2):=blk9 HMB.out 1 _ rfl
  have k2:w1.cell? ⟨w.heap.size,2,none⟩=some (.int .i64 m.goal):=blk9 HMB.out 2 _ rfl
  have k3:w1.cell? ⟨w.heap.size,3,none⟩=some (.int .i64 m.var):=blk9 HMB.out 3 _ rfl
  clear hc0 hc1 hc2
  go_wp2_with fail
  refine (zMr m d HD40.out _ _ _ _ (HMA.out _ HB1.out) (HV.out _ HB1.out)).mono ?_
  rintro e w2 ⟨x,rfl,hx,hb2⟩
  rw[HOP.out] at hx ⊢
  dsimp only at hx ⊢
  have HX:Hid (LOwn w.heap.size w2 x OP):=zAw HB1.out.size hx
  have HB2:Hid (Below w.heap.size w w2):=HB1.out.trans (hb2.mono HB1.out.size)
  have HMB2:Hid (w2.heap[w.heap.size]? = some (.cells #[.slice a1 m.vars.length c1,.slice a2 m.cons.length c2,.int .i64 m.goal,.int .i64 m.var] 25)):=(hb2.block _ (Array.getElem?_eq_some_iff.1 HMB.out).1).trans HMB.out
  obtain⟨ax,cx,rfl⟩:=zAE (show w2.ownsRow _ _ _ _ _ _ from hx)
  clear hx hb2 k0 k1 k2 k3
  by_cases ho:OE=0
  ·subst ho
   have HE2:Hid (R=((zCr m.vars (l.map (zAF m.vars)) (ptsM m) OP).1,(zCr m.vars (l.map (zAF m.vars)) (ptsM m) OP).2,0)):=HE.out
   have HOL:Hid (OP.length≤900):=by
    have h1:=zE1 m d []
    rw[HOP.out] at h1
    have h2:=HD40.out
    simp at h1
    show _≤_
    omega
   have k0:w2.cell? ⟨w.heap.size,0,none⟩=some (.slice a1 m.vars.length c1):=blk9 HMB2.out 0 _ rfl
   have k1:w2.cell? ⟨w.heap.size,1,none⟩=some (.slice a2 m.cons.length c2):=blk9 HMB2.out 1 _ rfl
   have k2:w2.cell? ⟨w.heap.size,2,none⟩=some (.int .i64 m.goal):=blk9 HMB2.out 2 _ rfl
   have k3:w2.cell? ⟨w.heap.size,3,none⟩=some (.int .i64 m.var):=blk9 HMB2.out 3 _ rfl
   go_wp2_with fail
   refine (zMp m HM.out _ _ _ (HMA.out _ HB2.out) (HT.out _ HB2.out)).mono ?_
   rintro e w3 ⟨r,pv,rfl,hru,hrd,hrl,hb3⟩
   have HRU:Hid (Rul w3 r (.slice a1 m.vars.length c1) pv m.vars (ptsM m)):=hru
   have HRD:Hid (RulD w3 w3 r (.slice a1 m.vars.length c1) pv (.slice none 0 0) []):=hrd
   have HRL:Hid (w2.heap.size≤r):=hrl
   have HB3:Hid (Below w2.heap.size w2 w3):=hb3
   clear hru hrd hrl hb3 k0 k1 k2 k3
   go_wp2_with fail
   go_loopw [38] (fun i wr=>∃k:Nat,k≤l.length∧i=.int .i64 k∧Hid (∃cv,RulD w3 wr r (.slice a1 m.vars.length c1) pv cv ((l.take k).map (zAF m.vars))∧Below w2.heap.size w2 wr)) (fun i _=>l.length - (intOf i).toNat)
   case atStart=>exact⟨0,by omega,rfl,_,HRD.out,HB3.out⟩
   case round =>
    obtain⟨k,hk,rfl,hrest⟩:=hrel
    obtain⟨cv,hrd,hbw⟩:=hrest.out
    have HRDW:Hid (RulD w3 wr r (.slice a1 m.vars.length c1) pv cv ((l.take k).map (zAF m.vars))):=hrd
    have HBW:Hid (Below w2.heap.size w2 wr):=hbw
    have HBN:Hid (Below w.heap.size w wr):=HB2.out.trans (hbw.mono HB2.out.size)
    clear hrd hbw hrest
    by_cases hlt:k<l.length
    ·obtain⟨t,ht⟩:∃t,l[k]? = some t:=⟨l[k],by simp[hlt]⟩
     obtain⟨q4,n4,he4,_,hr4⟩:=HU.out _ HBN.out
     injection he4 with he4 he5 he6
     clear he5 he6
     obtain⟨b4,o4,y,ha4,hb4,t0,hy⟩:=hr4 k t ht
     rw[ha4] at he4
     subst he4
     have HY:Hid (LArg wr y t):=hy
     obtain⟨ay,cy,rfl,_,_⟩:=hy
     have HNX:Hid ((l.take k).map (zAF m.vars)++[zAF m.vars t]=(l.take (k+1)).map (zAF m.vars)):=by show _=_;rw[List.take_add_one,ht,List.map_append];rfl
     clear hr4 ht ha4
     go_wp2_with fail
     refine (zNe m.vars (zCx m HM.out) (ptsM m) _ (by rw[List.length_map,List.length_take];have:=HL6.out;omega) t w3 r _ pv cv _ _ HRU.out HRDW.out HY.out).mono ?_
     rintro e w5 ⟨rfl,cv',hrd5,hf5⟩
     have HRD5:Hid (RulD w3 w5 r (.slice a1 m.vars.length c1) pv cv' ((l.take (k+1)).map (zAF m.vars))):=by rw[←HNX.out];exact hrd5
     have HB5:Hid (Below w2.heap.size w2 w5):=by
      refine⟨hf5.os.trans HBW.out.os,hf5.tape.trans HBW.out.tape,hf5.output.trans HBW.out.output,Nat.le_trans HBW.out.size hf5.size,fun i hi=>(hf5.block i (Nat.lt_of_lt_of_le hi HBW.out.size) (fun hX=>?_)).trans (HBW.out.block i hi)⟩
      rcases hX with hX | hX
      ·have:=HRL.out;omega
      ·have h1:=(HRDW.out.own.lt i hX).1;have h2:=HB3.out.size;omega
     clear hrd5 hf5 t0
     go_wp2
     go_roundw
     case rel=>exact⟨k+1,by omega,by go_num,cv',HRD5.out,HB5.out⟩
     case measure=>simp[intOf];omega
    ·have HRDF:Hid (RulD w3 wr r (.slice a1 m.vars.length c1) pv cv (l.map (zAF m.vars))):=by have h1:=HRDW.out;rw[List.take_of_length_le (by omega)] at h1;exact h1
     have HXW:Hid (LArg wr (.slice ax OP.length cx) OP):=LArg.below HBW.out HX.out.arg
     go_wp2_with fail
     refine (zKR m.vars (zCx m HM.out) (zGr m HM.out) (l.map (zAF m.vars)) (ptsM m) OP HOL.out r _ pv cv _ _ (HRDF.out.at HRU.out) HXW.out).mono ?_
     rintro e w6 ⟨y,rfl,hy,hb6⟩
     have HY:Hid (LOwn w.heap.size w6 y (zCr m.vars (l.map (zAF m.vars)) (ptsM m) OP).1):=zAw HBN.out.size hy
     have HB6:Hid (Below w.heap.size w w6):=HBN.out.trans (hb6.mono HBN.out.size)
     have HRA:Hid (RulesAt w6 r (.slice a1 m.vars.length c1) pv cv m.vars (ptsM m) (l.map (zAF m.vars))):=RulesAt.below hb6 (HRDF.out.at HRU.out)
     obtain⟨ay,cy,rfl⟩:=zAE (show w6.ownsRow _ _ _ _ _ _ from hy)
     obtain⟨LA,LB,hLA⟩:∃LA LB,zCr m.vars (l.map (zAF m.vars)) (ptsM m) OP=(LA,LB):=⟨_,_,rfl⟩
     rw[hLA] at HY HE2 ⊢
     clear hy hb6 hLA
     dsimp only at HY HE2 ⊢
     go_wp2
     refine bodyPost_ret (by simp[results,Tryz.results35,go_sem, *];try rfl) rfl ?_
     exact⟨_,_,by rw[HE2.out],by rw[HE2.out];exact HY.out,Or.inr ⟨r,rfl⟩,fun _=>⟨r,pv,cv,rfl,HRA.out⟩,HB6.out⟩
  ·have HE2:Hid (R=([],false,OE)):=by have h1:=HE.out;simp only[if_true,if_neg ho] at h1;exact h1
   have ho2:(OE != 0)=true:=by simpa using ho
   clear ho
   go_wp2
   refine bodyPost_ret (by simp[results,Tryz.results35,go_sem, *];try rfl) rfl ?_
   exact⟨_,_,by rw[HE2.out],by rw[HE2.out];exact World.ownsRow_nil _ _ _ _,Or.inl rfl,(fun hq=>by rw[HE2.out] at hq;cases hq),HB2.out⟩
 ·have HE2:Hid (R=([],false,er)):=by have h1:=HE.out;rw[if_neg he] at h1;exact h1
  have he2:(er != 0)=true:=by simpa using he
  clear he
  go_wp2
  refine bodyPost_ret (by simp[results,Tryz.results35,go_sem, *];try rfl) rfl ?_
  exact⟨_,_,by rw[HE2.out],by rw[HE2.out];exact World.ownsRow_nil _ _ _ _,Or.inl rfl,(fun hq=>by rw[HE2.out] at hq;cases hq),HB1.out⟩
def zBS (m:Mod) (l:List Cla) (d:Cla):List MStep×Bool×Int :=
 if (zAL m l d).2.1 then (zB7 m.vars (l.map (zAF m.vars)) (ptsM m) (zAL m l d).1,true,0) else ([],false,(zAL m l d).2.2)
set_option maxHeartbeats 800000 in
set_option maxRecDepth 100000 in
theorem zFc (m:Mod) (l:List Cla) (d:Cla) (vs cs u v:Value) (w:World) (hma:MArg w vs cs m) (hu:zA8 w u l) (hv:LArg w v d) (hT:TabT w) :
 Calls Tryz.prog 6 #[modV vs cs m,u,v] w fun e w'=>∃x,e=.returned (.tuple #[x,.bool (zAL m l d).2.1,.int .i64 (zAL m l d).2.2])∧LOwn w.heap.size w' x (zAL m l d).1∧Below w.heap.size w w':=by
 have HMA:Hid (∀w':World,Below w.heap.size w w'→MArg w' vs cs m):=fun w' h=>MArg.below h hma
 have HU:Hid (∀w':World,Below w.heap.size w w'→zA8 w' u l):=fun w' h=>zA8.below h hu
 have HV:Hid (∀w':World,Below w.heap.size w w'→LArg w' v d):=fun w' h=>LArg.below h hv
 have HT:Hid (∀w',Below w.heap.size w w'→TabT w'):=fun w' h=>hT.below h
 obtain⟨⟨a1,c1,rfl,_,_⟩,⟨a2,c2,rfl,_,_⟩⟩:=hma
 obtain⟨a3,c3,rfl,_,_⟩:=hu
 obtain⟨a4,c4,rfl,_,_⟩:=hv
 obtain⟨R,hR⟩:∃R,zAL m l d=R:=⟨_,rfl⟩
 have HR:Hid (zAL m l d=R):=hR
 rw[hR]
 unfold modV
 clear hR hT
 have HB0:Hid (Below w.heap.size w (w.alloc (.cells #[.slice a1 m.vars.length c1,.slice a2 m.cons.length c2,.int .i64 m.goal,.int .i64 m.var] 25))):=zAA _ _
 go_enter Tryz.func6,Tryz.ntmps6
 go_wp2_with fail
 refine (zFb m l d _ _ _ _ _ (HMA.out _ HB0.out) (HU.out _ HB0.out) (HV.out _ HB0.out) (HT.out _ HB0.out)).mono ?_
 rintro e w1 ⟨rp,x,rfl,hx,_,_,hb1⟩
 rw[HR.out] at hx ⊢
 obtain⟨R1,R2,R3⟩:=R
 dsimp only at hx ⊢
 have HX:Hid (LOwn w.heap.size w1 x R1):=zAw HB0.out.size hx
 have HB1:Hid (Below w.heap.size w w1):=HB0.out.trans (hb1.mono HB0.out.size)
 obtain⟨ax,cx,rfl⟩:=zAE (show w1.ownsRow _ _ _ _ _ _ from hx)
 clear hx hb1
 go_wp2
 go_ret3
 exact⟨_,rfl,HX.out,HB1.out⟩
set_option maxHeartbeats 1600000 in
set_option maxRecDepth 100000 in
theorem zGP (m:Mod) (l:List Cla) (d:Cla) (vs cs u v:Value) (w:World) (hma:MArg w vs cs m) (hu:zA8 w u l) (hv:LArg w v d) (hT:TabT w) :
 Calls Tryz.prog 7 #[modV vs cs m,u,v] w fun e w'=>∃x L,e=.returned (.tuple #[x,.bool (zBS m l d).2.1,.int .i64 (zBS m l d).2.2])∧L.map (·.1)=(zBS m l d).1∧zCC w.heap.size w' x L∧L.length≤1500∧Below w.heap.size w w':=by
 have HMA:Hid (∀w':World,Below w.heap.size w w'→MArg w' vs cs m):=fun w' h=>MArg.below h hma
 have HU:Hid (∀w':World,Below w.heap.size w w'→zA8 w' u l):=fun w' h=>zA8.below h hu
 have HV:Hid (∀w':World,Below w.heap.size w w'→LArg w' v d):=fun w' h=>LArg.below h hv
 have HT:Hid (∀w',Below w.heap.size w w'→TabT w'):=fun w' h=>hT.below h
 obtain⟨⟨a1,c1,rfl,_,_⟩,⟨a2,c2,rfl,_,_⟩⟩:=hma
 obtain⟨a3,c3,rfl,_,_⟩:=hu
 obtain⟨a4,c4,rfl,_,_⟩:=hv
 obtain⟨R,hR⟩:∃R,zAL m l d=R:=⟨_,rfl⟩
 have HR:Hid (zAL m l d=R):=hR
 obtain⟨Q,hQ⟩:∃Q,zBS m l d=Q:=⟨_,rfl⟩
 have HQ:Hid (Q=if R.2.1 then (zB7 m.vars (l.map (zAF m.vars)) (ptsM m) R.1,true,0) else ([],false,R.2.2)):=by show _=_;rw[←hQ,←hR];rfl
 rw[hQ]
 have HM:Hid (R.2.1=true→zCP m l d=0∧(zBR m d []).1.length≤40∧R.1.length≤(zBR m d []).1.length):=by
  rw[←hR]
  intro h
  unfold zAL at h ⊢
  by_cases h1:zCP m l d=0
  ·rw[if_pos h1] at h ⊢
   have h3:=zG3 _ _ (zC1 m l d h1).2.2
   have h4:=zE1 m d []
   simp only[List.length_nil,Nat.zero_add] at h4
   by_cases h2:(zBR m d []).2=0
   ·rw[if_pos h2] at h ⊢
    refine⟨h1,by omega,?_⟩
    dsimp only at h ⊢
    unfold zCr at h ⊢
    split
    ·exact zED _ _ _
    ·simp
   ·rw[if_neg h2] at h;cases h
  ·rw[if_neg h1] at h;cases h
 unfold modV
 clear hR hT hQ
 have HB0:Hid (Below w.heap.size w (w.alloc (.cells #[.slice a1 m.vars.length c1,.slice a2 m.cons.length c2,.int .i64 m.goal,.int .i64 m.var] 25))):=zAA _ _
 go_enter Tryz.func7,Tryz.ntmps7
 go_wp2_with fail
 refine (zFb m l d _ _ _ _ _ (HMA.out _ HB0.out) (HU.out _ HB0.out) (HV.out _ HB0.out) (HT.out _ HB0.out)).mono ?_
 rintro e w1 ⟨rp,x,rfl,hx,hrp,hru,hb1⟩
 rw[HR.out] at hx hru ⊢
 obtain⟨R1,R2,R3⟩:=R
 dsimp only at hx hru HQ HM ⊢
 have HX:Hid (LArg w1 x R1):=hx.arg
 have HB1:Hid (Below w.heap.size w w1):=HB0.out.trans (hb1.mono HB0.out.size)
 obtain⟨ax,cx,rfl⟩:=zAE (show w1.ownsRow _ _ _ _ _ _ from hx)
 clear hx hb1
 cases R2
 ·have HQ2:Hid (Q=([],false,R3)):=HQ.out
  clear hru
  go_wp2
  go_ret3
  exact⟨_,[],by rw[HQ2.out];rfl,by rw[HQ2.out];rfl,⟨World.ownsRow_nil _ _ _ _,fun x hx=>by cases hx⟩,by simp,HB1.out⟩
 ·obtain⟨r,pv,cv,rfl,hra⟩:=hru rfl
  obtain⟨h1,h2,h3⟩:=HM.out rfl
  obtain⟨hc0,hc1,hc2⟩:=zC1 m l d h1
  have HMC:Hid (zAP m=0):=hc0
  have HL6:Hid (l.length≤600):=zHy _ _ hc1
  have HRL:Hid (R1.length≤900):=by show _≤_;omega
  have HRA:Hid (RulesAt w1 r (.slice a1 m.vars.length c1) pv cv m.vars (ptsM m) (l.map (zAF m.vars))):=hra
  have HQ2:Hid (Q=(zB7 m.vars (l.map (zAF m.vars)) (ptsM m) R1,true,0)):=HQ.out
  clear hra h1 h2 h3 hc0 hc1 hc2 hru hrp
  go_wp2_with fail
  refine (zKS m.vars (zCx m HMC.out) (zGr m HMC.out) (ptsM m) (l.map (zAF m.vars)) (by rw[List.length_map];have:=HL6.out;omega) R1 HRL.out r _ pv cv _ _ HRA.out HX.out).mono ?_
  rintro e w2 ⟨y,L,rfl,hmp,hso,hl15,hb2⟩
  have HMP:Hid (L.map (·.1)=zB7 m.vars (l.map (zAF m.vars)) (ptsM m) R1):=hmp
  have HSO:Hid (zCC w.heap.size w2 y L):=hso.mono HB1.out.size
  have HL15:Hid (L.length≤1500):=hl15
  have HB2:Hid (Below w.heap.size w w2):=HB1.out.trans (hb2.mono HB1.out.size)
  obtain⟨ay,cy,rfl⟩:=zAE hso.1
  clear hmp hso hl15 hb2
  go_wp2
  go_ret3
  exact⟨_,L,by rw[HQ2.out];rfl,by rw[HQ2.out];exact HMP.out,HSO.out,HL15.out,HB2.out⟩
def twoC:MCon:=⟨1,[0,1],[1,-1],-1,[],[]⟩
theorem zNk:zDi [0,1]=[0,1]:=by
 unfold zDi
 exact List.mergeSort_of_pairwise (by decide)
theorem zKV:zAO twoC=[0,1]:=by
 have h1:zBH twoC=[0,1]:=by rfl
 unfold zAO
 rw[h1,zNk]
 decide
def twoP:List Nat:=[129,257,258]
theorem zKW:zAR twoM.vars twoC=twoP:=by
 unfold zAR
 rw[zKV]
 decide +kernel
def dTwo:Cla:=[⟨1,1,0⟩]
theorem zJf:ptsM twoM=[twoP]:=by
 show [zAR twoM.vars twoC]=_
 rw[zKW]
theorem zN5:zCP twoM [] dTwo=0:=by unfold zCP;rw[if_pos zES];decide
theorem zN6:zCP twoM [] []=0:=by unfold zCP;rw[if_pos zES];decide
theorem zNl:zCQ twoM ⟨1,1,0⟩=(⟨1,2,1⟩,0):=by
 have h:zCe twoM ⟨1,1,0⟩=0:=by unfold zCe;rw[if_pos zES];decide
 unfold zCQ;rw[if_pos h,if_pos (show litE twoM.vars (oppL ⟨1,1,0⟩)=0 by decide)];rfl
theorem zMs:zBR twoM dTwo []=([⟨1,2,1⟩],0):=by
 show (if (zCQ twoM ⟨1,1,0⟩).2=0 then _ else _)=_
 rw[zNl];rfl
theorem zNF:zAL twoM [] dTwo=([⟨1,2,1⟩],true,0):=by
 unfold zAL
 rw[if_pos zN5,zMs,zJf]
 kernel_rfl
theorem zN7:zAL twoM [] []=([],false,0):=by
 unfold zAL
 rw[if_pos zN6,zJf]
 kernel_rfl
theorem zN9:∃S,zBS twoM [] dTwo=(S++[⟨2,0,[⟨1,2,1⟩]⟩],true,0):=by
 unfold zBS
 rw[zNF]
 exact⟨_,rfl⟩
theorem zH0 {α:Type} (a b:List α) (m:Nat) (x:α) (h:a.take m=b.take m) (ha:a[m]? = some x) (hb:b[m]? = some x):a.take (m+1)=b.take (m+1):=by
 rw[List.take_add_one,List.take_add_one,h,ha,hb]
theorem zJg {α:Type} (a b:List α) (m:Nat) (h:a.take m=b.take m) (ha:¬m<a.length) (hl:a.length=b.length):a=b:=by
 rwa [List.take_of_length_le (by omega),List.take_of_length_le (by omega)] at h
theorem zJh {α:Type} (a b:List α) (m:Nat) (x y:α) (ha:a[m]? = some x) (hb:b[m]? = some y) (h:x≠y):a≠b:=by
 intro e;subst e;rw[ha] at hb;cases hb;exact h rfl
set_option maxHeartbeats 800000 in
set_option maxRecDepth 100000 in
theorem zEo (l k:List Int) (v u:Value) (w:World) (hv:IArg w v l) (hu:IArg w u k) :
 Calls Tryz.prog 32 #[v,u] w fun e w'=>e=.returned (.bool (decide (l=k)))∧∃n,w'=w.drewN n:=by
 obtain⟨a,c,rfl,hm,hr⟩:=hv
 obtain⟨a',c',rfl,hm',hr'⟩:=hu
 have HV:Hid (∀(i:Nat) (z:Int),l[i]? = some z→∃b off,a=some ⟨b,off,none⟩∧b<w.heap.size∧w.cell? ⟨b,off+i,none⟩=some (.int .i64 z)):=hr
 have HV':Hid (∀(i:Nat) (z:Int),k[i]? = some z→∃b off,a'=some ⟨b,off,none⟩∧b<w.heap.size∧w.cell? ⟨b,off+i,none⟩=some (.int .i64 z)):=hr'
 obtain⟨R,hR⟩:∃R,decide (l=k)=R:=⟨_,rfl⟩
 rw[hR]
 have HR:Hid (decide (l=k)=R):=hR
 unfold maxLen at hm hm'
 obtain⟨hm1,hm⟩:=hm
 obtain⟨hm1',hm'⟩:=hm'
 clear hr hr' hR
 by_cases hl:l.length=k.length
 ·have HL:Hid (l.length=k.length):=hl
  have g0:((l.length:Int) != (k.length:Int))=false:=by simp[hl]
  clear hl
  go_enter Tryz.func32,Tryz.ntmps32
  go_wp2_with fail
  go_loopw [5] (fun i wr=>∃m:Nat,m≤l.length∧i=.int .i64 m∧Hid (l.take m=k.take m)∧∃n,wr=w.drewN n) (fun i _=>l.length - (intOf i).toNat)
  case atStart=>exact⟨0,by omega,rfl,rfl,0,rfl⟩
  case round =>
   obtain⟨m,hml,rfl,hall,nq,rfl⟩:=hrel
   by_cases hlt:m<l.length
   ·have hlt':m<k.length:=by rw[←HL.out];exact hlt
    obtain⟨x,hx⟩:∃x,l[m]? = some x:=⟨l[m],by simp[hlt]⟩
    obtain⟨y,hy⟩:∃y,k[m]? = some y:=⟨k[m],by simp[hlt']⟩
    obtain⟨b,off,ha,hb,hc⟩:=HV.out m x hx
    obtain⟨b',off',ha',hb',hd⟩:=HV'.out m y hy
    have HX:Hid (l[m]? = some x):=hx
    have HY:Hid (k[m]? = some y):=hy
    subst ha;subst ha'
    clear hx hy
    by_cases hq:x=y
    ·subst hq
     have HN:Hid (l.take (m+1)=k.take (m+1)):=zH0 l k m x hall.out HX.out HY.out
     go_wp2
     go_quiet (fail)
     go_wp2
     go_roundw
     case rel=>exact⟨m+1,by omega,by go_num,HN,_,rfl⟩
     case measure=>simp[intOf];omega
    ·have HN:Hid (R=false):=by rw[←HR.out];exact decide_eq_false (zJh l k m x y HX.out HY.out hq)
     have hq2:(x != y)=true:=by simpa using hq
     clear hq
     go_wp2
     go_quiet (fail)
     go_wp2
     go_ret
     exact⟨zAB HN.out.symm,_,zCu _ _ _⟩
   ·have HN:Hid (R=true):=by rw[←HR.out];exact decide_eq_true (zJg l k m hall.out hlt HL.out)
    go_wp2
    go_ret
    exact⟨zAB HN.out.symm,_,rfl⟩
 ·have HN:Hid (R=false):=by rw[←HR.out];exact decide_eq_false (fun h=>hl (by rw[h]))
  have g0:((l.length:Int) != (k.length:Int))=true:=by simp;omega
  clear hl
  go_enter Tryz.func32,Tryz.ntmps32
  go_wp2
  go_ret
  exact⟨zAB HN.out.symm,0,rfl⟩
theorem LArg.nth {w:World} {a:Option Addr} {n c:Nat} {l:List MLit} (h:LArg w (.slice a n c) l) (i:Nat) (t:MLit) (hr:l[i]? = some t):∃b off,a=some ⟨b,off,none⟩∧b<w.heap.size ∧
 w.cell? ⟨b,off+i * 3,none⟩=some (.int .i64 t.var)∧w.cell? ⟨b,off+i * 3+1,none⟩=some (.int .i64 t.op)∧w.cell? ⟨b,off+i * 3+2,none⟩=some (.int .i64 t.n):=by
 obtain⟨a',c',hv,_,hh⟩:=h
 cases hv
 exact hh i t hr
set_option maxHeartbeats 1600000 in
set_option maxRecDepth 100000 in
theorem zC2 (s:List MLit) (v u:Value) (w:World) (hv:LArg w v s) (hu:LArg w u s) :
 Calls Tryz.prog 10 #[v,u] w fun e w'=>e=.returned (.bool true)∧∃n,w'=w.drewN n:=by
 have HA:Hid (LArg w v s):=hv
 have HA':Hid (LArg w u s):=hu
 obtain⟨a,c,rfl,hm,_⟩:=hv
 obtain⟨a',c',rfl,hm',_⟩:=hu
 unfold maxLen at hm hm'
 obtain⟨hm1,hm⟩:=hm
 obtain⟨hm1',hm'⟩:=hm'
 have g0:((s.length:Int) != (s.length:Int))=false:=by simp
 go_enter Tryz.func10,Tryz.ntmps10
 go_wp2_with fail
 go_loopw [5] (fun i wr=>∃m:Nat,m≤s.length∧i=.int .i64 m∧∃n,wr=w.drewN n) (fun i _=>s.length - (intOf i).toNat)
 case atStart=>exact⟨0,by omega,rfl,0,rfl⟩
 case round =>
  obtain⟨m,hml,rfl,nq,rfl⟩:=hrel
  by_cases hlt:m<s.length
  ·obtain⟨x,hx⟩:∃x,s[m]? = some x:=⟨s[m],by simp[hlt]⟩
   obtain⟨b,off,rfl,hb,h0,h1,h2⟩:=LArg.nth HA.out m x hx
   obtain⟨b',off',rfl,hb',h0',h1',h2'⟩:=LArg.nth HA'.out m x hx
   clear hx
   go_wp2
   go_quiet (fail)
   go_wp2
   go_roundw
   case rel=>exact⟨m+1,by omega,by go_num,_,rfl⟩
   case measure=>simp[intOf];omega
  ·go_wp2
   go_ret
   exact⟨rfl,_,rfl⟩
end Go.Proofs.YtndcpnlaadikoaaGreatDoor
