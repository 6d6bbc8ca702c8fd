/- What the proof leans on, part 37. -/
import Derived.Test.YtndcpnlaadikoaaGreatDoorPartBj
import Derived.Test.YtndcpnlaadikoaaGreatDoorPartBg
import Derived.Test.YtndcpnlaadikoaaGreatDoorPartAl
set_option maxRecDepth 100000
set_option maxHeartbeats 3200000
namespace Go.Proofs.YtndcpnlaadikoaaGreatDoor
open Go.RowKit
def zJt (l:List MStep):Bool:=match l.getLast? with
 | none=>false
 | some s=>decide (s.cla.length=0)
def zBc (m:Mod) (given:List Cla) (l:List MStep):Bool×Int :=
 if zCU m given l=0 then (if zJt l then (zBf m (given.map (zAH m.vars)) l,0) else (false,0)) else (false,zCU m given l)
theorem zMC (m:Mod):∀(l:List MStep) (ahead:List Nat) (k:Nat) (s:MStep),l[k]? = some s →
 zBf m ahead (l.drop k)=(zDK m ahead s&&zBf m (ahead++[zAH m.vars s.cla]) (l.drop (k+1))):=by
 intro l ahead k s h;have hk:k<l.length:=(List.getElem?_eq_some_iff.1 h).1;have hs:l[k]=s:=by rw[List.getElem?_eq_getElem hk] at h;exact Option.some.inj h
 rw[List.drop_eq_getElem_cons hk,hs];rfl
theorem zGV (m:Mod) (given:List Cla) (l:List MStep) (vs cs ul u:Value) (w:World) (hma:MArg w vs cs m) (hul:zDV w ul given) (hu:zIP w u l) (hT:TabT w) :
 Calls Tryz.prog 30 #[modV vs cs m,ul,u] w fun e w'=>e=.returned (.tuple #[.bool (zBc m given l).1,.int .i64 (zBc m given l).2])∧Below w.heap.size w w':=by
 have HMA:Hid (∀w',Below w.heap.size w w'→MArg w' vs cs m):=fun w' h=>MArg.below h hma
 have HL:Hid (∀w',Below w.heap.size w w'→zDV w' ul given):=fun w' h=>zDV.below h hul
 have HSA:Hid (∀w',Below w.heap.size w w'→zIP w' u l):=fun w' h=>zIP.below h hu
 have HT:Hid (∀w',Below w.heap.size w w'→TabT w'):=fun w' h=>hT.below h
 obtain⟨R,hR⟩:∃R,zBc m given l=R:=⟨_,rfl⟩;have HR:Hid (zBc m given l=R):=hR;rw[hR];obtain⟨⟨a1,c1,rfl,_,_⟩,⟨a2,c2,rfl,_,_⟩⟩:=hma;obtain⟨a3,c3,rfl,hm3,hr3⟩:=hu;have HST:Hid (∀(i:Nat) (t:MStep),l[i]? = some t→∃b off x,a3=some ⟨b,off,none⟩∧b<w.heap.size ∧
  w.cell? ⟨b,off+i * 3,none⟩=some (.int .i64 t.kind)∧w.cell? ⟨b,off+i * 3+1,none⟩=some (.int .i64 t.con)∧w.cell? ⟨b,off+i * 3+2,none⟩=some x∧LArg w x t.cla):=hr3
 unfold maxLen at hm3;obtain⟨hm31,hm3⟩:=hm3;obtain⟨a4,c4,rfl,_,_⟩:=hul;unfold modV;clear hR hr3 hT;go_enter Tryz.func30,Tryz.ntmps30
 go_wp2_with fail
 refine (zMB m given l _ _ _ _ _ (HMA.out _ (zAA _ _)) (HL.out _ (zAA _ _)) (HSA.out _ (zAA _ _))).mono ?_;rintro e w1 ⟨rfl,hb1⟩;have HB1:Hid (Below w.heap.size w w1):=(zAA _ _).trans (hb1.mono (by simp))
 have l1:w.heap.size<w1.heap.size:=by have:=hb1.size;simp at this;omega
 have k0:w1.cell? ⟨w.heap.size,0,none⟩=some (.slice a1 m.vars.length c1):=(hb1.cell (by simp)).trans (World.cell?_alloc_at _ _ _ 0 (by simp))
 have k1:w1.cell? ⟨w.heap.size,1,none⟩=some (.slice a2 m.cons.length c2):=(hb1.cell (by simp)).trans (World.cell?_alloc_at _ _ _ 1 (by simp))
 have k2:w1.cell? ⟨w.heap.size,2,none⟩=some (.int .i64 m.goal):=(hb1.cell (by simp)).trans (World.cell?_alloc_at _ _ _ 2 (by simp))
 have k3:w1.cell? ⟨w.heap.size,3,none⟩=some (.int .i64 m.var):=(hb1.cell (by simp)).trans (World.cell?_alloc_at _ _ _ 3 (by simp))
 clear hb1;obtain⟨er,her⟩:∃er,zCU m given l=er:=⟨_,rfl⟩;have HER:Hid (zCU m given l=er):=her;rw[her];clear her;by_cases he:er=0
 ·subst he
  obtain⟨ok1,ok2,ok3,ok4,ok5⟩:=zP7 m given l HER.out;have HM:Hid (zAG m=0):=ok1;have HG6:Hid (given.length≤600):=(zMt m.vars given ok3).1;have HK5:Hid (∀s∈l,s.kind=1→0≤s.con∧s.con<(m.cons.length:Int)):=ok5;have HR2:Hid (R=if zJt l then (zBf m (given.map (zAH m.vars)) l,0) else (false,0)):=by
   show _=_;rw[←HR.out];unfold zBc;rw[if_pos HER.out]
  clear HR ok1 ok3 ok4 ok5;by_cases hl0:l.length=0
  ·have hnil:l=[]:=List.eq_nil_of_length_eq_zero hl0
   have HRF:Hid (R=(false,0)):=by show _=_;rw[HR2.out,hnil];rfl
   have g0:((l.length:Int)==0)=true:=by simp[hl0]
   clear hnil HR2;go_wp2
   go_ret2
   exact⟨by rw[HRF.out];rfl,HB1.out⟩
  ·have g0:((l.length:Int)==0)=false:=by simpa using hl0
   obtain⟨n,hn⟩:∃n,l.length=n+1:=⟨l.length - 1,by omega⟩
   obtain⟨t,ht⟩:∃t,l[n]? = some t:=⟨l[n]'(by omega),by simp⟩
   have HLB:Hid (zJt l=decide (t.cla.length=0)):=by
    show _=_;unfold zJt;rw[List.getLast?_eq_getElem?,hn,Nat.add_sub_cancel,ht]
   obtain⟨b,off,x,hax,hb,q0,q1,q2,hxa⟩:=HST.out n t ht;subst hax;have hc2:=(HB1.out.cell (p:=⟨b,off+n * 3+2,none⟩) hb).trans q2;obtain⟨ax,cx,rfl,_,_⟩:=hxa;have g1:(l.length:Int) - 1=(n:Int):=by omega
   have g2:IntKind.i64.wrap ((l.length:Int) - 1)=(n:Int):=by rw[g1];simp[IntKind.wrap,IntKind.signed,IntKind.bits];omega
   have g3:n<l.length:=by omega
   have g5:(0:Int)≤(n:Int):=by omega
   clear q0 q1 q2 ht hb hn g1;by_cases htl:t.cla.length=0
   ·have HR3:Hid (R=(zBf m (given.map (zAH m.vars)) l,0)):=by
     show _=_;rw[HR2.out,HLB.out,decide_eq_true htl];rfl
    have g4:((t.cla.length:Int) != 0)=false:=by simp[htl]
    clear HR2 htl;go_wp2_with fail
    refine (zRh m HM.out given HG6.out _ _ _ _ (HMA.out _ HB1.out) (HL.out _ HB1.out) (HT.out _ HB1.out)).mono ?_;rintro e w2 ⟨N,bm,bp,ba,pv,rfl,hws,hN,hb2⟩;have HWS:Hid (zEN N bm bp ba m (.slice a1 m.vars.length c1) (.slice a2 m.cons.length c2) pv (given.map (zAH m.vars)) w2):=hws;have HB2:Hid (Below w.heap.size w w2):=HB1.out.trans (hb2.mono HB1.out.size);have HNN:Hid (w.heap.size≤N):=Nat.le_trans HB1.out.size hN;clear hws hb2 hN k0 k1 k2 k3 l1 hc2 g2 g4 g5;go_wp2_with fail
    go_loopw [38] (fun i wr=>∃(k:Nat) (ahead:List Nat),k≤l.length∧i=.int .i64 k∧Hid (zEN N bm bp ba m (.slice a1 m.vars.length c1) (.slice a2 m.cons.length c2) pv ahead wr)∧Hid (zBf m (given.map (zAH m.vars)) l=zBf m ahead (l.drop k))∧Hid (ahead.length=given.length+k)∧Hid (Below w.heap.size w wr)) (fun i _=>l.length - (intOf i).toNat)
    case atStart=>exact⟨0,_,by omega,rfl,HWS,rfl,by show _=_;simp,HB2⟩
    case round =>
     obtain⟨k,ahead,hk,rfl,HW,HSP,HAL,HBW⟩:=hrel;by_cases hlt:k<l.length
     ·obtain⟨t,ht⟩:∃t,l[k]? = some t:=⟨l[k],by simp[hlt]⟩
      obtain⟨b',off',x,hax,hb,q0,q1,q2,hxa⟩:=HST.out k t ht
      injection hax with hax
      injection hax with hax1 hax2
      subst hax1;subst hax2;have hc0:=(HBW.out.cell (p:=⟨b,off+k * 3,none⟩) hb).trans q0;have hc1:=(HBW.out.cell (p:=⟨b,off+k * 3+1,none⟩) hb).trans q1;have hc2:=(HBW.out.cell (p:=⟨b,off+k * 3+2,none⟩) hb).trans q2;have HXA:Hid (∀w',Below w.heap.size w w'→LArg w' x t.cla):=fun w' h=>LArg.below h hxa
      obtain⟨ax,cx,rfl,_,_⟩:=hxa;have HKT:Hid (t.kind=1→0≤t.con∧t.con<(m.cons.length:Int)):=HK5.out t (List.mem_of_getElem? ht);have HST2:Hid (zBf m ahead (l.drop k)=(zDK m ahead t&&zBf m (ahead++[zAH m.vars t.cla]) (l.drop (k+1)))):=zMC m l ahead k t ht;have hbud:ahead.length≤100000:=by have:=HAL.out;have:=HG6.out;omega
      clear ht q0 q1 q2 hb;go_wp2_with fail
      refine (zP8 N bm bp ba m _ _ pv _ ahead t _ HM.out (HW.out.below (zAA _ _)) (HXA.out _ (HBW.out.alloc HBW.out.size _)) HKT.out hbud).mono ?_;rintro e w3 ⟨rfl,hw3,hb3⟩;have HW3:Hid (zEN N bm bp ba m (.slice a1 m.vars.length c1) (.slice a2 m.cons.length c2) pv (ahead++[zAH m.vars t.cla]) w3):=hw3;have HB3:Hid (Below w.heap.size w w3):=(HBW.out.alloc HBW.out.size _).trans (hb3.mono HNN.out);obtain⟨B,hB⟩:∃B,zDK m ahead t=B:=⟨_,rfl⟩;rw[hB] at HST2 ⊢;clear hw3 hb3 hB hbud hc0 hc1 hc2;cases B
      ·have HRF:Hid (R=(false,0)):=by show _=_;rw[HR3.out,HSP.out,HST2.out];rfl
       go_wp2
       go_ret2
       exact⟨by rw[HRF.out];rfl,HB3.out⟩
      ·have HSP2:Hid (zBf m (given.map (zAH m.vars)) l=zBf m (ahead++[zAH m.vars t.cla]) (l.drop (k+1))):=by show _=_;rw[HSP.out,HST2.out];rfl
       have HAL2:Hid ((ahead++[zAH m.vars t.cla]).length=given.length+(k+1)):=by show _=_;rw[List.length_append,HAL.out];simp;omega
       go_wp2
       go_roundw
       case rel=>exact⟨k+1,_,by omega,by go_num,HW3,HSP2,HAL2,HB3⟩
       case measure=>simp[intOf];omega
     ·have hke:k=l.length:=by omega
      have HRF:Hid (R=(true,0)):=by show _=_;rw[HR3.out,HSP.out,hke,List.drop_length];rfl
      clear hke;go_wp2
      go_ret2
      exact⟨by rw[HRF.out];rfl,HBW.out⟩
   ·have HRF:Hid (R=(false,0)):=by
     show _=_;rw[HR2.out,HLB.out,decide_eq_false htl];rfl
    have g4:((t.cla.length:Int) != 0)=true:=by simpa using htl
    clear HR2 htl;go_wp2
    go_ret2
    exact⟨by rw[HRF.out];rfl,HB1.out⟩
 ·have HRF:Hid (R=(false,er)):=by
   show _=_;rw[←HR.out];unfold zBc;rw[HER.out,if_neg he]
  have he2:(er != 0)=true:=by simpa using he
  clear he;go_wp2
  go_ret2
  exact⟨by rw[HRF.out];rfl,HB1.out⟩
theorem zJu (w:World) (v o n:Int) (B:Nat) (hB:B=w.heap.size):LArg (w.alloc (.cells #[.int .i64 v,.int .i64 o,.int .i64 n] 76)) (.slice (some ⟨B,0,none⟩) 1 1) [⟨v,o,n⟩]:=by
 subst hB;refine⟨_,1,rfl,⟨by simp,by unfold maxLen;omega⟩,fun i t ht=>?_⟩
 match i,ht with
 | 0,ht =>
   cases ht
   exact⟨_,0,rfl,by simp,World.cell?_alloc_at _ _ _ 0 (by simp),World.cell?_alloc_at _ _ _ 1 (by simp),World.cell?_alloc_at _ _ _ 2 (by simp)⟩
theorem zNJ (w:World) (u:Value) (c:Cla) (hu:LArg w u c) (B:Nat) (hB:B=w.heap.size):zDV (w.alloc (.cells #[u] 28)) (.slice (some ⟨B,0,none⟩) 1 1) [c]:=by
 subst hB;refine⟨_,1,rfl,⟨by simp,by unfold maxLen;omega⟩,fun i t ht=>?_⟩
 match i,ht with
 | 0,ht =>
   cases ht
   exact⟨_,0,u,rfl,by simp,World.cell?_alloc_at _ _ _ 0 (by simp),LArg.below (zAA _ _) hu⟩
theorem zSm (w:World):LArg w (.slice none 0 0) []:=⟨none,0,rfl,⟨Nat.le_refl _,Nat.zero_le _⟩,fun i z hz=>by simp at hz⟩
theorem zRi (w:World):zDV w (.slice none 0 0) []:=⟨none,0,rfl,⟨Nat.le_refl _,Nat.zero_le _⟩,fun i z hz=>by simp at hz⟩
theorem zSn (w:World) (k n:Int) (u:Value) (c:Cla) (hu:LArg w u c) (B:Nat) (hB:B=w.heap.size):zIP (w.alloc (.cells #[.int .i64 k,.int .i64 n,u] 39)) (.slice (some ⟨B,0,none⟩) 1 1) [⟨k,n,c⟩]:=by
 subst hB;refine⟨_,1,rfl,⟨by simp,by unfold maxLen;omega⟩,fun i t ht=>?_⟩
 match i,ht with
 | 0,ht =>
   cases ht
   exact⟨_,0,u,rfl,by simp,World.cell?_alloc_at _ _ _ 0 (by simp),World.cell?_alloc_at _ _ _ 1 (by simp),World.cell?_alloc_at _ _ _ 2 (by simp),LArg.below (zAA _ _) hu⟩
theorem zSo (w:World) (k n k2 n2:Int) (u u2:Value) (c c2:Cla) (hu:LArg w u c) (hu2:LArg w u2 c2) (B:Nat) (hB:B=w.heap.size):zIP (w.alloc (.cells #[.int .i64 k,.int .i64 n,u,.int .i64 k2,.int .i64 n2,u2] 39)) (.slice (some ⟨B,0,none⟩) 2 2) [⟨k,n,c⟩,⟨k2,n2,c2⟩]:=by
 subst hB;refine⟨_,2,rfl,⟨by simp,by unfold maxLen;omega⟩,fun i t ht=>?_⟩
 match i,ht with
 | 0,ht =>
   cases ht
   exact⟨_,0,u,rfl,by simp,World.cell?_alloc_at _ _ _ 0 (by simp),World.cell?_alloc_at _ _ _ 1 (by simp),World.cell?_alloc_at _ _ _ 2 (by simp),LArg.below (zAA _ _) hu⟩
 | 1,ht =>
   cases ht
   exact⟨_,0,u2,rfl,by simp,World.cell?_alloc_at _ _ _ 3 (by simp),World.cell?_alloc_at _ _ _ 4 (by simp),World.cell?_alloc_at _ _ _ 5 (by simp),LArg.below (zAA _ _) hu2⟩
theorem zRj:zK1 twoM 0 [⟨0,1,1⟩]=(true,0):=by
 unfold zK1;have h1:zAw twoM 0=0:=by unfold zAw;rw[if_pos zBD];decide
 rw[if_pos h1,zRb,zEy]
 decide +kernel
theorem zP9:zGq twoM [[⟨0,1,1⟩]] [⟨0,4,2⟩]=(true,0):=by
 unfold zGq;rw[if_pos zBD]
 decide +kernel
theorem zSp:zCU twoM [] [⟨1,0,[⟨0,1,1⟩]⟩]=0:=by unfold zCU;rw[if_pos zBD];decide +kernel
theorem zSq:zBc twoM [] [⟨1,0,[⟨0,1,1⟩]⟩]=(false,0):=by unfold zBc;rw[if_pos zSp];decide +kernel
theorem zSr:zCU twoM [[⟨0,2,2⟩]] [⟨1,0,[⟨0,1,1⟩]⟩,⟨2,0,[]⟩]=0:=by unfold zCU;rw[if_pos zBD];decide +kernel
theorem zRk:zBc twoM [[⟨0,2,2⟩]] [⟨1,0,[⟨0,1,1⟩]⟩,⟨2,0,[]⟩]=(true,0):=by
 unfold zBc;rw[if_pos zSr];have h1:zDK twoM ([[⟨0,2,2⟩]].map (zAH twoM.vars)) ⟨1,0,[⟨0,1,1⟩]⟩=true:=by
  unfold zDK;rw[if_pos rfl];show zBv twoM.vars (zAK twoM.vars twoC) _=true;rw[zEy]
  decide +kernel
 have h2:zBf twoM ([[⟨0,2,2⟩]].map (zAH twoM.vars)) [⟨1,0,[⟨0,1,1⟩]⟩,⟨2,0,[]⟩]=true:=by
  unfold zBf;rw[h1]
  decide +kernel
 rw[h2]
 decide +kernel
theorem zMD (w:World) (hT:TabT w) :
 Calls Tryz.prog 23 #[] w fun e w'=>e=.returned (.bool true)∧Below w.heap.size w w':=by
 have HT:Hid (∀w',Below w.heap.size w w'→TabT w'):=fun w' h=>hT.below h
 clear hT;go_enter Tryz.func23,Tryz.ntmps23
 go_wp2_with fail
 refine (zCN _).mono ?_;rintro e w1 ⟨vs,cs,rfl,hm,hb1⟩;have HB1:Hid (Below w.heap.size w w1):=(zAA _ _).trans (hb1.mono (by simp))
 have HC:Hid (∀w':World,Below w1.heap.size w1 w'→LArg w' (.slice (some ⟨w.heap.size,0,none⟩) 1 1) [⟨0,1,1⟩]):=fun w' h=>LArg.below (hb1.trans (h.mono hb1.size)) (zJu w 0 1 1 _ rfl)
 have HM:Hid (MArg w1 vs cs twoM):=hm;clear hm hb1;go_wp2_with fail
 refine (zRf twoM 0 [⟨0,1,1⟩] _ _ _ _ HM.out (HC.out _ (Below.refl _ _))).mono ?_;rintro e w2 ⟨rfl,hb2⟩;rw[zRj];have HB2:Hid (Below w1.heap.size w1 w2):=hb2;clear hb2 HM;go_wp2_with fail
 refine (zCN _).mono ?_;rintro e w3 ⟨vs,cs,rfl,hm,hb3⟩;have HB3:Hid (Below w1.heap.size w1 w3):=HB2.out.trans (hb3.mono HB2.out.size);have HM:Hid (∀w',Below w3.heap.size w3 w'→MArg w' vs cs twoM):=fun w' h=>MArg.below h hm
 clear hm hb3 HB2;go_wp2_with fail
 refine (zP6 twoM [[⟨0,1,1⟩]] [⟨0,4,2⟩] _ _ _ _ _ (HM.out _ ((zAA _ _).alloc (by simp) _)) (zDV.below (zAA _ _) (zNJ w3 _ _ (HC.out _ HB3.out) _ rfl)) (zJu _ 0 4 2 _ (by simp)) (HT.out _ (HB1.out.trans (((HB3.out.alloc HB3.out.size _).alloc (by have:=HB3.out.size;simp;omega) _).mono HB1.out.size)))).mono ?_
 rintro e w4 ⟨rfl,hb4⟩;rw[zP9];have HB4:Hid (Below w1.heap.size w1 w4):=HB3.out.trans ((((zAA _ _).alloc (by simp) _).trans (hb4.mono (by simp;omega))).mono HB3.out.size)
 clear hb4 HB3 HM;go_wp2_with fail
 refine (zCN _).mono ?_;rintro e w5 ⟨vs,cs,rfl,hm,hb5⟩;have HB5:Hid (Below w1.heap.size w1 w5):=HB4.out.trans (hb5.mono HB4.out.size);have HM:Hid (∀w',Below w5.heap.size w5 w'→MArg w' vs cs twoM):=fun w' h=>MArg.below h hm
 clear hm hb5 HB4;go_wp2_with fail
 refine (zGV twoM [] [⟨1,0,[⟨0,1,1⟩]⟩] _ _ _ _ _ (HM.out _ (zAA _ _)) (zRi _) (zSn w5 1 0 _ _ (HC.out _ HB5.out) _ rfl) (HT.out _ (HB1.out.trans ((HB5.out.alloc HB5.out.size _).mono HB1.out.size)))).mono ?_;rintro e w6 ⟨rfl,hb6⟩;rw[zSq];have HB6:Hid (Below w1.heap.size w1 w6):=HB5.out.trans (((zAA _ _).trans (hb6.mono (by simp))).mono HB5.out.size)
 clear hb6 HB5 HM;go_wp2_with fail
 refine (zCN _).mono ?_;rintro e w7 ⟨vs,cs,rfl,hm,hb7⟩;have HB7:Hid (Below w1.heap.size w1 w7):=HB6.out.trans (hb7.mono HB6.out.size);have HM:Hid (∀w',Below w7.heap.size w7 w'→MArg w' vs cs twoM):=fun w' h=>MArg.below h hm
 clear hm hb7 HB6;go_wp2_with fail
 refine (zGV twoM [[⟨0,2,2⟩]] [⟨1,0,[⟨0,1,1⟩]⟩,⟨2,0,[]⟩] _ _ _ _ _ (HM.out _ (((zAA _ _).alloc (by simp) _).alloc (by simp;omega) _)) (zDV.below (zAA _ _) (zNJ _ _ _ (zJu w7 0 2 2 _ rfl) _ (by simp))) (zSo _ 1 0 2 0 _ _ _ _ (HC.out _ (HB7.out.trans (((zAA _ _).alloc (by simp) _).mono HB7.out.size))) (zSm _) _ (by simp)) (HT.out _ (HB1.out.trans ((HB7.out.trans ((((zAA _ _).alloc (by simp) _).alloc (by simp;omega) _).mono HB7.out.size)).mono HB1.out.size)))).mono ?_
 rintro e w8 ⟨rfl,hb8⟩;rw[zRk];have HB8:Hid (Below w.heap.size w w8):=HB1.out.trans ((HB7.out.trans (((((zAA _ _).alloc (by simp) _).alloc (by simp;omega) _).trans (hb8.mono (by simp;omega))).mono HB7.out.size)).mono HB1.out.size)
 clear hb8 HB7 HM;go_wp2
 go_ret
 exact⟨rfl,HB8.out⟩
theorem zK2 (s:ByteArray) (a b:Nat):(s.extract a b).data.toList=(s.data.toList.drop a).take (b - a):=by
 rw[ByteArray.data_extract,Array.toList_extract]
theorem zFA (p:UInt8→Bool):∀(l:List UInt8),∀c∈l.take (l.takeWhile p).length,p c=true
 | [],c,h=>by simp at h
 | x :: l,c,h=>by
   by_cases hx:p x=true
   ·rw[List.takeWhile_cons_of_pos hx] at h
    simp only[List.length_cons,List.take_succ_cons,List.mem_cons] at h;rcases h with rfl | h
    ·exact hx
    ·exact zFA p l c h
   ·rw[List.takeWhile_cons_of_neg hx] at h
    simp at h
theorem zTK (s:ByteArray) (hs:s.size≤4000) (j:Nat) (hj:j<s.size) (he:zC3 (zBC s j).kind (zBC s j).text=0):zJ4 (zBC s j):=by
 refine⟨Nat.le_trans (zIX s j) hs,fun hk=>?_⟩
 have hk0:=zEr s j he;have hlj:j<s.data.toList.length:=by rw[zA0];exact hj
 have hgt:=zJP _ _ hlj hk0;have hle:=(zG1 _ _ hlj).2;rw[zA0] at hle;have ht:zBC s j=⟨zCD s.data.toList j,j,s.extract j (zCL s.data.toList j)⟩:=by unfold zBC;rw[if_neg hk0]
 rw[hk] at he;rw[ht] at he hk ⊢;simp only at he hk ⊢;have hsz:(s.extract j (zCL s.data.toList j)).size=zCL s.data.toList j - j:=zCo s _ _ hle;refine⟨⟨by omega,?_⟩,?_⟩
 ·unfold zC3 at he
  rw[if_neg (by decide),if_pos rfl] at he
  split at he
  ·cases he
  ·omega
 ·have hk2:zCD s.data.toList j=2:=by omega
  have hL:¬isL (zCz s.data.toList j)=true:=by
   intro h;unfold zCD at hk2;rw[if_pos h] at hk2;cases hk2
  have hD:isD (zCz s.data.toList j)=true:=by
   unfold zCD at hk2;rw[if_neg hL] at hk2;by_cases h:isD (zCz s.data.toList j)=true
   ·exact h
   ·rw[if_neg h] at hk2;split at hk2 <;> cases hk2
  have hend:zCL s.data.toList j=zBA isD s.data.toList j:=by unfold zCL;rw[if_neg hL,if_pos hD]
  intro c hc;rw[zK2,hend] at hc;unfold zBA at hc;rw[Nat.add_sub_cancel_left] at hc;have:=zFA isD _ c hc;unfold isD at this;simp at this;omega
theorem zOJ (s:ByteArray) (hs:s.size≤4000):∀(f k:Nat) (acc:List Tok),(∀t∈acc,zJ4 t)→k≤s.size→acc.length≤k→(∀t∈(zEI f s k acc).1,zJ4 t)∧(zEI f s k acc).1.length≤s.size:=by
 intro f
 induction f with
 | zero=>intro k acc h1 h2 h3;exact⟨h1,by simp only[zEI];omega⟩
 | succ f ih =>
   intro k acc h1 h2 h3;have hk:=zHB false s.data.toList k (by rw[zA0];exact h2)
   by_cases h4:zAU false s.data.toList k<s.size
   ·by_cases h5:zC3 (zBC s (zAU false s.data.toList k)).kind (zBC s (zAU false s.data.toList k)).text=0
    ·rw[zDj f s k _ acc rfl h4 h5]
     have hlj:zAU false s.data.toList k<s.data.toList.length:=by rw[zA0];exact h4
     have hgt:=zJP _ _ hlj (zEr s _ h5);have hle:=(zG1 _ _ hlj).2;rw[zA0] at hle;refine ih _ _ (fun t ht=>?_) hle (by simp;omega)
     rcases List.mem_append.1 ht with ht | ht
     ·exact h1 t ht
     ·rw[List.mem_singleton.1 ht];exact zTK s hs _ h4 h5
    ·rw[zFZ f s k _ acc rfl h4 h5];exact⟨fun t ht=>(by cases ht),(by simp)⟩
   ·rw[zEQ _ s k acc h4];exact⟨h1,by simp only;omega⟩
theorem zQA (s:ByteArray):(∀t∈(zAv s).1,zJ4 t)∧(zAv s).1.length≤4000:=by
 unfold zAv
 split
 ·exact⟨fun t ht=>(by cases ht),(by simp)⟩
 ·obtain⟨h1,h2⟩:=zOJ s (by omega) (s.size+1) 0 [] (fun t ht=>(by cases ht)) (Nat.zero_le _) (Nat.le_refl _)
  exact⟨h1,by omega⟩
theorem zRl {w:World} {B:Nat} {v:Value} {l:List Tok} (h:w.ownsRow B 161 3 v l.length (zBX l)) (hl:l.length≤4000) (ht:∀t∈l,zJ4 t):TArg w.heap.size w v l:=by
 obtain⟨a,c,hv,hm,hr⟩:=zDZ h;refine⟨a,c,hv,hm,⟨hl,ht⟩,fun i z hz=>?_⟩
 have hi:i<l.length:=(List.getElem?_eq_some_iff.1 hz).1;obtain⟨g,ha,hg,hc⟩:=hr i hi;have hf:=zDI zBZ 3 (fun _=>rfl) l i
 exact⟨g,0,ha,hg,by rw[Nat.zero_add,hc _ (by omega)];exact hf 0 z hz (by omega),by rw[Nat.zero_add,hc _ (by omega)];exact hf 1 z hz (by omega),by rw[Nat.zero_add,hc _ (by omega)];exact hf 2 z hz (by omega)⟩
def zCw (s:ByteArray):Mod×Int×Int :=
 if (zAv s).2.2=0 then
  if (zD3 s.size (zAv s).1).2.2=0 then
   if zAG (zD3 s.size (zAv s).1).1=0 then ((zD3 s.size (zAv s).1).1,0,0) else (zGB,0,zAG (zD3 s.size (zAv s).1).1)
  else (zGB,(zD3 s.size (zAv s).1).2.1,(zD3 s.size (zAv s).1).2.2)
 else (zGB,(zAv s).2.1,(zAv s).2.2)
theorem zRm {s:ByteArray} {ts:List Tok} {a:Nat} {m:Mod} {x:Int} (hs:zAv s=(ts,a,0)) (hr:zD3 s.size ts=(m,x,0)) (hc:zAG m=0):zCw s=(m,0,0):=by
 unfold zCw;simp[hs,hr,hc]
theorem zME {s:ByteArray} {ts:List Tok} {a:Nat} {m:Mod} {x:Int} (hs:zAv s=(ts,a,0)) (hr:zD3 s.size ts=(m,x,0)) (hc:¬zAG m=0):zCw s=(zGB,0,zAG m):=by
 unfold zCw;simp[hs,hr,hc]
theorem zOK {s:ByteArray} {ts:List Tok} {a:Nat} {m:Mod} {x e:Int} (hs:zAv s=(ts,a,0)) (hr:zD3 s.size ts=(m,x,e)) (he:¬e=0):zCw s=(zGB,x,e):=by
 unfold zCw;simp[hs,hr,he]
theorem zOL {s:ByteArray} {ts:List Tok} {a:Nat} {e:Int} (hs:zAv s=(ts,a,e)) (he:¬e=0):zCw s=(zGB,(a:Int),e):=by
 unfold zCw;simp[hs,he]
theorem ret4 {w w1:World} (h:Below w.heap.size w w1) (u0 u1 u2 u3:Value):Below w.heap.size w ((((w1.setCell ⟨w.heap.size,0,none⟩ u0).setCell ⟨w.heap.size,1,none⟩ u1).setCell ⟨w.heap.size,2,none⟩ u2).setCell ⟨w.heap.size,3,none⟩ u3) :=
 Fr.toBelow (((((Fr.below (X:=fun k=>w.heap.size≤k) h).setX (p:=⟨w.heap.size,0,none⟩) (Nat.le_refl _) u0).setX (p:=⟨w.heap.size,1,none⟩) (Nat.le_refl _) u1).setX (p:=⟨w.heap.size,2,none⟩) (Nat.le_refl _) u2).setX (p:=⟨w.heap.size,3,none⟩) (Nat.le_refl _) u3)
theorem zRn {w w1:World} {B:Nat} {vs cs:Value} {m:Mod} (h:ModR B w1 vs cs m) (hB:w.heap.size<B) (u0 u1 u2 u3:Value):ModR w.heap.size ((((w1.setCell ⟨w.heap.size,0,none⟩ u0).setCell ⟨w.heap.size,1,none⟩ u1).setCell ⟨w.heap.size,2,none⟩ u2).setCell ⟨w.heap.size,3,none⟩ u3) vs cs m :=
 (h.fr (((((Fr.refl (fun k=>k<B) w1).setX (p:=⟨w.heap.size,0,none⟩) hB u0).setX (p:=⟨w.heap.size,1,none⟩) hB u1).setX (p:=⟨w.heap.size,2,none⟩) hB u2).setX (p:=⟨w.heap.size,3,none⟩) hB u3) (fun _ hk=>hk)).mono (Nat.le_of_lt hB)
theorem zK3 (s:ByteArray) (hs:s.size≤maxLen) (w:World) :
 Calls Tryz.prog 29 #[.string s] w fun e w'=>∃vs cs,e=.returned (.tuple #[modV vs cs (zCw s).1,.int .i64 (zCw s).2.1,.int .i64 (zCw s).2.2])∧ModR w.heap.size w' vs cs (zCw s).1∧Below w.heap.size w w':=by
 obtain⟨m0,x0,e0,hA⟩:∃m0 x0 e0,zCw s=(m0,x0,e0):=⟨_,_,_,rfl⟩;have HA:Hid (zCw s=(m0,x0,e0)):=hA;rw[hA];simp only;clear hA;obtain⟨ts,at1,e1,hsc⟩:∃ts at1 e1,zAv s=(ts,at1,e1):=⟨_,_,_,rfl⟩;have HSC:Hid (zAv s=(ts,at1,e1)):=hsc;have HTK:Hid ((∀t∈ts,zJ4 t)∧ts.length≤4000):=by have h:=zQA s;rw[hsc] at h;exact h
 have HSS:Hid (s.size≤maxLen):=hs;clear hsc;unfold maxLen at hs;go_enter Tryz.func29,Tryz.ntmps29
 go_wp2_with fail
 have HBA:=zAA w (.cells #[.slice none 0 0,.slice none 0 0,.int .i64 0,.int .i64 0] 25);have HQ0:(w.alloc (.cells #[.slice none 0 0,.slice none 0 0,.int .i64 0,.int .i64 0] 25)).heap[w.heap.size]? = some (.cells #[.slice none 0 0,.slice none 0 0,.int .i64 0,.int .i64 0] 25):=heap_alloc_new _ _;refine (zEs s HSS.out _).mono ?_;rw[HSC.out];rintro e w1 ⟨v1,rfl,hown1,hb1⟩;have HO1:Hid (TArg w1.heap.size w1 v1 ts):=zRl hown1 HTK.out.2 HTK.out.1;have HB1:Hid (Below w.heap.size w w1):=HBA.trans (hb1.mono (by simp))
 have HQ1:Hid (w1.heap[w.heap.size]? = some (.cells #[.slice none 0 0,.slice none 0 0,.int .i64 0,.int .i64 0] 25)):=(hb1.block _ (by simp)).trans HQ0
 obtain⟨av,cv,hv1⟩:=zAC hown1;subst hv1;clear hown1 hb1 HBA HQ0;by_cases he1:e1=0
 ·subst he1
  go_wp2_with fail
  refine (zQo _ ts _ w1 HO1.out).mono ?_;obtain⟨m2,x2,e2,hR⟩:∃m2 x2 e2,zD3 s.size ts=(m2,x2,e2):=⟨_,_,_,rfl⟩;have HR:Hid (zD3 s.size ts=(m2,x2,e2)):=hR;rw[hR];simp only;clear hR;rintro e w2 ⟨vs,cs,rfl,hma,hb2⟩;have HMA:Hid (ModR w1.heap.size w2 vs cs m2):=hma;have HWW:Hid (w.heap.size<w1.heap.size):=(Array.getElem?_eq_some_iff.1 HQ1.out).1;have HB2:Hid (Below w.heap.size w w2):=HB1.out.trans (hb2.mono HB1.out.size);have HQ2:Hid (w2.heap[w.heap.size]? = some (.cells #[.slice none 0 0,.slice none 0 0,.int .i64 0,.int .i64 0] 25)):=(hb2.block _ (Array.getElem?_eq_some_iff.1 HQ1.out).1).trans HQ1.out;obtain⟨a1,c1,hv2⟩:=zAC hma.1;obtain⟨a2,c2,hv3⟩:=hma.2.1.form;subst hv2 hv3;clear hma;clear hb2;by_cases he2:e2=0
  ·subst he2
   obtain⟨ce,hce⟩:∃ce,zAG m2=ce:=⟨_,rfl⟩;have HCE:Hid (zAG m2=ce):=hce;clear hce;unfold modV;go_wp2_with fail
   have hlt2:w.heap.size<w2.heap.size:=(Array.getElem?_eq_some_iff.1 HQ2.out).1;have HM3:Hid (ModR w1.heap.size (w2.alloc (.cells #[.slice a1 m2.vars.length c1,.slice a2 m2.cons.length c2,.int .i64 m2.goal,.int .i64 m2.var] 25)) (.slice a1 m2.vars.length c1) (.slice a2 m2.cons.length c2) m2):=HMA.out.below (zAA _ _);have HB3:Hid (Below w.heap.size w (w2.alloc (.cells #[.slice a1 m2.vars.length c1,.slice a2 m2.cons.length c2,.int .i64 m2.goal,.int .i64 m2.var] 25))):=HB2.out.trans ((zAA _ _).mono HB2.out.size);have HQ3:Hid ((w2.alloc (.cells #[.slice a1 m2.vars.length c1,.slice a2 m2.cons.length c2,.int .i64 m2.goal,.int .i64 m2.var] 25)).heap[w.heap.size]? = some (.cells #[.slice none 0 0,.slice none 0 0,.int .i64 0,.int .i64 0] 25)):=((zAA _ _).block _ hlt2).trans HQ2.out;have HC3:Hid ((w2.alloc (.cells #[.slice a1 m2.vars.length c1,.slice a2 m2.cons.length c2,.int .i64 m2.goal,.int .i64 m2.var] 25)).heap[w2.heap.size]? = some (.cells #[.slice a1 m2.vars.length c1,.slice a2 m2.cons.length c2,.int .i64 m2.goal,.int .i64 m2.var] 25)):=heap_alloc_new _ _;refine (zA9 m2 _ _ _ HM3.out.marg).mono ?_;rw[HCE.out];rintro e w4 ⟨rfl,hb4⟩;have HM4:Hid (ModR w1.heap.size w4 (.slice a1 m2.vars.length c1) (.slice a2 m2.cons.length c2) m2):=HM3.out.below hb4;have HB4:Hid (Below w.heap.size w w4):=HB3.out.trans (hb4.mono HB3.out.size);have HQ4:Hid (w4.heap[w.heap.size]? = some (.cells #[.slice none 0 0,.slice none 0 0,.int .i64 0,.int .i64 0] 25)):=(hb4.block _ (Array.getElem?_eq_some_iff.1 HQ3.out).1).trans HQ3.out;have HC4:Hid (w4.heap[w2.heap.size]? = some (.cells #[.slice a1 m2.vars.length c1,.slice a2 m2.cons.length c2,.int .i64 m2.goal,.int .i64 m2.var] 25)):=(hb4.block _ (Array.getElem?_eq_some_iff.1 HC3.out).1).trans HC3.out;clear hb4 HM3 HB3 HQ3 HC3;have d0:=blk9 HC4.out 0 _ rfl;have d1:=blk9 HC4.out 1 _ rfl;have d2:=blk9 HC4.out 2 _ rfl;have d3:=blk9 HC4.out 3 _ rfl;have r0:=blk9 HQ4.out 0 _ rfl;have r1:=blk9 HQ4.out 1 _ rfl;have r2:=blk9 HQ4.out 2 _ rfl;have r3:=blk9 HQ4.out 3 _ rfl;have z0:=frz9 HQ4.out 0;have z1:=frz9 HQ4.out 1;have z2:=frz9 HQ4.out 2;have z3:=frz9 HQ4.out 3;by_cases hc:ce=0
   ·subst hc
    have HX:Hid (m0=m2∧x0=0∧e0=0):=by
     have h:=HA.out;rw[zRm HSC.out HR.out HCE.out] at h;cases h
     exact⟨rfl,rfl,rfl⟩
    go_wp2
    refine bodyPost_ret (by simp[results,Tryz.results29,go_sem, *];try rfl) rfl ?_
    obtain⟨k0,k1,k2⟩:=HX.out;subst k0 k1 k2;exact⟨_,_,rfl,zRn HM4.out HWW.out _ _ _ _,ret4 HB4.out _ _ _ _⟩
   ·have hcb:(ce != 0)=true:=by simpa using hc
    have HX:Hid (m0=zGB∧x0=0∧e0=ce):=by
     have h:=HA.out;rw[zME HSC.out HR.out (by rw[HCE.out];exact hc),HCE.out] at h
     cases h
     exact⟨rfl,rfl,rfl⟩
    clear hc;go_wp2
    refine bodyPost_ret (by simp[results,Tryz.results29,go_sem, *];try rfl) rfl ?_
    obtain⟨k0,k1,k2⟩:=HX.out;subst k0 k1 k2;exact⟨_,_,rfl,zFe _ _,ret4 HB4.out _ _ _ _⟩
  ·have he2b:(e2 != 0)=true:=by simpa using he2
   have HX:Hid (m0=zGB∧x0=x2∧e0=e2):=by
    have h:=HA.out;rw[zOK HSC.out HR.out he2] at h;cases h
    exact⟨rfl,rfl,rfl⟩
   have r0:=blk9 HQ2.out 0 _ rfl;have r1:=blk9 HQ2.out 1 _ rfl;have r2:=blk9 HQ2.out 2 _ rfl;have r3:=blk9 HQ2.out 3 _ rfl;have z0:=frz9 HQ2.out 0;have z1:=frz9 HQ2.out 1;have z2:=frz9 HQ2.out 2;have z3:=frz9 HQ2.out 3;have hlt2:w.heap.size<w2.heap.size:=(Array.getElem?_eq_some_iff.1 HQ2.out).1;have HB3:Hid (Below w.heap.size w (w2.alloc (.cells #[.slice a1 m2.vars.length c1,.slice a2 m2.cons.length c2,.int .i64 m2.goal,.int .i64 m2.var] 25))):=HB2.out.trans ((zAA _ _).mono HB2.out.size);clear he2;unfold modV;go_wp2
   refine bodyPost_ret (by simp[results,Tryz.results29,go_sem, *];try rfl) rfl ?_
   obtain⟨k0,k1,k2⟩:=HX.out;subst k0 k1 k2;refine⟨_,_,rfl,zFe _ _,?_⟩;rw[←World.setCell_alloc_past _ _ _ _ (by simpa using hlt2),←World.setCell_alloc_past _ _ _ _ (by simpa using hlt2),←World.setCell_alloc_past _ _ _ _ (by simpa using hlt2),←World.setCell_alloc_past _ _ _ _ (by simpa using hlt2)]
   exact ret4 HB3.out _ _ _ _
 ·have he1b:(e1 != 0)=true:=by simpa using he1
  have HX:Hid (m0=zGB∧x0=(at1:Int)∧e0=e1):=by
   have h:=HA.out;rw[zOL HSC.out he1] at h;cases h
   exact⟨rfl,rfl,rfl⟩
  have r0:=blk9 HQ1.out 0 _ rfl;have r1:=blk9 HQ1.out 1 _ rfl;have r2:=blk9 HQ1.out 2 _ rfl;have r3:=blk9 HQ1.out 3 _ rfl;have z0:=frz9 HQ1.out 0;have z1:=frz9 HQ1.out 1;have z2:=frz9 HQ1.out 2;have z3:=frz9 HQ1.out 3;clear he1;go_wp2
  refine bodyPost_ret (by simp[results,Tryz.results29,go_sem, *];try rfl) rfl ?_
  obtain⟨k0,k1,k2⟩:=HX.out;subst k0 k1 k2;exact⟨_,_,rfl,zFe _ _,ret4 HB1.out _ _ _ _⟩
end Go.Proofs.YtndcpnlaadikoaaGreatDoor
