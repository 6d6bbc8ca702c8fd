/- What the proof leans on, part 35. -/
import Derived.Test.YtdjbejlbmaiocagGreatDoorPartAg
import Derived.Test.YtdjbejlbmaiocagGreatDoorPartAz
import Derived.Test.YtdjbejlbmaiocagGreatDoorPartBa
import Derived.Test.YtdjbejlbmaiocagGreatDoorPartBh
import Derived.Test.YtdjbejlbmaiocagGreatDoorPartBb
import Derived.Test.YtdjbejlbmaiocagGreatDoorPartAb
import Derived.Shelf.Strings.BuilderK
set_option maxRecDepth 100000
set_option maxHeartbeats 2000000
namespace Go.Proofs.YtdjbejlbmaiocagGreatDoor
open Go.RowKit
theorem zSj (m:Mod) (vals:List Int) (vs cs v:Value) (w:World) (hm:MArg w vs cs m) (hv:IArg w v vals) :
 Calls Tryz.prog 19 #[modV vs cs m,v] w fun e w'=>e=.returned (.tuple #[.bool (allA m vals).1,.int .i64 (allA m vals).2])∧Below w.heap.size w w':=by
 have HMA:Hid (∀w':World,Below w.heap.size w w'→MArg w' vs cs m):=fun w' h=>MArg.below h hm
 have HVA:Hid (∀w':World,Below w.heap.size w w'→IArg w' v vals):=fun w' h=>IArg.below h hv
 obtain⟨⟨a1,c1,rfl,hl1,hr1⟩,⟨a2,c2,rfl,hl2,hr2⟩⟩:=hm;obtain⟨a3,c3,rfl,hl3,hr3⟩:=hv;have HV1:Hid (∀(i:Nat) (t:MVar),m.vars[i]? = some t→t.name.size≤maxLen∧∃b off,a1=some ⟨b,off,none⟩∧b<w.heap.size ∧
  w.cell? ⟨b,off+i * 3,none⟩=some (.string t.name)∧w.cell? ⟨b,off+i * 3+1,none⟩=some (.int .i64 t.lo)∧w.cell? ⟨b,off+i * 3+2,none⟩=some (.int .i64 t.hi)):=hr1
 have HC:Hid (∀(i:Nat) (t:MCon),m.cons[i]? = some t→∃b off vv vc vr vl,a2=some ⟨b,off,none⟩∧b<w.heap.size ∧
  w.cell? ⟨b,off+i * 6,none⟩=some (.int .i64 t.kind)∧w.cell? ⟨b,off+i * 6+1,none⟩=some vv∧w.cell? ⟨b,off+i * 6+2,none⟩=some vc ∧
  w.cell? ⟨b,off+i * 6+3,none⟩=some (.int .i64 t.n)∧w.cell? ⟨b,off+i * 6+4,none⟩=some vr∧w.cell? ⟨b,off+i * 6+5,none⟩=some vl∧KArg w vv vc vr vl t):=hr2
 have HV:Hid (∀(i:Nat) (z:Int),vals[i]? = some z→∃b off,a3=some ⟨b,off,none⟩∧b<w.heap.size∧w.cell? ⟨b,off+i,none⟩=some (.int .i64 z)):=hr3;unfold maxLen at hl1 hl2 hl3;obtain⟨hl11,hl1⟩:=hl1;obtain⟨hl21,hl2⟩:=hl2;obtain⟨hl31,hl3⟩:=hl3;obtain⟨R,hR⟩:∃R,allA m vals=R:=⟨_,rfl⟩;rw[hR];obtain⟨er,her⟩:∃er,zAF m=er:=⟨_,rfl⟩;have HER:Hid (zAF m=er):=her;have HE:Hid (R=if er=0 then
  (if vals.length=m.vars.length then ((m.vars.zip vals).all (fun p=>zCE p.1 p.2)&&m.cons.all (fun c=>zA0 c vals),0) else (false,1))
  else (false,er)):=by rw[←hR,←her];rfl
 clear hR her hr1 hr2 hr3;unfold modV;go_enter Tryz.func19,Tryz.ntmps19
 go_wp2_with fail
 refine (zCD m (.slice a1 m.vars.length c1) (.slice a2 m.cons.length c2) _ ?_).mono ?_
 ·exact HMA.out _ (zAA _ _)
 rintro e w1 ⟨rfl,hb1⟩;rw[HER.out];have d0:w1.cell? ⟨w.heap.size,0,none⟩=some (.slice a1 m.vars.length c1):=(hb1.cell (by simp)).trans (by simp)
 have d1:w1.cell? ⟨w.heap.size,1,none⟩=some (.slice a2 m.cons.length c2):=(hb1.cell (by simp)).trans (by simp)
 have HD1:Hid (w1.cell? ⟨w.heap.size,1,none⟩=some (.slice a2 m.cons.length c2)):=d1;have hs1:w.heap.size+1≤w1.heap.size:=by simpa using hb1.size
 have HB1:Hid (Below w.heap.size w w1):=(zAA _ _).trans (hb1.mono (by simp))
 clear hb1;by_cases he:er=0
 ·subst he
  by_cases hl:vals.length=m.vars.length
  ·have g0:((vals.length:Int) != (m.vars.length:Int))=false:=by simp[hl]
   have HL:Hid (vals.length=m.vars.length):=hl;have HE2:Hid (R=((m.vars.zip vals).all (fun p=>zCE p.1 p.2)&&m.cons.all (fun c=>zA0 c vals),0)):=by rw[HE.out,if_pos rfl,if_pos hl];rfl
   clear hl;go_wp2_with fail
   go_loopw [25] (fun i wr=>∃k:Nat,k≤m.vars.length∧i=.int .i64 k∧Hid (((m.vars.zip vals).take k).all (fun p=>zCE p.1 p.2)=true)∧Below w1.heap.size w1 wr) (fun i _=>m.vars.length - (intOf i).toNat)
   case atStart=>exact⟨0,by omega,rfl,rfl,Below.refl _ _⟩
   case round =>
    obtain⟨k,hk,rfl,hall,hbw⟩:=hrel;have HBW:Hid (Below w.heap.size w wr):=HB1.out.trans (hbw.mono (by omega))
    have HBW1:Hid (Below w1.heap.size w1 wr):=hbw;by_cases hlt:k<m.vars.length
    ·have hlt':k<vals.length:=by rw[HL.out];exact hlt
     obtain⟨x,hx⟩:∃x,vals[k]? = some x:=⟨vals[k],by simp[hlt']⟩
     obtain⟨t,ht⟩:∃t,m.vars[k]? = some t:=⟨m.vars[k],by simp[hlt]⟩
     have HG:Hid ((m.vars.zip vals)[k]? = some (t,x)):=by show _=_;rw[List.getElem?_zip_eq_some];exact⟨ht,hx⟩
     obtain⟨b,off,rfl,hb,e0⟩:=HV.out k x hx;obtain⟨_,b',off',rfl,hb',f0,f1,f2⟩:=HV1.out k t ht;have e1:=(HBW.out.cell (p:=⟨b,off+k,none⟩) hb).trans e0;have k0:=(HBW.out.cell (p:=⟨b',off'+k * 3,none⟩) hb').trans f0;have k1:=(HBW.out.cell (p:=⟨b',off'+k * 3+1,none⟩) hb').trans f1;have k2:=(HBW.out.cell (p:=⟨b',off'+k * 3+2,none⟩) hb').trans f2;have hbr:b<wr.heap.size:=Nat.lt_of_lt_of_le hb HBW.out.size;clear hx ht e0 f0 f1 f2 hb hb' hbw;by_cases q1:x<t.lo
     ·have HN:Hid (R=(false,0)):=by
       have:=zCC (fun p:MVar×Int=>zCE p.1 p.2) (m.vars.zip vals) k (t,x) HG.out (by simp[zCE,q1])
       rw[HE2.out,this];rfl
      have q2:decide (x<t.lo)=true:=decide_eq_true q1;go_wp2
      go_quiet (fail)
      go_wp2
      go_ret2
      exact⟨by rw[HN.out];rfl,below_drewN (HBW.out.trans ((zAA _ _).mono HBW.out.size)) _⟩
     ·have q2:decide (x<t.lo)=false:=decide_eq_false q1
      by_cases q3:t.hi<x
      ·have HN:Hid (R=(false,0)):=by
        have:=zCC (fun p:MVar×Int=>zCE p.1 p.2) (m.vars.zip vals) k (t,x) HG.out (by simp[zCE,q3])
        rw[HE2.out,this];rfl
       clear q1;go_wp2
       go_quiet (fail)
       go_wp2
       go_ret2
       exact⟨by rw[HN.out];rfl,below_drewN (HBW.out.trans ((zAA _ _).mono HBW.out.size)) _⟩
      ·have HN:Hid (((m.vars.zip vals).take (k+1)).all (fun p=>zCE p.1 p.2)=true):=zBr (fun p:MVar×Int=>zCE p.1 p.2) (m.vars.zip vals) k (t,x) HG.out hall.out (by simp[zCE];omega)
       have q4:decide (t.hi<x)=false:=decide_eq_false q3;clear q1 q3;go_wp2
       go_quiet (fail)
       go_wp2
       go_roundw
       case rel=>exact⟨k+1,by omega,by go_num,HN,below_drewN (HBW1.out.alloc HBW1.out.size _) _⟩
       case measure=>simp[intOf];omega
    ·have HA:Hid ((m.vars.zip vals).all (fun p=>zCE p.1 p.2)=true):=zCd _ _ k (by rw[List.length_zip,HL.out];omega) hall.out
     have HE3:Hid (R=(m.cons.all (fun c=>zA0 c vals),0)):=by rw[HE2.out,HA.out,Bool.true_and];rfl
     have HBD:Hid (∀x∈vals,-50≤x∧x≤50):=by
      intro x hx;obtain⟨i,hi⟩:=List.mem_iff_getElem?.1 hx;have hil:i<m.vars.length:=by rw[←HL.out];exact (List.getElem?_eq_some_iff.1 hi).1
      have ht:m.vars[i]? = some m.vars[i]:=by simp[hil]
      have hvo:=zKv m HER.out i _ ht;have:=List.all_eq_true.1 HA.out (m.vars[i],x) (List.mem_of_getElem? (i:=i) (by rw[List.getElem?_zip_eq_some];exact⟨ht,hi⟩))
      simp[zCE] at this;omega
     have e1:wr.cell? ⟨w.heap.size,1,none⟩=some (.slice a2 m.cons.length c2):=(hbw.cell (p:=⟨w.heap.size,1,none⟩) (by simp only;omega)).trans d1
     obtain⟨wo,rfl⟩:∃wo:World,wo=wr:=⟨_,rfl⟩;go_wp2
     clear hk hall hbw hlt e1;go_loopw [50] (fun i wr=>∃k:Nat,k≤m.cons.length∧i=.int .i64 k∧Hid ((m.cons.take k).all (fun c=>zA0 c vals)=true)∧Below w.heap.size w wr) (fun i _=>m.cons.length - (intOf i).toNat)
     case atStart=>exact⟨0,by omega,rfl,rfl,HBW.out⟩
     case round =>
      obtain⟨j,hj,rfl,hall,hbw⟩:=hrel;have HBR:Hid (Below w.heap.size w wr):=hbw;clear hbw;by_cases hlt:j<m.cons.length
      ·obtain⟨c,hc⟩:∃c,m.cons[j]? = some c:=⟨m.cons[j],by simp[hlt]⟩
       have HCC:Hid (m.cons[j]? = some c):=hc;obtain⟨b,off,vv,vc,vr,vl,ha,hb,f0,f1,f2,f3,f4,f5,hka⟩:=HC.out j c hc;subst ha;have e0:=(HBR.out.cell (p:=⟨b,off+j * 6,none⟩) hb).trans f0;have e1:=(HBR.out.cell (p:=⟨b,off+j * 6+1,none⟩) hb).trans f1;have e2:=(HBR.out.cell (p:=⟨b,off+j * 6+2,none⟩) hb).trans f2;have e3:=(HBR.out.cell (p:=⟨b,off+j * 6+3,none⟩) hb).trans f3;have e4:=(HBR.out.cell (p:=⟨b,off+j * 6+4,none⟩) hb).trans f4;have e5:=(HBR.out.cell (p:=⟨b,off+j * 6+5,none⟩) hb).trans f5;have HK:Hid (KArg wr vv vc vr vl c):=KArg.below HBR.out hka;have HCE:Hid (conE vals.length c=0):=by rw[HL.out];exact zKw m HER.out j c hc
       obtain⟨⟨q1,r1,rfl,_,_⟩,⟨q2,r2,rfl,_,_⟩,⟨q3,r3,rfl,_,_⟩,⟨q4,r4,rfl,_,_⟩⟩:=hka;clear hc f0 f1 f2 f3 f4 f5 hb;cases hq:zA0 c vals
       ·have HN:Hid (R=(false,0)):=by rw[HE3.out,zCC (fun c=>zA0 c vals) m.cons j c HCC.out hq];rfl
        go_wp2_with fail
        refine (zHs c vals _ _ _ _ _ _ (KArg.below (zAA _ _) HK.out) (HVA.out _ (HBR.out.trans ((zAA _ _).mono HBR.out.size))) HCE.out HBD.out).mono ?_;rintro e w2 ⟨rfl,hb2⟩;rw[hq];have hb3:Below w.heap.size w w2:=(HBR.out.trans ((zAA _ _).mono HBR.out.size)).trans (hb2.mono (by have:=HBR.out.size;simp;omega))
        clear hb2 hq;go_wp2
        go_ret2
        exact⟨by rw[HN.out];rfl,hb3⟩
       ·have HN:Hid ((m.cons.take (j+1)).all (fun c=>zA0 c vals)=true):=zBr (fun c=>zA0 c vals) m.cons j c HCC.out hall.out hq
        go_wp2_with fail
        refine (zHs c vals _ _ _ _ _ _ (KArg.below (zAA _ _) HK.out) (HVA.out _ (HBR.out.trans ((zAA _ _).mono HBR.out.size))) HCE.out HBD.out).mono ?_;rintro e w2 ⟨rfl,hb2⟩;rw[hq];have hb3:Below w.heap.size w w2:=(HBR.out.trans ((zAA _ _).mono HBR.out.size)).trans (hb2.mono (by have:=HBR.out.size;simp;omega))
        clear hb2 hq;go_wp2
        go_roundw
        case rel=>exact⟨j+1,by omega,by go_num,HN,hb3⟩
        case measure=>simp[intOf];omega
      ·have HN:Hid (R=(true,0)):=by rw[HE3.out,zCd _ m.cons j hlt hall.out];rfl
       go_wp2
       go_ret2
       exact⟨by rw[HN.out];rfl,HBR.out⟩
  ·have g0:((vals.length:Int) != (m.vars.length:Int))=true:=by simp;omega
   have HN:Hid (R=(false,1)):=by rw[HE.out,if_pos rfl,if_neg hl];rfl
   clear hl;go_wp2
   go_ret2
   exact⟨by rw[HN.out];rfl,HB1.out⟩
 ·have HN:Hid (R=(false,er)):=by rw[HE.out,if_neg he];rfl
  have he2:(er != 0)=true:=by simpa using he
  clear he;go_wp2
  go_ret2
  exact⟨by rw[HN.out];rfl,HB1.out⟩
open Go.RowKit Go.Maps
def zFW (m:Mod) (vals:List Int):List Cla×Int:=if vals.length=0 then ([],0) else if (zBg m vals).2=0 then ([(zBg m vals).1],0) else ([],(zBg m vals).2)
theorem zQ0 (w:World) (x:Value) (cl:Cla) (B:Nat) (hB:B=w.heap.size) (h:LArg w x cl):zFA (w.alloc (.cells #[x] 38)) (.slice (some ⟨B,0,none⟩) 1 1) [cl]:=by
 subst hB;refine⟨_,1,rfl,⟨Nat.le_refl _,by unfold maxLen;omega⟩,fun i c hc=>?_⟩
 match i,hc with
 | 0,hc =>
   cases hc
   exact⟨_,0,x,rfl,by simp,World.cell?_alloc_at _ _ _ 0 (by simp),LArg.below (zAA _ _) h⟩
theorem zLs (w:World):zFA w (.slice none 0 0) []:=⟨none,0,rfl,⟨Nat.le_refl _,Nat.zero_le _⟩,fun i z hz=>by simp at hz⟩
theorem zQ1 (m:Mod) (vals:List Int) (vs cs v:Value) (w:World) (hma:MArg w vs cs m) (hv:IArg w v vals) :
 Calls Tryz.prog 66 #[modV vs cs m,v] w fun e w'=>∃x,e=.returned (.tuple #[x,.int .i64 (zFW m vals).2])∧zFA w' x (zFW m vals).1∧Below w.heap.size w w':=by
 have HMA:Hid (∀w',Below w.heap.size w w'→MArg w' vs cs m):=fun w' h=>MArg.below h hma
 have HV:Hid (∀w',Below w.heap.size w w'→IArg w' v vals):=fun w' h=>IArg.below h hv
 obtain⟨⟨a1,c1,rfl,_,_⟩,⟨a2,c2,rfl,_,_⟩⟩:=hma;obtain⟨av,cv,rfl,_,_⟩:=hv;obtain⟨R,hR⟩:∃R,zFW m vals=R:=⟨_,rfl⟩;rw[hR];unfold zFW at hR;unfold modV;by_cases h0:vals.length=0
 ·rw[if_pos h0] at hR
  have HN:Hid ((([]:List Cla),(0:Int))=R):=hR;have hv0:vals=[]:=List.length_eq_zero_iff.1 h0;subst hv0;clear hR h0;go_enter Tryz.func66,Tryz.ntmps66
  go_wp2
  go_ret2
  rw[←HN.out];exact⟨_,rfl,zLs _,zAA _ _⟩
 ·rw[if_neg h0] at hR
  have hv1:¬(vals.length:Int)=0:=by omega
  have hv2:¬vals=[]:=fun h=>by rw[h] at h0;exact h0 rfl
  have hv3:((vals.length:Int)==0)=false:=by simpa using hv2
  have HR:=(show Hid _ from hR)
  obtain⟨⟨BC,BE⟩,hB⟩:∃B,zBg m vals=B:=⟨_,rfl⟩;have HB:Hid (zBg m vals=(BC,BE)):=hB;rw[hB] at HR;clear hR h0 hB;go_enter Tryz.func66,Tryz.ntmps66
  go_wp2_with fail
  have hbY:Below w.heap.size w (w.alloc (.cells #[.slice a1 m.vars.length c1,.slice a2 m.cons.length c2,.int .i64 m.goal,.int .i64 m.var] 25)):=zAA _ _;refine (zIW m vals (.slice a1 m.vars.length c1) (.slice a2 m.cons.length c2) _ _ (HMA.out _ hbY) (HV.out _ hbY)).mono ?_;rintro e w1 ⟨x,rfl,hx,hb1⟩;rw[HB.out] at hx ⊢
  dsimp only at hx ⊢
  have HBL:Hid (Below w.heap.size w w1):=hbY.trans (hb1.mono (by simp))
  have HX:Hid (LArg w1 x BC):=hx.arg;obtain⟨ax,cx,rfl⟩:=zAB (show w1.ownsRow _ _ _ _ _ _ from hx)
  clear hx hb1 hbY;by_cases he:BE=0
  ·have hR:=HR.out
   rw[if_pos he] at hR;have HN:Hid (([BC],(0:Int))=R):=hR;subst he;clear hR HR;go_wp2
   go_ret2
   rw[←HN.out];exact⟨_,rfl,zQ0 w1 _ BC _ rfl HX.out,HBL.out.alloc HBL.out.size _⟩
  ·have hR:=HR.out
   rw[if_neg he] at hR;have HN:Hid ((([]:List Cla),BE)=R):=hR;have he':(BE != 0)=true:=by simpa using he
   clear hR HR he;go_wp2
   go_ret2
   rw[←HN.out];exact⟨_,rfl,zLs _,HBL.out⟩
def zDo (s:ByteArray) (vals:List Int) (l:List MStep):Bool×Int:=if (zAy s).2.2=0 then zET (zAy s).1 vals l else (false,(zAy s).2.2)
theorem zKd (m:Mod) (vals:List Int) (l:List MStep):zET m vals l=if (zFW m vals).2=0 then (if (zBR m (zFW m vals).1 l).1=true∧vals.length≠0 then allA m vals else zBR m (zFW m vals).1 l) else (false,(zFW m vals).2):=by
 unfold zET zFW;by_cases h0:vals.length=0
 ·rw[if_pos h0,if_pos h0,if_pos rfl,if_neg (fun h=>h.2 h0)]
 ·rw[if_neg h0,if_neg h0]
  by_cases hb:(zBg m vals).2=0
  ·rw[if_pos hb,if_pos hb,if_pos rfl]
   simp only;cases hp:(zBR m [(zBg m vals).1] l).1
   ·rw[if_neg (by decide),if_neg (fun h=>by cases h.1)]
   ·rw[if_pos rfl,if_pos ⟨rfl,h0⟩]
  ·rw[if_neg hb,if_neg hb,if_neg hb]
theorem zPG (s:ByteArray) (hs:s.size≤maxLen) (vals:List Int) (l:List MStep) (v u:Value) (w:World) (hv:IArg w v vals) (hu:zHc w u l) (hT:TabT w) :
 Calls Tryz.prog 25 #[.string s,v,u] w fun e w'=>e=.returned (.tuple #[.bool (zDo s vals l).1,.int .i64 (zDo s vals l).2])∧Below w.heap.size w w':=by
 have HV:Hid (∀w',Below w.heap.size w w'→IArg w' v vals):=fun w' h=>IArg.below h hv
 have HU:Hid (∀w',Below w.heap.size w w'→zHc w' u l):=fun w' h=>zHc.below h hu
 have HT:Hid (∀w',Below w.heap.size w w'→TabT w'):=fun w' h=>hT.below h
 have HS:Hid (s.size≤maxLen):=hs;obtain⟨av,cv,rfl,_,_⟩:=hv;obtain⟨au,cu,rfl,_,_⟩:=hu;obtain⟨R,hR⟩:∃R,zDo s vals l=R:=⟨_,rfl⟩;rw[hR];unfold zDo at hR;obtain⟨⟨m,at0,er⟩,hp⟩:∃P,zAy s=P:=⟨_,rfl⟩;have HP:Hid (zAy s=(m,at0,er)):=hp;rw[hp] at hR;have HR:Hid ((if er=0 then zET m vals l else (false,er))=R):=hR
 clear hR hp hT hs;go_enter Tryz.func25,Tryz.ntmps25
 go_wp2_with fail
 refine (zLr s HS.out _).mono ?_;rintro e w1 ⟨vs,cs,rfl,hm1,hb1⟩;rw[HP.out] at hm1 ⊢
 dsimp only at hm1 ⊢
 have HMA:Hid (∀w',Below w1.heap.size w1 w'→MArg w' vs cs m):=fun w' h=>MArg.below h hm1.marg
 have HB1:Hid (Below w.heap.size w w1):=hb1;obtain⟨⟨a1,c1,rfl,_,_⟩,⟨a2,c2,rfl,_,_⟩⟩:=hm1.marg;unfold modV;clear hm1 hb1;by_cases he:er=0
 ·have hR:=HR.out
  rw[if_pos he,zKd] at hR;subst he;have HR2:=(show Hid _ from hR)
  clear hR HR;obtain⟨⟨GL,GE⟩,hG⟩:∃G,zFW m vals=G:=⟨_,rfl⟩;have HG:Hid (zFW m vals=(GL,GE)):=hG;rw[hG] at HR2;clear hG;go_wp2_with fail
  have hbY:Below w1.heap.size w1 (w1.alloc (.cells #[.slice a1 m.vars.length c1,.slice a2 m.cons.length c2,.int .i64 m.goal,.int .i64 m.var] 25)):=zAA _ _;have hblY:=heap_alloc_new w1 (.cells #[.slice a1 m.vars.length c1,.slice a2 m.cons.length c2,.int .i64 m.goal,.int .i64 m.var] 25);refine (zQ1 m vals (.slice a1 m.vars.length c1) (.slice a2 m.cons.length c2) _ _ (HMA.out _ hbY) (HV.out _ (HB1.out.trans (hbY.mono HB1.out.size)))).mono ?_;rintro e w2 ⟨x,rfl,hx,hb2⟩;rw[HG.out] at hx ⊢
  dsimp only at hx ⊢
  have HQ2:Hid (w2.heap[w1.heap.size]? = some (.cells #[.slice a1 m.vars.length c1,.slice a2 m.cons.length c2,.int .i64 m.goal,.int .i64 m.var] 25)):=(hb2.block _ (by simp)).trans hblY
  have HB12:Hid (Below w1.heap.size w1 w2):=hbY.trans (hb2.mono (by simp))
  have HB2:Hid (Below w.heap.size w w2):=HB1.out.trans (HB12.out.mono HB1.out.size);have HX:Hid (zFA w2 x GL):=hx;obtain⟨ax,cx,rfl,_,_⟩:=hx;clear hb2 hbY hblY;have k0:=blk9 HQ2.out 0 _ rfl;have k1:=blk9 HQ2.out 1 _ rfl;have k2:=blk9 HQ2.out 2 _ rfl;have k3:=blk9 HQ2.out 3 _ rfl;have kl:=(Array.getElem?_eq_some_iff.1 HQ2.out).1;by_cases hge:GE=0
  ·have hR:=HR2.out
   rw[if_pos hge] at hR;subst hge;have HR3:=(show Hid _ from hR)
   clear hR HR2;obtain⟨⟨PB,PE⟩,hPC⟩:∃P,zBR m GL l=P:=⟨_,rfl⟩;have HPC:Hid (zBR m GL l=(PB,PE)):=hPC;rw[hPC] at HR3;clear hPC;go_wp2_with fail
   refine (zOm m GL l (.slice a1 m.vars.length c1) (.slice a2 m.cons.length c2) _ _ w2 (HMA.out _ HB12.out) HX.out (HU.out _ HB2.out) (HT.out _ HB2.out)).mono ?_;rintro e w3 ⟨rfl,hb3⟩;rw[HPC.out]
   dsimp only
   have HQ3:Hid (w3.heap[w1.heap.size]? = some (.cells #[.slice a1 m.vars.length c1,.slice a2 m.cons.length c2,.int .i64 m.goal,.int .i64 m.var] 25)):=(hb3.block _ kl).trans HQ2.out;have HB13:Hid (Below w1.heap.size w1 w3):=HB12.out.trans (hb3.mono HB12.out.size);have HB3:Hid (Below w.heap.size w w3):=HB1.out.trans (HB13.out.mono HB1.out.size);clear hb3 k0 k1 k2 k3 kl;have k0:=blk9 HQ3.out 0 _ rfl;have k1:=blk9 HQ3.out 1 _ rfl;have k2:=blk9 HQ3.out 2 _ rfl;have k3:=blk9 HQ3.out 3 _ rfl;have kl:=(Array.getElem?_eq_some_iff.1 HQ3.out).1;cases PB
   ·have hR:=HR3.out
    rw[if_neg (fun h=>by cases h.1)] at hR
    have HN:Hid ((false,PE)=R):=hR;clear hR HR3;go_wp2
    go_ret2
    rw[←HN.out];exact⟨rfl,HB3.out⟩
   ·by_cases h0:vals.length=0
    ·have hR:=HR3.out
     rw[if_neg (fun h=>h.2 h0)] at hR
     have HN:Hid ((true,PE)=R):=hR;have hv0:vals=[]:=List.length_eq_zero_iff.1 h0;subst hv0;clear hR HR3 h0;go_wp2
     go_ret2
     rw[←HN.out];exact⟨rfl,HB3.out⟩
    ·have hR:=HR3.out
     rw[if_pos ⟨rfl,h0⟩] at hR;have HN:Hid (allA m vals=R):=hR;have hv1:¬(vals.length:Int)=0:=by omega
     have hv2:¬vals=[]:=fun h=>by rw[h] at h0;exact h0 rfl
     have hv3:((vals.length:Int)==0)=false:=by simpa using hv2
     clear hR HR3 h0;go_wp2_with fail
     refine (zSj m vals (.slice a1 m.vars.length c1) (.slice a2 m.cons.length c2) _ w3 (HMA.out _ HB13.out) (HV.out _ HB3.out)).mono ?_;rintro e w4 ⟨rfl,hb4⟩;rw[HN.out];have HB4:Hid (Below w.heap.size w w4):=HB3.out.trans (hb4.mono HB3.out.size);clear hb4;go_wp2
     go_ret2
     exact⟨rfl,HB4.out⟩
  ·have hR:=HR2.out
   rw[if_neg hge] at hR;have HN:Hid ((false,GE)=R):=hR;have he':(GE != 0)=true:=by simpa using hge
   clear hR HR2 hge;go_wp2
   go_ret2
   rw[←HN.out];exact⟨rfl,HB2.out⟩
 ·have hR:=HR.out
  rw[if_neg he] at hR;have HN:Hid ((false,er)=R):=hR;have he':(er != 0)=true:=by simpa using he
  clear hR HR he;go_wp2
  go_ret2
  rw[←HN.out];exact⟨rfl,HB1.out.alloc HB1.out.size _⟩
theorem zPH (B b:Nat) (l:List UInt8) (w:World) (h:Lib.IsBuilderF 150 5 B b (Lib.byteCells l) w) (hBw:B≤w.heap.size) :
 Calls Tryz.prog 112 #[.pointer (some ⟨b,0,none⟩)] w fun e w'=>e=.returned (.string ⟨l.toArray⟩)∧(Lib.IsBuilderF 150 5 B b (Lib.byteCells l) w'∧Below B w w'∧Lib.OthersKept 5 (some b) w w') :=
 Any.Builder_String_any_k Tryz.lays169 Tryz.Builder_Extra_169 B b l w h hBw
theorem zJG (b:Nat) (w:World) (h0:w.cell? ⟨b,0,none⟩=some (.pointer (some ⟨b,0,none⟩))) :
 Calls Tryz.prog 162 #[.pointer (some ⟨b,0,none⟩)] w fun e w'=>e=.returned (.tuple #[])∧w'=w:=by
 obtain⟨j,hj,_⟩:=Option.map_eq_some_iff.1 Tryz.Builder_Extra_169.sizeBuilder;go_enter Tryz.func162,Tryz.ntmps162
 go_wp2
 rw[Lib.run_neq_ptr_same w _ Tryz.underlying148 hj];go_wp2
 go_end0
 exact⟨rfl,rfl⟩
theorem zIo (b:Nat) (w:World) (h0:w.cell? ⟨b,0,none⟩=some (.pointer none)) (hsh:w.shape? b=some (150,2)) (hfz:w.frozen? ⟨b,0,none⟩=false) :
 Calls Tryz.prog 162 #[.pointer (some ⟨b,0,none⟩)] w fun e w'=>e=.returned (.tuple #[])∧w'=w.setCell ⟨b,0,none⟩ (.pointer (some ⟨b,0,none⟩)):=by
 obtain⟨j,hj,hjs⟩:=Option.map_eq_some_iff.1 Tryz.Builder_Extra_169.sizeBuilder;go_enter Tryz.func162,Tryz.ntmps162
 go_wp2
 rw[Lib.run_to_unsafe w ⟨b,0,none⟩ Tryz.underlying148 Tryz.underlying269 hj (by rw[hjs];decide) hsh (Nat.zero_lt_succ 1)]
 simp only[Result.andThen];rw[Oper.upon_value];go_wp2
 rw[run_callFunc_extern Tryz.func228 (by kernel_rfl) (by kernel_rfl) (by kernel_rfl) (e:=Extern.AbiNoEscape.same) (by kernel_rfl)]
 rw[Lib.run_noEscape];simp only[Result.andThen];rw[Oper.upon_value];go_wp2
 rw[Lib.run_from_unsafe w ⟨b,0,none⟩ Tryz.underlying269 Tryz.underlying148 hj hsh Tryz.Builder_Extra_169.liesBuilder];simp only[Result.andThen];rw[Oper.upon_value];go_wp2
 go_end0
 exact⟨rfl,rfl⟩
theorem zQ2 (B b:Nat) (bs:List Value) (w:World) (h:Lib.IsBuilderF 150 5 B b bs w) :
 Calls Tryz.prog 162 #[.pointer (some ⟨b,0,none⟩)] w fun e w'=>e=.returned (.tuple #[])∧(Lib.BuilderAtF 150 5 B b (.pointer (some ⟨b,0,none⟩)) bs w'∧Below B w w'∧Lib.OthersKept 5 (some b) w w'):=by
 rcases h with h | h
 ·refine (zIo b w h.cell0 h.shape h.frozen0).mono ?_
  rintro e w' ⟨rfl,rfl⟩;exact⟨rfl,h.used _,(Below.refl B w).setCell (p:=⟨b,0,none⟩) h.1 _,(Lib.OthersKept.refl _ _ w).setCell ⟨b,0,none⟩ rfl _⟩
 ·refine (zJG b w h.cell0).mono ?_
  rintro e w' ⟨rfl,rfl⟩;exact⟨rfl,h,Below.refl B _,Lib.OthersKept.refl _ _ _⟩
theorem zQ3 (B b:Nat) (bs:List Value) (s:ByteArray) (w:World) (h:Lib.IsBuilderF 150 5 B b bs w) (hlen:bs.length+s.size≤140737488355328) (hBw:B≤w.heap.size) :
 Calls Tryz.prog 110 #[.pointer (some ⟨b,0,none⟩),.string s] w fun e w'=>e=.returned (.tuple #[.int .i64 s.size,.nilIface])∧(Lib.BuilderAtF 150 5 B b (.pointer (some ⟨b,0,none⟩)) (bs++Lib.strCells s) w'∧Below B w w'∧Lib.OthersKept 5 (some b) w w'):=by
 obtain⟨i0,hi,hz0,hz1,hz2⟩:=info_parts Tryz.Builder_Extra_169.infoByte;go_enter Tryz.func110,Tryz.ntmps110
 go_wp2_with fail
 refine (zQ2 B b bs _ h).mono ?_;rintro e w1 ⟨rfl,h1,hb1,hk1⟩;obtain⟨hB,v,hbk,hown,hne⟩:=h1;have c0:w1.cell? ⟨b,0,none⟩=some (.pointer (some ⟨b,0,none⟩)):=by rw[Lib.cell_of_heap hbk];rfl
 have c1:w1.cell? ⟨b,1,none⟩=some v:=by rw[Lib.cell_of_heap hbk];rfl
 go_wp2_with (at_builtin;refine Lib.wpList_append_own_stringF _ rfl _ _ 107 9 rfl B 5 i0 Tryz.underlying107 Tryz.underlying9 hi hz0 hz1 hz2 _ _ _ rfl hown s rfl ?c3 ?c4 ?c5 ?_)
 case c3=>unfold maxLen;omega
 case c4=>omega
 case c5=>have:=hb1.size;omega
 intro v' w2 hown' hgrow _;have hlt:b<w1.heap.size:=by
  rcases Nat.lt_or_ge b w1.heap.size with h' | h'
  ·exact h'
  ·simp[Array.getElem?_eq_none h'] at hbk
 have hb2:w2.heap[b]? = some (.cells #[.pointer (some ⟨b,0,none⟩),v] 150 (0,0)):=by
  rw[hgrow.block b hlt (fun e=>hne e.symm)]
  exact hbk
 have d0:w2.cell? ⟨b,0,none⟩=some (.pointer (some ⟨b,0,none⟩)):=by rw[Lib.cell_of_heap hb2];rfl
 have d1:w2.cell? ⟨b,1,none⟩=some v:=by rw[Lib.cell_of_heap hb2];rfl
 have f1:w2.frozen? ⟨b,1,none⟩=false:=Lib.frozen_of_heap hb2 1;obtain⟨ao,n',cap,rfl⟩:∃ao n' cap,v'=.slice ao n' cap:=by
  rcases hown'.2 with ⟨hv,_⟩ | ⟨g,cap,cur,fz,hv,_⟩
  ·exact⟨_,_,_,hv⟩
  ·exact⟨_,_,_,hv⟩
 go_wp2
 go_ret2
 refine⟨rfl,?_,?_,(hk1.grown hgrow (Lib.ownsRowF_kind hown)).setCell ⟨b,1,none⟩ rfl _⟩
 ·exact Lib.BuilderAtF.put (T:=150) (e:=5) hB hb2 (bs':=bs++Lib.strCells s) (by simpa[Lib.strCells_length] using hown') Tryz.Builder_Extra_169.neB5
 ·exact (hb1.grown hgrow (by have:=hb1.size;omega) (fun k hk=>(hown.lt k hk).1)).setCell (p:=⟨b,1,none⟩) hB _
end Go.Proofs.YtdjbejlbmaiocagGreatDoor
