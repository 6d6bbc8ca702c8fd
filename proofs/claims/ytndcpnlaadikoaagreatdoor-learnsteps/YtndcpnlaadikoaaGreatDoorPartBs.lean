/- What the proof leans on, part 45. -/
import Derived.Test.YtndcpnlaadikoaaGreatDoorPartBd
import Derived.Test.YtndcpnlaadikoaaGreatDoorPartBr
import Derived.Test.YtndcpnlaadikoaaGreatDoorPartAi
import Derived.Test.YtndcpnlaadikoaaGreatDoorPartAs
import Derived.Test.YtndcpnlaadikoaaGreatDoorPartBa
namespace Go.Proofs.YtndcpnlaadikoaaGreatDoor
open Go.RowKit
theorem zIK (m:Mod):∀(l:List MStep) (A:List Nat),(∀s∈l,∀B,zCp m B s=true)→zBb m A l=true
 | [],_,_=>rfl
 | s :: r,A,h=>by
   unfold zBb
   rw[h s (List.mem_cons_self ..) A,zIK m r _ fun t ht=>h t (List.mem_cons_of_mem _ ht)]
   rfl
theorem zJA (m:Mod) (hm:zAP m=0) (cs:List Nat) (c:Cla) (hc:claE m.vars c=0) (hz:zBL m.vars cs (ptsM m) c=true) :
 zBb m cs (zB7 m.vars cs (ptsM m) c)=true∧(∀s∈zB7 m.vars cs (ptsM m) c,claE m.vars s.cla=0)∧∀s∈zB7 m.vars cs (ptsM m) c,s.kind=1→0≤s.con∧s.con<(m.cons.length:Int):=by
 have hv:=zBt m hm
 unfold zBL at hz
 have he:=zFy m.vars hv cs (ptsM m) (zAF m.vars c) (by simpa using hz)
 have hl:=zDG (zB3 m.vars cs (zAF m.vars c)) (zAf m.vars cs (ptsM m) (zAF m.vars c)).length (zAf m.vars cs (ptsM m) (zAF m.vars c)) he
 unfold zB7
 generalize hL:zAq (zB3 m.vars cs (zAF m.vars c)) (zAf m.vars cs (ptsM m) (zAF m.vars c)).length (zAf m.vars cs (ptsM m) (zAF m.vars c))=L at hl ⊢
 have hmem:∀x∈L,x∈zAf m.vars cs (ptsM m) (zAF m.vars c):=fun x hx=>by rw[←hL] at hx;exact zEC _ x _ _ hx
 have hmap:L.map (·.2)=(L.map (·.1)).map fun t=>zAF m.vars t.cla:=by
  rw[List.map_map]
  refine List.map_congr_left fun x hx=>?_
  obtain⟨k,kc,_,_,_,h4,_⟩:=zBF m hm cs _ x (hmem x hx)
  exact h4
 refine⟨?_,?_,?_⟩
 ·rw[zGb,zIK m _ _ fun s hs B=>?_]
  ·unfold zCp
   rw[if_neg (show ¬((2:Int)=1) by decide),if_pos ⟨rfl,rfl⟩,←hmap]
   exact hl
  ·obtain⟨x,hx,rfl⟩:=List.mem_map.1 hs
   obtain⟨k,kc,h1,h2,h3,h4,h5⟩:=zBF m hm cs _ x (hmem x hx)
   unfold zCp
   rw[if_pos h2,h3,Int.toNat_natCast,List.getD_eq_getElem?_getD,h1,←h4]
   exact h5
 ·intro s hs
  rcases List.mem_append.1 hs with hs | hs
  ·obtain⟨x,hx,rfl⟩:=List.mem_map.1 hs
   exact (zHB m hm cs _ x (hmem x hx)).1
  ·rw[List.mem_singleton.1 hs];exact hc
 ·intro s hs hk
  rcases List.mem_append.1 hs with hs | hs
  ·obtain⟨x,hx,rfl⟩:=List.mem_map.1 hs
   obtain⟨k,kc,h1,h2,h3,h4,h5⟩:=zBF m hm cs _ x (hmem x hx)
   have:=(List.getElem?_eq_some_iff.1 h1).1
   rw[h3];omega
  ·rw[List.mem_singleton.1 hs] at hk;cases hk
theorem zIL (m:Mod) (l:List Cla) (d:Cla):(zBS m l d).2.1=(zAL m l d).2.1∧(zBS m l d).2.2=(zAL m l d).2.2∧((zAL m l d).2.1=false→(zBS m l d).1=[]):=by
 unfold zBS
 cases h:(zAL m l d).2.1
 ·exact⟨rfl,rfl,fun _=>rfl⟩
 ·exact⟨rfl,(zC3 m l d h).2.2.1.symm,fun h=>by cases h⟩
theorem zHC (m:Mod) (l:List Cla) (d:Cla) (h:(zAL m l d).2.2≠0):(zAL m l d).2.1=false:=by
 cases h1:(zAL m l d).2.1
 ·rfl
 ·exact absurd (zC3 m l d h1).2.2.1 h
theorem zL2 {base:Nat} {w:World} {v:Value} {L:List SV} (h:zCC base w v L) (hs:v=.slice none 0 0∨0<L.length):zEM w v (L.map (·.1)):=by
 rcases hs with rfl | hs
 ·have hL:L=[]:=by
   rcases h.1.2 with ⟨_,hn⟩ | ⟨g,cap,cur,hv,_⟩
   ·exact List.eq_nil_of_length_eq_zero hn
   ·cases hv
  subst hL
  exact⟨none,0,rfl,⟨Nat.le_refl _,Nat.zero_le _⟩,fun i z hz=>by simp at hz⟩
 ·obtain⟨g,cc,rfl,h1,h2,_⟩:=zDT h 0 L[0] (by simp[hs])
  refine⟨_,cc,by rw[List.length_map],⟨by rw[List.length_map];exact h1,h2⟩,fun i t ht=>?_⟩
  rw[List.getElem?_map] at ht
  obtain⟨x,hx,rfl⟩:=Option.map_eq_some_iff.1 ht
  obtain⟨g',cc',hv,_,_,k1,k2,k3,k4⟩:=zDT h i x hx
  cases hv
  exact⟨g,0,x.2,rfl,k1,by rw[Nat.zero_add];exact k2,by rw[Nat.zero_add];exact k3,by rw[Nat.zero_add];exact k4,(h.2 x (List.mem_of_getElem? hx)).arg⟩
set_option maxHeartbeats 6400000 in
set_option maxRecDepth 100000 in
theorem zKn (m:Mod) (l:List Cla) (d:Cla) (vs cs ul ud:Value) (w:World) (hma:MArg w vs cs m) (hul:zA8 w ul l) (hud:LArg w ud d) (hT:TabT w) :
 Calls Tryz.prog 3 #[modV vs cs m,ul,ud] w fun e w'=>e=.returned (.bool true)∧Below w.heap.size w w':=by
 have HMA:Hid (∀w',Below w.heap.size w w'→MArg w' vs cs m):=fun w' h=>MArg.below h hma
 have HL:Hid (∀w',Below w.heap.size w w'→zA8 w' ul l):=fun w' h=>zA8.below h hul
 have HD:Hid (∀w',Below w.heap.size w w'→LArg w' ud d):=fun w' h=>LArg.below h hud
 have HT:Hid (∀w',Below w.heap.size w w'→TabT w'):=fun w' h=>hT.below h
 obtain⟨⟨a1,c1,rfl,_,_⟩,⟨a2,c2,rfl,_,_⟩⟩:=hma
 obtain⟨a3,c3,rfl,_,_⟩:=hul
 obtain⟨a4,c4,rfl,_,_⟩:=hud
 unfold modV
 clear hT
 obtain⟨hp1,hp2,hp3⟩:=zIL m l d
 have HWR:Hid ((zAL m l d).2.2≠0→(zAL m l d).2.1=false):=zHC m l d
 have HPA:Hid ((zAL m l d).2.1=true→zAP m=0∧zDz m.vars l=0∧zBS m l d=(zB7 m.vars (l.map (zAF m.vars)) (ptsM m) (zAL m l d).1,true,0)∧zBb m (l.map (zAF m.vars)) (zB7 m.vars (l.map (zAF m.vars)) (ptsM m) (zAL m l d).1)=true∧(∀s∈zB7 m.vars (l.map (zAF m.vars)) (ptsM m) (zAL m l d).1,claE m.vars s.cla=0)∧∀s∈zB7 m.vars (l.map (zAF m.vars)) (ptsM m) (zAL m l d).1,s.kind=1→0≤s.con∧s.con<(m.cons.length:Int)):=fun h=>by
  obtain⟨k0,k1,_,k3,k4⟩:=zC3 m l d h
  obtain⟨g1,g2,g3⟩:=zJA m k0 _ _ k3 k4
  exact⟨k0,k1,by unfold zBS;rw[h];rfl,g1,g2,g3⟩
 obtain⟨R,hR⟩:∃R,zAL m l d=R:=⟨_,rfl⟩
 have HR:Hid (zAL m l d=R):=hR
 rw[hR] at hp1 hp2 hp3 HWR HPA
 obtain⟨C,B1,E1⟩:=R
 dsimp only at hp1 hp2 hp3 HWR HPA
 obtain⟨P,B2,E2,hQ⟩:∃P B2 E2,zBS m l d=(P,B2,E2):=⟨_,_,_,rfl⟩
 have HQS:Hid (zBS m l d=(P,B2,E2)):=hQ
 rw[hQ] at hp1 hp2 hp3 HPA
 dsimp only at hp1 hp2 hp3
 subst hp1 hp2
 have HP3:Hid (B2=false→P=[]):=hp3
 clear hR hQ hp3
 go_enter Tryz.func3,Tryz.ntmps3
 go_wp2_with fail
 have HB0:Hid (Below w.heap.size w (w.alloc (.cells #[.slice a1 m.vars.length c1,.slice a2 m.cons.length c2,.int .i64 m.goal,.int .i64 m.var] 25))):=zAA _ _
 have HN:Hid ((w.alloc (.cells #[.slice a1 m.vars.length c1,.slice a2 m.cons.length c2,.int .i64 m.goal,.int .i64 m.var] 25)).heap[w.heap.size]? = some (.cells #[.slice a1 m.vars.length c1,.slice a2 m.cons.length c2,.int .i64 m.goal,.int .i64 m.var] 25)):=heap_alloc_new _ _
 obtain⟨W,hW⟩:∃W,w.alloc (.cells #[.slice a1 m.vars.length c1,.slice a2 m.cons.length c2,.int .i64 m.goal,.int .i64 m.var] 25)=W:=⟨_,rfl⟩
 rw[hW] at HB0 HN ⊢
 clear hW
 have HQ:Hid (∀Y,Below W.heap.size W Y→w.heap.size<Y.heap.size∧Y.cell? ⟨w.heap.size,0,none⟩=some (.slice a1 m.vars.length c1)∧Y.cell? ⟨w.heap.size,1,none⟩=some (.slice a2 m.cons.length c2)∧Y.cell? ⟨w.heap.size,2,none⟩=some (.int .i64 m.goal)∧Y.cell? ⟨w.heap.size,3,none⟩=some (.int .i64 m.var)):=fun Y hY=>by
  have h:=(hY.block _ (Array.getElem?_eq_some_iff.1 HN.out).1).trans HN.out
  exact⟨(Array.getElem?_eq_some_iff.1 h).1,blk9 h 0 _ rfl,blk9 h 1 _ rfl,blk9 h 2 _ rfl,blk9 h 3 _ rfl⟩
 have HTO:Hid (∀Y,Below W.heap.size W Y→Below w.heap.size w Y):=fun Y hY=>HB0.out.trans (hY.mono HB0.out.size)
 clear HN
 refine (zFc m l d _ _ _ _ W (HMA.out _ HB0.out) (HL.out _ HB0.out) (HD.out _ HB0.out) (HT.out _ HB0.out)).mono ?_
 rintro e w1 ⟨y,rfl,hy,hb1⟩
 rw[HR.out] at hy ⊢
 dsimp only at hy ⊢
 have HB1:Hid (Below W.heap.size W w1):=hb1
 have HY:Hid (∀w',Below w1.heap.size w1 w'→LArg w' y C):=fun w' h=>LArg.below h hy.arg
 obtain⟨a6,c6,hye⟩:=zAE (show w1.ownsRow _ _ _ _ _ _ from hy)
 subst hye
 clear hy hb1
 obtain⟨lq,k0,k1,k2,k3⟩:=HQ.out _ HB1.out
 go_wp2_with fail
 refine (zGP m l d _ _ _ _ w1 (HMA.out _ (HTO.out _ HB1.out)) (HL.out _ (HTO.out _ HB1.out)) (HD.out _ (HTO.out _ HB1.out)) (HT.out _ (HTO.out _ HB1.out))).mono ?_
 rintro e w2 ⟨z,L,rfl,hmp,hso,hl15,hb2⟩
 rw[HQS.out] at hmp ⊢
 dsimp only at hmp ⊢
 have HMP:Hid (L.map (·.1)=P):=hmp
 have HSO:Hid (zCC w1.heap.size w2 z L):=hso
 have HB12:Hid (Below w1.heap.size w1 w2):=hb2
 have HB2:Hid (Below W.heap.size W w2):=HB1.out.trans (hb2.mono HB1.out.size)
 obtain⟨az,cz,hze⟩:=zAE hso.1
 subst hze
 clear k0 k1 k2 k3 lq hb2 hmp hso
 go_wp2_with fail
 refine (zIz w2 (HT.out _ (HTO.out _ HB2.out))).mono ?_
 rintro e w3 ⟨rfl,hb3⟩
 have HB23:Hid (Below w2.heap.size w2 w3):=hb3
 have HB3:Hid (Below W.heap.size W w3):=HB2.out.trans (hb3.mono HB2.out.size)
 clear hb3
 by_cases hE:E2=0
 ·subst hE
  cases B2
  ·have HL0:Hid (L.length=0):=by
    show _=_
    rw[←List.length_map (f:=(·.1)),HMP.out,HP3.out rfl];rfl
   have t0:((L.length:Int)==0)=true:=by rw[HL0.out];rfl
   go_wp2
   go_ret
   exact⟨rfl,HTO.out _ HB3.out⟩
  ·obtain⟨hm0,hl0,hq,hst,hcl,hkd⟩:=HPA.out rfl
   obtain⟨S,hS⟩:∃S,P=S++[(⟨2,0,C⟩:MStep)]:=by
    have h1:P=zB7 m.vars (l.map (zAF m.vars)) (ptsM m) C:=congrArg (·.1) hq
    rw[h1];exact⟨_,rfl⟩
   have h1:zB7 m.vars (l.map (zAF m.vars)) (ptsM m) C=P:=(congrArg (·.1) hq).symm
   rw[h1] at hst hcl hkd
   have HM0:Hid (zAP m=0):=hm0
   have HST:Hid (zBb m (l.map (zAF m.vars)) P=true):=hst
   have HCL:Hid (∀s∈P,claE m.vars s.cla=0):=hcl
   have HKD:Hid (∀s∈P,s.kind=1→0≤s.con∧s.con<(m.cons.length:Int)):=hkd
   have HLO:Hid (l.length≤600∧∀x∈l,claE m.vars x=0):=zMU m.vars l hl0
   obtain⟨q,hq2,hqe,hql⟩:=zGR (fun x:SV=>x.1) L S _ (HMP.out.trans hS)
   obtain⟨g,cc,hgv,hcc1,hcc2,hgl,_,_,s2⟩:=zDT HSO.out _ q hq2
   have HQL:Hid (LArg w2 q.2 C):=by have h2:=(HSO.out.2 q (List.mem_of_getElem? hq2)).arg;rw[hqe] at h2;exact h2
   obtain⟨aq,cq,hqq,_,_⟩:=id HQL.out
   rw[hqq] at s2
   have HQ2:Hid (∀Y,Below w2.heap.size w2 Y→LArg Y (.slice aq C.length cq) C):=fun Y hY=>LArg.below hY (by have h1:=HQL.out;rw[hqq] at h1;exact h1)
   have HPL:Hid (P.length≤6000):=by
    show _≤_
    rw[←HMP.out,List.length_map];omega
   have HSA:Hid (∀Y,Below w2.heap.size w2 Y→zEM Y (.slice az L.length cz) P):=fun Y hY=>by
    have h:=zL2 HSO.out (Or.inr (by omega))
    rw[HMP.out] at h
    exact zEM.below hY h
   cases hgv
   obtain⟨j,hj⟩:∃j,S.length=j:=⟨_,rfl⟩
   rw[hj] at hql s2
   rw[hql] at HSA hcc1 ⊢
   unfold maxLen at hcc2
   have hj15:j+1≤1500:=by omega
   clear hm0 hl0 hq hst hcl hkd hS h1 hq2 hqe hql hqq HQL HSO HMP hj hl15
   have u2:=(HB23.out.cell (p:=⟨g,j * 3+2,none⟩) hgl).trans s2
   have ul:=Nat.lt_of_lt_of_le hgl HB23.out.size
   obtain⟨lq,k0,k1,k2,k3⟩:=HQ.out _ HB3.out
   go_wp2_with fail
   refine (zF0 m P _ _ _ w3 (HMA.out _ (HTO.out _ HB3.out)) (HSA.out _ HB23.out) HPL.out HCL.out HKD.out).mono ?_
   rintro e w4 ⟨rfl,hb4⟩
   have HB24:Hid (Below w2.heap.size w2 w4):=HB23.out.trans (hb4.mono HB23.out.size)
   have HB4:Hid (Below W.heap.size W w4):=HB3.out.trans (hb4.mono HB3.out.size)
   clear hb4 u2 ul k0 k1 k2 k3 lq
   have u2:=(HB24.out.cell (p:=⟨g,j * 3+2,none⟩) hgl).trans s2
   have ul:=Nat.lt_of_lt_of_le hgl HB24.out.size
   obtain⟨lq,k0,k1,k2,k3⟩:=HQ.out _ HB4.out
   go_wp2_with fail
   refine (zC2 C _ _ w4 (HQ2.out _ HB24.out) (HY.out _ (HB12.out.trans (HB24.out.mono HB12.out.size)))).mono ?_
   rintro e w5 ⟨rfl,hd5⟩
   have HB45:Hid (Below w4.heap.size w4 w5):=zDn hd5
   have HB25:Hid (Below w2.heap.size w2 w5):=HB24.out.trans (HB45.out.mono HB24.out.size)
   have HB5:Hid (Below W.heap.size W w5):=HB4.out.trans (HB45.out.mono HB4.out.size)
   clear hd5 u2 ul k0 k1 k2 k3 lq s2
   obtain⟨lq,k0,k1,k2,k3⟩:=HQ.out _ HB5.out
   go_wp2_with fail
   refine (zF1 m HM0.out l HLO.out.2 HLO.out.1 P HPL.out HCL.out HKD.out _ _ _ _ w5 (HMA.out _ (HTO.out _ HB5.out)) (HL.out _ (HTO.out _ HB5.out)) (HSA.out _ HB25.out)).mono ?_
   rintro e w6 ⟨rfl,hb6⟩
   rw[HST.out]
   have HB6:Hid (Below W.heap.size W w6):=HB5.out.trans (hb6.mono HB5.out.size)
   clear hb6
   go_wp2
   go_ret
   exact⟨rfl,HTO.out _ HB6.out⟩
 ·have hB:B2=false:=HWR.out hE
  subst hB
  have HL0:Hid (L.length=0):=by
   show _=_
   rw[←List.length_map (f:=(·.1)),HMP.out,HP3.out rfl];rfl
  have t0:((L.length:Int)==0)=true:=by rw[HL0.out];rfl
  have he:(E2 != 0)=true:=by simpa using hE
  have he2:(E2==E2)=true:=by simp
  clear hE
  go_wp2
  go_ret
  exact⟨rfl,HTO.out _ HB3.out⟩
open Go.ChangeShapes Go.WideShapes Go.ChangeAt Go.RowKit Go.Deep
theorem Tryz.underClause:Tryz.prog.underlying 28=some (.slice 76):=by kernel_rfl
section
variable {H:Type} {enc:TypeId×Value→H} {w:World} {base:Nat} {spare:Nat→Bool} {held:Bool}
theorem zM8 {fuel:Nat} {cs:List Value} {x:DataW H×List MemPlace} (h:DataW.trod enc Tryz.prog w base spare held fuel 28 cs=some x) :
 ∃v l,cs=[v]∧LArg w v l:=by
 have hinh:Inhabited MLit:=⟨⟨0,0,0⟩⟩
 obtain⟨l,a,c,hcs,hm,hr⟩:=zBo (α:=MLit) Tryz.underClause Tryz.cLit (by decide) (fun t=>[.int .i64 t.var,.int .i64 t.op,.int .i64 t.n]) (fun _=>True)
  (fun n cs' x' h'=>by obtain⟨t,ht⟩:=zK4 h';exact⟨t,ht,trivial⟩) h
 refine⟨_,l,hcs,a,c,rfl,hm,fun i z hz=>?_⟩
 obtain⟨_,b,off,ha,hb,hc⟩:=hr i z hz
 have e0:=hc 0 _ rfl
 have e1:=hc 1 _ rfl
 have e2:=hc 2 _ rfl
 rw[←Nat.add_assoc] at e0 e1 e2
 exact⟨b,off,ha,hb,e0,e1,e2⟩
end
theorem Tryz.underClauses:Tryz.prog.underlying 26=some (.slice 28):=by kernel_rfl
theorem Tryz.cClause:Tryz.prog.cellsOf 28=1:=by kernel_rfl
section
variable {H:Type} {enc:TypeId×Value→H} {w:World} {base:Nat} {spare:Nat→Bool} {held:Bool}
theorem zL3 {fuel:Nat} {cs:List Value} {x:DataW H×List MemPlace} (h:DataW.trod enc Tryz.prog w base spare held fuel 26 cs=some x) :
 ∃v l,cs=[v]∧zA8 w v l:=by
 obtain⟨l,a,c,hcs,hm,hr⟩:=zBo (α:=Value×Cla) Tryz.underClauses Tryz.cClause (by decide) (fun z=>[z.1]) (fun z=>LArg w z.1 z.2)
  (fun n cs' x' h'=>by obtain⟨v,r,hz,hi⟩:=zM8 h';exact⟨(v,r),hz,hi⟩) h
 refine⟨_,l.map (·.2),hcs,a,c,by simp,by simpa using hm,fun i r hr'=>?_⟩
 rw[List.getElem?_map] at hr'
 obtain⟨⟨v,r2⟩,hz,rfl⟩:=Option.map_eq_some_iff.1 hr'
 obtain⟨hg,b,off,ha,hb,hc⟩:=hr i _ hz
 have:=hc 0 _ rfl
 exact⟨b,off,v,ha,hb,by simpa using this,hg⟩
end
end Go.Proofs.YtndcpnlaadikoaaGreatDoor
