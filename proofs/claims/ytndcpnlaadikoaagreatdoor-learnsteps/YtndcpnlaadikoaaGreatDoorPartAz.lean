/- What the proof leans on, part 26. -/
import Derived.Test.YtndcpnlaadikoaaGreatDoorPartAy
namespace Go.Proofs.YtndcpnlaadikoaaGreatDoor
open Go.RowKit
theorem Tryz.infoStepF:(Tryz.prog.info? 39).map (fun i=>(i.zero,i.size,i.bytes))=some (some (.agg #[.int .i64 0,.int .i64 0,.slice none 0 0]),3,40):=by kernel_rfl
theorem Tryz.underStepsF:Tryz.prog.underlying 32=some (.slice 39):=by kernel_rfl
abbrev SV:=MStep×Value
def zCO (x:SV):List Value:=[.int .i64 x.1.kind,.int .i64 x.1.con,x.2]
def zCC (base:Nat) (w:World) (v:Value) (L:List SV):Prop:=w.ownsRow base 39 3 v L.length (L.map zCO).flatten∧∀x∈L,LOwn base w x.2 x.1.cla
theorem zCC.below {base:Nat} {w w':World} {v:Value} {L:List SV} (h:zCC base w v L) (hb:Below w.heap.size w w'):zCC base w' v L:=⟨zAD h.1 hb,fun x hx=>zAD (h.2 x hx) hb⟩
theorem zCC.mono {base base':Nat} {w:World} {v:Value} {L:List SV} (h:zCC base w v L) (hb:base'≤base):zCC base' w v L:=⟨World.ownsRow.mono h.1 hb,fun x hx=>zAw hb (h.2 x hx)⟩
theorem zHv (w:World) (x:SV):∀(j:Nat) (u:Value),(zCO x)[j]? = some u→(w.alloc (.cells #[.int .i64 x.1.kind,.int .i64 x.1.con,x.2] 39)).cell? ((⟨w.heap.size,0,none⟩:Addr).add j)=some u:=by
 intro j u hj
 match j,hj with
 | 0,hj=>simp[zCO] at hj;subst hj;simp[Addr.add]
 | 1,hj=>simp[zCO] at hj;subst hj;simp[Addr.add]
 | 2,hj=>simp[zCO] at hj;subst hj;simp[Addr.add]
theorem zCC.push {base n:Nat} {w w':World} {v v':Value} {L:List SV} {x:SV} (h:zCC base w v L) (hx:LOwn base w x.2 x.1.cla) (hg:w.grownBy w' v.ownBlock) (hn:n=L.length+1) (ho:w'.ownsRow base 39 3 v' n ((L.map zCO).flatten++zCO x)):zCC base w' v' (L++[x]):=by
 refine⟨?_,fun y hy=>?_⟩
 ·rw[List.length_append,List.length_singleton,←hn,List.map_append,List.flatten_append]
  simpa using ho
 ·rcases List.mem_append.1 hy with h3 | h3
  ·exact zBe (h.2 y h3) hg h.1 (by decide)
  ·rw[List.mem_singleton.1 h3];exact zBe hx hg h.1 (by decide)
theorem zHw {α β:Type} (f:α→β) (e:List β→Bool):∀(k:Nat) (l:List α),(zAq (fun c=>e (c.map f)) k l).map f=zAq e k (l.map f)
 | 0,l=>rfl
 | k+1,l=>by
   rw[zGN,zGN,zHw f e k,zFV]
   congr 1
   split <;> rfl
set_option maxHeartbeats 6400000 in
set_option maxRecDepth 100000 in
theorem zKS (vs:List MVar) (hva:zAU vs) (hn1:1≤vs.length) (pt:List (List Nat)) (cs:List Nat) (hcs:cs.length≤100000) (cl:Cla) (hcl:cl.length≤900) (r:Nat) (sv pv cv u:Value) (w:World) (hR:RulesAt w r sv pv cv vs pt cs) (hu:LArg w u cl) :
 Calls Tryz.prog 36 #[.pointer (some ⟨r,0,none⟩),u] w fun e w'=>∃v L,e=.returned v∧L.map (·.1)=zB7 vs cs pt cl∧zCC w.heap.size w' v L∧L.length≤1500∧Below w.heap.size w w':=by
 obtain⟨i0,hi0,hz0,hz1,hz2⟩:=info_parts Tryz.infoStepF
 have HR:Hid (∀Y,Below w.heap.size w Y→RulesAt Y r sv pv cv vs pt cs):=fun Y hY=>RulesAt.below hY hR
 have HU:Hid (∀Y,Below w.heap.size w Y→LArg Y u cl):=fun Y hY=>LArg.below hY hu
 have HVO:Hid (zAU vs):=hva
 have H1:Hid (1≤vs.length):=hn1
 have HCS:Hid (cs.length≤100000):=hcs
 have HCL:Hid (cl.length≤900):=hcl
 obtain⟨h,hh⟩:∃h,zAF vs cl=h:=⟨_,rfl⟩
 have HH:Hid (zAF vs cl=h):=hh
 have HH36:Hid (h<2 ^ 36):=by rw[←hh];exact zEV vs hva.1 _
 obtain⟨ST,hST⟩:∃ST,zB7 vs cs pt cl=ST:=⟨_,rfl⟩
 have HST:Hid (ST=(zAq (zB3 vs cs h) (zAf vs cs pt h).length (zAf vs cs pt h)).map (·.1)++[⟨2,0,cl⟩]):=by show _=_;rw[←hST,←hh];rfl
 rw[hST]
 have r0:=hR.c0
 have rl:=hR.lt
 obtain⟨a1,c1,rfl,_,_⟩:=hR.hv
 obtain⟨a2,c2,rfl,_,_⟩:=hu
 clear hR hva hn1 hcs hcl hh hST
 go_enter Tryz.func36,Tryz.ntmps36
 go_wp2_with fail
 refine (zD8 vs HVO.out cl _ _ _ (HR.out _ (zAA _ _)).hv (HU.out _ (zAA _ _))).mono ?_
 rintro e w1 ⟨rfl,hb1⟩
 rw[HH.out]
 have HB1:Hid (Below w.heap.size w w1):=(zAA _ _).trans (hb1.mono (by simp))
 have HP1:Hid (w1.cell? ⟨w.heap.size,0,none⟩=some (.pointer (some ⟨r,0,none⟩))):=(hb1.cell (by simp)).trans (World.cell?_alloc_at _ _ _ 0 (by simp))
 have HS1:Hid (w.heap.size<w1.heap.size):=by have:=hb1.size;simp at this;show _<_;omega
 clear hb1 r0 rl
 have k1:(w1.alloc (.cells #[.int .u64 (h:Int)] 136)).cell? ⟨w.heap.size,0,none⟩=some (.pointer (some ⟨r,0,none⟩)):=((zAA w1 _).cell (p:=⟨w.heap.size,0,none⟩) HS1.out).trans HP1.out
 have k2:(w1.alloc (.cells #[.int .u64 (h:Int)] 136)).cell? ⟨w1.heap.size,0,none⟩=some (.int .u64 (h:Int)):=World.cell?_alloc_at _ _ _ 0 (by simp)
 have HBV:Hid (Below w.heap.size w (w1.alloc (.cells #[.int .u64 (h:Int)] 136))):=HB1.out.alloc HB1.out.size _
 have HLV:Hid (w1.heap.size<(w1.alloc (.cells #[.int .u64 (h:Int)] 136)).heap.size):=by show _<_;simp
 obtain⟨G,hG⟩:∃G,w1.heap.size=G:=⟨_,rfl⟩
 obtain⟨V,hV⟩:∃V,w1.alloc (.cells #[.int .u64 (h:Int)] 136)=V:=⟨_,rfl⟩
 go_upto_region 4 with (fail)
 rw[hV] at HBV HLV
 rw[hG] at HLV HS1
 rw[hG,hV] at k2
 rw[hV] at k1
 have HK:Hid (∀Y,Below V.heap.size V Y→Y.cell? ⟨w.heap.size,0,none⟩=some (.pointer (some ⟨r,0,none⟩))∧Y.cell? ⟨G,0,none⟩=some (.int .u64 (h:Int))∧w.heap.size<Y.heap.size∧G<Y.heap.size):=fun Y hY=>by
  have h1:=HS1.out
  have h2:=HLV.out
  have h3:=hY.size
  exact⟨(hY.cell (p:=⟨w.heap.size,0,none⟩) (by show w.heap.size<V.heap.size;omega)).trans k1,(hY.cell (p:=⟨G,0,none⟩) h2).trans k2,by omega,by omega⟩
 clear hG hV HP1
 go_wp2_with fail
 refine (zIu vs HVO.out H1.out pt cs h HH36.out r _ pv cv _ (HR.out _ HBV.out)).mono ?_
 rintro e w2 ⟨v2,L,rfl,hmp,hro,hcl2,hL14,hb2⟩
 have HRO:Hid (ROwn w.heap.size w2 v2 L):=zCq HBV.out.size hro
 have HCL2:Hid (∀x∈L,LOwn w.heap.size w2 x.2 x.1.1.cla):=fun x hx=>zAw HBV.out.size (hcl2 x hx)
 have HMP:Hid (L.map (·.1)=zAf vs cs pt h):=hmp
 have HB2:Hid (Below V.heap.size V w2):=hb2
 have HBW2:Hid (Below w.heap.size w w2):=HBV.out.trans (hb2.mono HBV.out.size)
 have HSL:Hid (∀x∈L,IsSl x):=fun x hx=>by
  obtain⟨a,c,he⟩:=zAE (show w2.ownsRow _ _ _ _ _ _ from hcl2 x hx)
  exact⟨a,_,c,he⟩
 have HX36:Hid (∀x∈L,x.1.2<2 ^ 36):=fun x hx=>by
  have h1:x.1∈zAf vs cs pt h:=by rw[←hmp];exact List.mem_map.2 ⟨x,hx,rfl⟩
  obtain⟨t,_,ht⟩:=List.mem_flatMap.1 h1
  unfold zAi at ht
  split at ht
  ·rw[List.mem_singleton.1 ht];exact zEV vs HVO.out.1 _
  ·obtain⟨l,_,hl⟩:=List.mem_map.1 ht
   rw[←hl];exact zEV vs HVO.out.1 _
 obtain⟨ao,co,rfl⟩:=zAE (show w2.ownsRow _ _ _ _ _ _ from hro)
 clear hmp hro hcl2 hb2 k1 k2
 go_wp2_with fail
 refine (zG1 86 #[.pointer (some ⟨w.heap.size,0,none⟩),.pointer (some ⟨G,0,none⟩)] (fun c=>zB3 vs cs h (c.map (·.1))) L HSL.out (by omega) _ _ HRO.out.arg ⟨zG2,fun c v Y hc hcm hY hv=>?_⟩).mono ?_
 ·have hYV:=HB2.out.trans (hY.mono HB2.out.size)
  have hYW:=HBV.out.trans (hYV.mono HBV.out.size)
  obtain⟨q1,q2,q3,q4⟩:=HK.out Y hYV
  exact zIx vs HVO.out H1.out pt cs HCS.out h HH36.out r _ pv cv c (by omega) (fun x hx=>HX36.out x (hcm x hx)) (fun x hx=>HSL.out x (hcm x hx)) v _ _ Y (HR.out Y hYW) hv q1 q2 q3 q4
 rintro e w3 ⟨v3,rfl,hro3,hb3⟩
 obtain⟨R,hRe⟩:∃R,zAq (fun c=>zB3 vs cs h (c.map (·.1))) L.length L=R:=⟨_,rfl⟩
 have HRM:Hid (R.map (·.1)=zAq (zB3 vs cs h) (zAf vs cs pt h).length (zAf vs cs pt h)):=by show _=_;rw[←hRe,zHw (fun x:RV=>x.1),←HMP.out,List.length_map]
 have HRS:Hid (∀x∈R,x∈L):=fun x hx=>zEC _ x _ _ (by rw[hRe];exact hx)
 have hRL:R.length≤1400:=by rw[←hRe];exact Nat.le_trans (zED _ _ _) hL14
 rw[hRe] at hro3
 have HRO3:Hid (ROwn w.heap.size w3 v3 R):=zCq HBW2.out.size hro3
 have HB3:Hid (Below w.heap.size w w3):=HBW2.out.trans (hb3.mono HBW2.out.size)
 have HCL3:Hid (∀x∈R,LOwn w.heap.size w3 x.2 x.1.1.cla):=fun x hx=>zAD (HCL2.out x (HRS.out x hx)) hb3
 obtain⟨a3,c3,rfl⟩:=zAE (show w3.ownsRow _ _ _ _ _ _ from hro3)
 clear hro3 hb3 hRe
 go_wp2_with fail
 go_loopw [7,23] (fun o i wr=>∃k:Nat,k≤R.length∧i=.int .i64 k∧Hid (∃D:List SV,D.map (·.1)=(R.take k).map (·.1.1)∧zCC w.heap.size wr o D∧ROwn w.heap.size wr (.slice a3 R.length c3) R∧(∀x∈R,LOwn w.heap.size wr x.2 x.1.1.cla)∧Below w.heap.size w wr)) (fun _ i _=>R.length - (intOf i).toNat)
 case atStart=>exact⟨0,by omega,rfl,[],rfl,⟨World.ownsRow_nil _ _ _ _,fun x hx=>by cases hx⟩,HRO3.out,HCL3.out,HB3.out⟩
 case round =>
  obtain⟨k,hk,rfl,hrest⟩:=hrel
  obtain⟨D,hD,hso,hrr,hcr,hbw⟩:=hrest.out
  have HD:Hid (D.map (·.1)=(R.take k).map (·.1.1)):=hD
  have HSO:Hid (zCC w.heap.size wr u7 D):=hso
  have HRR:Hid (ROwn w.heap.size wr (.slice a3 R.length c3) R):=hrr
  have HCR:Hid (∀x∈R,LOwn w.heap.size wr x.2 x.1.1.cla):=hcr
  have HBW:Hid (Below w.heap.size w wr):=hbw
  have hDk:D.length=k:=by
   have h1:=congrArg List.length hD
   rw[List.length_map,List.length_map,List.length_take] at h1
   omega
  obtain⟨ad,cd,hu7⟩:=zAE hso.1
  rw[hDk] at hu7
  subst hu7
  clear hD hso hrr hcr hbw hrest
  by_cases hlt:k<R.length
  ·obtain⟨t,ht⟩:∃t,R[k]? = some t:=⟨R[k],by simp[hlt]⟩
   obtain⟨a4,n4,c4,b4,o4,he4,hn4,hc41,hc42,ha4,hb4,q0,q1,q2,q3⟩:=zEn HRR.out.arg k t ht
   injection he4 with he4 he5 he6
   rw[ha4] at he4
   subst he4
   have htm:t∈R:=List.mem_of_getElem? ht
   have HTC:Hid (LOwn w.heap.size wr t.2 t.1.1.cla):=HCR.out t htm
   obtain⟨sa,sc,hse⟩:=zAE (show wr.ownsRow _ _ _ _ _ _ from HTC.out)
   rw[hse] at q2
   have HSE:Hid (t.2=.slice sa t.1.1.cla.length sc):=hse
   have HNX:Hid ((D++[(t.1.1,t.2)]).map (·.1)=(R.take (k+1)).map (·.1.1)):=by
    show _=_
    rw[List.map_append,HD.out,List.take_add_one,ht,List.map_append];rfl
   have hcc:R.length≤c3:=by omega
   unfold maxLen at hc42
   have hcm:c3≤2 ^ 63 - 1:=by omega
   clear he5 he6 hc41 hc42 hn4 hse ha4 ht
   have hbs:=HBW.out.size
   obtain⟨kd,hkd⟩:∃kd,t.1.1.kind=kd:=⟨_,rfl⟩
   obtain⟨cn,hcn⟩:∃cn,t.1.1.con=cn:=⟨_,rfl⟩
   obtain⟨hz,hhz⟩:∃hz:Nat,t.1.2=hz:=⟨_,rfl⟩
   obtain⟨nl,hnl⟩:∃nl,t.1.1.cla.length=nl:=⟨_,rfl⟩
   rw[hkd] at q0
   rw[hcn] at q1
   rw[hhz] at q3
   rw[hnl] at q2 HSE
   have HSC:Hid (zCO (t.1.1,t.2)=[.int .i64 kd,.int .i64 cn,.slice sa nl sc]):=by show _=_;unfold zCO;rw[HSE.out,hkd,hcn]
   have HSL2:Hid (∀V:World,∀(j:Nat) (u:Value),([.int .i64 kd,.int .i64 cn,.slice sa nl sc]:List Value)[j]? = some u→(V.alloc (.cells #[.int .i64 kd,.int .i64 cn,.slice sa nl sc] 39)).cell? ((⟨V.heap.size,0,none⟩:Addr).add j)=some u):=fun V=>by
    have h1:=zHv V (⟨kd,cn,[]⟩,.slice sa nl sc)
    exact h1
   clear hkd hcn hhz hnl
   have HBX:Hid (Below wr.heap.size wr (wr.alloc (.cells #[.int .i64 kd,.int .i64 cn,.slice sa nl sc,.int .u64 (hz:Int)] 145))):=zAA _ _
   go_upto_region 7 with (fail)
   obtain⟨V,hV⟩:∃V,wr.alloc (.cells #[.int .i64 kd,.int .i64 cn,.slice sa nl sc,.int .u64 (hz:Int)] 145)=V:=⟨_,rfl⟩
   have k0:(wr.alloc (.cells #[.int .i64 kd,.int .i64 cn,.slice sa nl sc,.int .u64 (hz:Int)] 145)).cell? ⟨wr.heap.size,0,none⟩=some (.int .i64 kd):=World.cell?_alloc_at _ _ _ 0 (by simp)
   have k1:(wr.alloc (.cells #[.int .i64 kd,.int .i64 cn,.slice sa nl sc,.int .u64 (hz:Int)] 145)).cell? ⟨wr.heap.size,1,none⟩=some (.int .i64 cn):=World.cell?_alloc_at _ _ _ 1 (by simp)
   have k2:(wr.alloc (.cells #[.int .i64 kd,.int .i64 cn,.slice sa nl sc,.int .u64 (hz:Int)] 145)).cell? ⟨wr.heap.size,2,none⟩=some (.slice sa nl sc):=World.cell?_alloc_at _ _ _ 2 (by simp)
   rw[hV] at HBX k0 k1 k2 ⊢
   clear hV q0 q1 q2 q3
   have hvs:=HBX.out.size
   have HBV2:Hid (Below w.heap.size w V):=HBW.out.trans (HBX.out.mono HBW.out.size)
   have HSV:Hid (zCC w.heap.size (V.alloc (.cells #[.int .i64 kd,.int .i64 cn,.slice sa nl sc] 39)) (.slice ad k cd) D):=(HSO.out.below HBX.out).below (zAA _ _)
   have HOV:Hid ((V.alloc (.cells #[.int .i64 kd,.int .i64 cn,.slice sa nl sc] 39)).ownsRow w.heap.size 39 3 (.slice ad k cd) k (D.map zCO).flatten):=by have:=HSV.out.1;rw[hDk] at this;exact this
   go_wp2_with (at_builtin;refine wpList_append_own _ rfl _ _ 32 rfl w.heap.size 39 i0 (.agg #[.int .i64 0,.int .i64 0,.slice none 0 0]) 3 40 Tryz.underStepsF hi0 hz0 hz1 hz2 rfl (by decide) _ _ _ rfl HOV.out ⟨V.heap.size,0,none⟩ 1 1 [.int .i64 kd,.int .i64 cn,.slice sa nl sc] rfl rfl (HSL2.out V) (by intro u hu;simp at hu;rcases hu with rfl | rfl | rfl <;> rfl) ?c1 ?c2 ?c3 ?_)
   case c1=>unfold maxLen;omega
   case c2=>omega
   case c3=>simp;omega
   intro v6 w6 hown6 hg6 _
   have HBA:Hid (Below wr.heap.size wr (V.alloc (.cells #[.int .i64 kd,.int .i64 cn,.slice sa nl sc] 39))):=HBX.out.alloc hvs _
   have HS6:Hid (zCC w.heap.size w6 v6 (D++[(t.1.1,t.2)])):=zCC.push HSV.out (zAD HTC.out HBA.out) hg6 (by rw[hDk]) (by rw[HSC.out];exact hown6)
   have HR6:Hid (ROwn w.heap.size w6 (.slice (some ⟨b4,o4,none⟩) R.length c3) R):=zBe (zAD HRR.out HBA.out) hg6 HOV.out (by decide)
   have HC6:Hid (∀x∈R,LOwn w.heap.size w6 x.2 x.1.1.cla):=fun x hx=>zBe (zAD (HCR.out x hx) HBA.out) hg6 HOV.out (by decide)
   have HB6:Hid (Below w.heap.size w w6):=(HBV2.out.alloc HBV2.out.size _).grown hg6 (by have:=HBV2.out.size;simp;omega) (fun g hg=>(HOV.out.lt g hg).1)
   obtain⟨a9,c9,rfl⟩:=zAE hown6
   clear hown6 hg6 k0 k1 k2
   go_wp2
   go_roundw
   case rel=>exact⟨k+1,by omega,by go_num,D++[(t.1.1,t.2)],HNX.out,HS6.out,HR6.out,HC6.out,HB6.out⟩
   case measure=>simp[intOf];omega
  ·have HFD:Hid (D.map (·.1)=R.map (·.1.1)):=by have h1:=HD.out;rw[List.take_of_length_le (by omega)] at h1;exact h1
   have HDK:Hid (D.length=k):=hDk
   clear hDk
   go_wp2_with fail
   refine (zHo cl HCL.out _ _ (HU.out _ HBW.out)).mono ?_
   rintro e w5 ⟨x,rfl,hx,hb5⟩
   have HX:Hid (LOwn w.heap.size w5 x cl):=zAw HBW.out.size hx
   have HB5:Hid (Below w.heap.size w w5):=HBW.out.trans (hb5.mono HBW.out.size)
   have HS5:Hid (zCC w.heap.size w5 (.slice ad k cd) D):=HSO.out.below hb5
   obtain⟨ax,cx,rfl⟩:=zAE (show w5.ownsRow _ _ _ _ _ _ from hx)
   clear hx hb5
   have hs5:=HB5.out.size
   have HSV:Hid (zCC w.heap.size (w5.alloc (.cells #[.int .i64 2,.int .i64 0,.slice ax cl.length cx] 39)) (.slice ad k cd) D):=HS5.out.below (zAA _ _)
   have HOV:Hid ((w5.alloc (.cells #[.int .i64 2,.int .i64 0,.slice ax cl.length cx] 39)).ownsRow w.heap.size 39 3 (.slice ad k cd) k (D.map zCO).flatten):=by have:=HSV.out.1;rw[HDK.out] at this;exact this
   go_wp2_with (at_builtin;refine wpList_append_own _ rfl _ _ 32 rfl w.heap.size 39 i0 (.agg #[.int .i64 0,.int .i64 0,.slice none 0 0]) 3 40 Tryz.underStepsF hi0 hz0 hz1 hz2 rfl (by decide) _ _ _ rfl HOV.out ⟨w5.heap.size,0,none⟩ 1 1 [.int .i64 2,.int .i64 0,.slice ax cl.length cx] rfl rfl (zHv w5 (⟨2,0,cl⟩,.slice ax cl.length cx)) (by intro u hu;simp at hu;rcases hu with rfl | rfl | rfl <;> rfl) ?c1 ?c2 ?c3 ?_)
   case c1=>unfold maxLen;omega
   case c2=>omega
   case c3=>simp;omega
   intro v6 w6 hown6 hg6 _
   have HS6:Hid (zCC w.heap.size w6 v6 (D++[((⟨2,0,cl⟩:MStep),Value.slice ax cl.length cx)])):=zCC.push HSV.out (zAD HX.out (zAA _ _)) hg6 (by rw[HDK.out]) hown6
   have HB6:Hid (Below w.heap.size w w6):=(HB5.out.alloc hs5 _).grown hg6 (by simp;omega) (fun g hg=>(HOV.out.lt g hg).1)
   have HM6:Hid ((D++[((⟨2,0,cl⟩:MStep),Value.slice ax cl.length cx)]).map (·.1)=ST):=by
    show _=_
    rw[HST.out,←HRM.out,List.map_append,HFD.out,List.map_map];rfl
   have HL6:Hid ((D++[((⟨2,0,cl⟩:MStep),Value.slice ax cl.length cx)]).length≤1500):=by show _≤_;rw[List.length_append,HDK.out];simp;omega
   obtain⟨a9,c9,rfl⟩:=zAE hown6
   clear hown6 hg6
   go_wp2
   go_ret
   exact⟨_,_,rfl,HM6.out,HS6.out,HL6.out,HB6.out⟩
end Go.Proofs.YtndcpnlaadikoaaGreatDoor
