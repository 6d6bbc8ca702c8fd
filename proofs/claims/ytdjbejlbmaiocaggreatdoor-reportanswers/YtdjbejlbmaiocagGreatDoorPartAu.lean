/- What the proof leans on, part 21. -/
import Derived.Test.YtdjbejlbmaiocagGreatDoorPartAt
import Derived.Test.YtdjbejlbmaiocagGreatDoorPartAj
import Derived.Test.YtdjbejlbmaiocagGreatDoorPartAq
import Derived.Test.YtdjbejlbmaiocagGreatDoorPartAm
import Derived.Deep.RegionLaw
import Derived.Maps.AppendAt
set_option maxRecDepth 100000
set_option maxHeartbeats 6400000
namespace Go.Proofs.YtdjbejlbmaiocagGreatDoor
open Go.RowKit
theorem Tryz.infoStepF:(Tryz.prog.info? 93).map (fun i=>(i.zero,i.size,i.bytes))=some (some (.agg #[.int .i64 0,.int .i64 0,.slice none 0 0]),3,40):=by kernel_rfl
theorem Tryz.underStepsF:Tryz.prog.underlying 27=some (.slice 93):=by kernel_rfl
abbrev SV:=MStep×Value
def zBi (x:SV):List Value:=[.int .i64 x.1.kind,.int .i64 x.1.con,x.2]
def zCP (base:Nat) (w:World) (v:Value) (L:List SV):Prop:=w.ownsRow base 93 3 v L.length (L.map zBi).flatten∧∀x∈L,LOwn base w x.2 x.1.cla
theorem zCP.below {base:Nat} {w w':World} {v:Value} {L:List SV} (h:zCP base w v L) (hb:Below w.heap.size w w'):zCP base w' v L:=⟨zAG h.1 hb,fun x hx=>zAG (h.2 x hx) hb⟩
theorem zCP.mono {base base':Nat} {w:World} {v:Value} {L:List SV} (h:zCP base w v L) (hb:base'≤base):zCP base' w v L:=⟨World.ownsRow.mono h.1 hb,fun x hx=>zBS hb (h.2 x hx)⟩
theorem zIT (w:World) (x:SV):∀(j:Nat) (u:Value),(zBi x)[j]? = some u→(w.alloc (.cells #[.int .i64 x.1.kind,.int .i64 x.1.con,x.2] 93)).cell? ((⟨w.heap.size,0,none⟩:Addr).add j)=some u:=by
 intro j u hj
 match j,hj with
 | 0,hj=>simp[zBi] at hj;subst hj;simp[Addr.add]
 | 1,hj=>simp[zBi] at hj;subst hj;simp[Addr.add]
 | 2,hj=>simp[zBi] at hj;subst hj;simp[Addr.add]
theorem zCP.push {base n:Nat} {w w':World} {v v':Value} {L:List SV} {x:SV} (h:zCP base w v L) (hx:LOwn base w x.2 x.1.cla) (hg:w.grownBy w' v.ownBlock) (hn:n=L.length+1) (ho:w'.ownsRow base 93 3 v' n ((L.map zBi).flatten++zBi x)):zCP base w' v' (L++[x]):=by
 refine⟨?_,fun y hy=>?_⟩
 ·rw[List.length_append,List.length_singleton,←hn,List.map_append,List.flatten_append]
  simpa using ho
 ·rcases List.mem_append.1 hy with h3 | h3
  ·exact zBb (h.2 y h3) hg h.1 (by decide)
  ·rw[List.mem_singleton.1 h3];exact zBb hx hg h.1 (by decide)
theorem zLV {α β:Type} (f:α→β) (e:List β→Bool):∀(k:Nat) (l:List α),(zA4 (fun c=>e (c.map f)) k l).map f=zA4 e k (l.map f)
 | 0,l=>rfl
 | k+1,l=>by
   rw[zJs,zJs,zLV f e k,zIP]
   congr 1
   split <;> rfl
theorem zOs (vs:List MVar) (hva:zAW vs) (hn1:1≤vs.length) (pt:List (List Nat)) (cs:List Nat) (hcs:cs.length≤100000) (cl:Cla) (hcl:cl.length≤900) (r:Nat) (sv pv cv u:Value) (w:World) (hR:RulesAt w r sv pv cv vs pt cs) (hu:LArg w u cl) :
 Calls Tryz.prog 195 #[.pointer (some ⟨r,0,none⟩),u] w fun e w'=>∃v L,e=.returned v∧L.map (·.1)=zFG vs cs pt cl∧zCP w.heap.size w' v L∧L.length≤1500∧Below w.heap.size w w':=by
 obtain⟨i0,hi0,hz0,hz1,hz2⟩:=info_parts Tryz.infoStepF;have HR:Hid (∀Y,Below w.heap.size w Y→RulesAt Y r sv pv cv vs pt cs):=fun Y hY=>RulesAt.below hY hR
 have HU:Hid (∀Y,Below w.heap.size w Y→LArg Y u cl):=fun Y hY=>LArg.below hY hu
 have HVO:Hid (zAW vs):=hva;have H1:Hid (1≤vs.length):=hn1;have HCS:Hid (cs.length≤100000):=hcs;have HCL:Hid (cl.length≤900):=hcl;obtain⟨h,hh⟩:∃h,zAH vs cl=h:=⟨_,rfl⟩;have HH:Hid (zAH vs cl=h):=hh;have HH36:Hid (h<2 ^ 36):=by rw[←hh];exact zGN vs hva.1 _
 obtain⟨ST,hST⟩:∃ST,zFG vs cs pt cl=ST:=⟨_,rfl⟩;have HST:Hid (ST=(zA4 (zCU vs cs h) (zAz vs cs pt h).length (zAz vs cs pt h)).map (·.1)++[⟨2,0,cl⟩]):=by show _=_;rw[←hST,←hh];rfl
 rw[hST];have r0:=hR.c0;have rl:=hR.lt;obtain⟨a1,c1,rfl,_,_⟩:=hR.hv;obtain⟨a2,c2,rfl,_,_⟩:=hu;clear hR hva hn1 hcs hcl hh hST;go_enter Tryz.func195,Tryz.ntmps195
 go_wp2_with fail
 refine (zEL vs HVO.out cl _ _ _ (HR.out _ (zAA _ _)).hv (HU.out _ (zAA _ _))).mono ?_;rintro e w1 ⟨rfl,hb1⟩;rw[HH.out];have HB1:Hid (Below w.heap.size w w1):=(zAA _ _).trans (hb1.mono (by simp))
 have HP1:Hid (w1.cell? ⟨w.heap.size,0,none⟩=some (.pointer (some ⟨r,0,none⟩))):=(hb1.cell (by simp)).trans (World.cell?_alloc_at _ _ _ 0 (by simp))
 have HS1:Hid (w.heap.size<w1.heap.size):=by have:=hb1.size;simp at this;show _<_;omega
 clear hb1 r0 rl;have k1:(w1.alloc (.cells #[.int .u64 (h:Int)] 183)).cell? ⟨w.heap.size,0,none⟩=some (.pointer (some ⟨r,0,none⟩)):=((zAA w1 _).cell (p:=⟨w.heap.size,0,none⟩) HS1.out).trans HP1.out;have k2:(w1.alloc (.cells #[.int .u64 (h:Int)] 183)).cell? ⟨w1.heap.size,0,none⟩=some (.int .u64 (h:Int)):=World.cell?_alloc_at _ _ _ 0 (by simp)
 have HBV:Hid (Below w.heap.size w (w1.alloc (.cells #[.int .u64 (h:Int)] 183))):=HB1.out.alloc HB1.out.size _;have HLV:Hid (w1.heap.size<(w1.alloc (.cells #[.int .u64 (h:Int)] 183)).heap.size):=by show _<_;simp
 obtain⟨G,hG⟩:∃G,w1.heap.size=G:=⟨_,rfl⟩;obtain⟨V,hV⟩:∃V,w1.alloc (.cells #[.int .u64 (h:Int)] 183)=V:=⟨_,rfl⟩;go_upto_region 4 with (fail)
 rw[hV] at HBV HLV;rw[hG] at HLV HS1;rw[hG,hV] at k2;rw[hV] at k1;have HK:Hid (∀Y,Below V.heap.size V Y→Y.cell? ⟨w.heap.size,0,none⟩=some (.pointer (some ⟨r,0,none⟩))∧Y.cell? ⟨G,0,none⟩=some (.int .u64 (h:Int))∧w.heap.size<Y.heap.size∧G<Y.heap.size):=fun Y hY=>by
  have h1:=HS1.out;have h2:=HLV.out;have h3:=hY.size;exact⟨(hY.cell (p:=⟨w.heap.size,0,none⟩) (by show w.heap.size<V.heap.size;omega)).trans k1,(hY.cell (p:=⟨G,0,none⟩) h2).trans k2,by omega,by omega⟩
 clear hG hV HP1;go_wp2_with fail
 refine (zMu vs HVO.out H1.out pt cs h HH36.out r _ pv cv _ (HR.out _ HBV.out)).mono ?_;rintro e w2 ⟨v2,L,rfl,hmp,hro,hcl2,hL14,hb2⟩;have HRO:Hid (ROwn w.heap.size w2 v2 L):=zEi HBV.out.size hro;have HCL2:Hid (∀x∈L,LOwn w.heap.size w2 x.2 x.1.1.cla):=fun x hx=>zBS HBV.out.size (hcl2 x hx)
 have HMP:Hid (L.map (·.1)=zAz vs cs pt h):=hmp
 have HB2:Hid (Below V.heap.size V w2):=hb2;have HBW2:Hid (Below w.heap.size w w2):=HBV.out.trans (hb2.mono HBV.out.size);have HSL:Hid (∀x∈L,IsSl x):=fun x hx=>by
  obtain⟨a,c,he⟩:=zAB (show w2.ownsRow _ _ _ _ _ _ from hcl2 x hx)
  exact⟨a,_,c,he⟩
 have HX36:Hid (∀x∈L,x.1.2<2 ^ 36):=fun x hx=>by
  have h1:x.1∈zAz vs cs pt h:=by rw[←hmp];exact List.mem_map.2 ⟨x,hx,rfl⟩
  obtain⟨t,_,ht⟩:=List.mem_flatMap.1 h1;unfold zBD at ht
  split at ht
  ·rw[List.mem_singleton.1 ht];exact zGN vs HVO.out.1 _
  ·obtain⟨l,_,hl⟩:=List.mem_map.1 ht
   rw[←hl];exact zGN vs HVO.out.1 _
 obtain⟨ao,co,rfl⟩:=zAB (show w2.ownsRow _ _ _ _ _ _ from hro)
 clear hmp hro hcl2 hb2 k1 k2;go_wp2_with fail
 refine (zKS 253 #[.pointer (some ⟨w.heap.size,0,none⟩),.pointer (some ⟨G,0,none⟩)] (fun c=>zCU vs cs h (c.map (·.1))) L HSL.out (by omega) _ _ HRO.out.arg ⟨zKT,fun c v Y hc hcm hY hv=>?_⟩).mono ?_
 ·have hYV:=HB2.out.trans (hY.mono HB2.out.size)
  have hYW:=HBV.out.trans (hYV.mono HBV.out.size);obtain⟨q1,q2,q3,q4⟩:=HK.out Y hYV;exact zMx vs HVO.out H1.out pt cs HCS.out h HH36.out r _ pv cv c (by omega) (fun x hx=>HX36.out x (hcm x hx)) (fun x hx=>HSL.out x (hcm x hx)) v _ _ Y (HR.out Y hYW) hv q1 q2 q3 q4
 rintro e w3 ⟨v3,rfl,hro3,hb3⟩;obtain⟨R,hRe⟩:∃R,zA4 (fun c=>zCU vs cs h (c.map (·.1))) L.length L=R:=⟨_,rfl⟩
 have HRM:Hid (R.map (·.1)=zA4 (zCU vs cs h) (zAz vs cs pt h).length (zAz vs cs pt h)):=by show _=_;rw[←hRe,zLV (fun x:RV=>x.1),←HMP.out,List.length_map]
 have HRS:Hid (∀x∈R,x∈L):=fun x hx=>zGS _ x _ _ (by rw[hRe];exact hx)
 have hRL:R.length≤1400:=by rw[←hRe];exact Nat.le_trans (zH7 _ _ _) hL14
 rw[hRe] at hro3;have HRO3:Hid (ROwn w.heap.size w3 v3 R):=zEi HBW2.out.size hro3;have HB3:Hid (Below w.heap.size w w3):=HBW2.out.trans (hb3.mono HBW2.out.size);have HCL3:Hid (∀x∈R,LOwn w.heap.size w3 x.2 x.1.1.cla):=fun x hx=>zAG (HCL2.out x (HRS.out x hx)) hb3
 obtain⟨a3,c3,rfl⟩:=zAB (show w3.ownsRow _ _ _ _ _ _ from hro3)
 clear hro3 hb3 hRe;go_wp2_with fail
 go_loopw [7,23] (fun o i wr=>∃k:Nat,k≤R.length∧i=.int .i64 k∧Hid (∃D:List SV,D.map (·.1)=(R.take k).map (·.1.1)∧zCP w.heap.size wr o D∧ROwn w.heap.size wr (.slice a3 R.length c3) R∧(∀x∈R,LOwn w.heap.size wr x.2 x.1.1.cla)∧Below w.heap.size w wr)) (fun _ i _=>R.length - (intOf i).toNat)
 case atStart=>exact⟨0,by omega,rfl,[],rfl,⟨World.ownsRow_nil _ _ _ _,fun x hx=>by cases hx⟩,HRO3.out,HCL3.out,HB3.out⟩
 case round =>
  obtain⟨k,hk,rfl,hrest⟩:=hrel;obtain⟨D,hD,hso,hrr,hcr,hbw⟩:=hrest.out;have HD:Hid (D.map (·.1)=(R.take k).map (·.1.1)):=hD
  have HSO:Hid (zCP w.heap.size wr u7 D):=hso;have HRR:Hid (ROwn w.heap.size wr (.slice a3 R.length c3) R):=hrr;have HCR:Hid (∀x∈R,LOwn w.heap.size wr x.2 x.1.1.cla):=hcr;have HBW:Hid (Below w.heap.size w wr):=hbw;have hDk:D.length=k:=by
   have h1:=congrArg List.length hD;rw[List.length_map,List.length_map,List.length_take] at h1;omega
  obtain⟨ad,cd,hu7⟩:=zAB hso.1;rw[hDk] at hu7;subst hu7;clear hD hso hrr hcr hbw hrest;by_cases hlt:k<R.length
  ·obtain⟨t,ht⟩:∃t,R[k]? = some t:=⟨R[k],by simp[hlt]⟩
   obtain⟨a4,n4,c4,b4,o4,he4,hn4,hc41,hc42,ha4,hb4,q0,q1,q2,q3⟩:=zHQ HRR.out.arg k t ht
   injection he4 with he4 he5 he6
   rw[ha4] at he4;subst he4;have htm:t∈R:=List.mem_of_getElem? ht;have HTC:Hid (LOwn w.heap.size wr t.2 t.1.1.cla):=HCR.out t htm;obtain⟨sa,sc,hse⟩:=zAB (show wr.ownsRow _ _ _ _ _ _ from HTC.out)
   rw[hse] at q2;have HSE:Hid (t.2=.slice sa t.1.1.cla.length sc):=hse;have HNX:Hid ((D++[(t.1.1,t.2)]).map (·.1)=(R.take (k+1)).map (·.1.1)):=by
    show _=_;rw[List.map_append,HD.out,List.take_add_one,ht,List.map_append];rfl
   have hcc:R.length≤c3:=by omega
   unfold maxLen at hc42;have hcm:c3≤2 ^ 63 - 1:=by omega
   clear he5 he6 hc41 hc42 hn4 hse ha4 ht;have hbs:=HBW.out.size;obtain⟨kd,hkd⟩:∃kd,t.1.1.kind=kd:=⟨_,rfl⟩;obtain⟨cn,hcn⟩:∃cn,t.1.1.con=cn:=⟨_,rfl⟩;obtain⟨hz,hhz⟩:∃hz:Nat,t.1.2=hz:=⟨_,rfl⟩;obtain⟨nl,hnl⟩:∃nl,t.1.1.cla.length=nl:=⟨_,rfl⟩;rw[hkd] at q0;rw[hcn] at q1;rw[hhz] at q3;rw[hnl] at q2 HSE;have HSC:Hid (zBi (t.1.1,t.2)=[.int .i64 kd,.int .i64 cn,.slice sa nl sc]):=by show _=_;unfold zBi;rw[HSE.out,hkd,hcn]
   have HSL2:Hid (∀V:World,∀(j:Nat) (u:Value),([.int .i64 kd,.int .i64 cn,.slice sa nl sc]:List Value)[j]? = some u→(V.alloc (.cells #[.int .i64 kd,.int .i64 cn,.slice sa nl sc] 93)).cell? ((⟨V.heap.size,0,none⟩:Addr).add j)=some u):=fun V=>by
    have h1:=zIT V (⟨kd,cn,[]⟩,.slice sa nl sc);exact h1
   clear hkd hcn hhz hnl;have HBX:Hid (Below wr.heap.size wr (wr.alloc (.cells #[.int .i64 kd,.int .i64 cn,.slice sa nl sc,.int .u64 (hz:Int)] 287))):=zAA _ _;go_upto_region 7 with (fail)
   obtain⟨V,hV⟩:∃V,wr.alloc (.cells #[.int .i64 kd,.int .i64 cn,.slice sa nl sc,.int .u64 (hz:Int)] 287)=V:=⟨_,rfl⟩;have k0:(wr.alloc (.cells #[.int .i64 kd,.int .i64 cn,.slice sa nl sc,.int .u64 (hz:Int)] 287)).cell? ⟨wr.heap.size,0,none⟩=some (.int .i64 kd):=World.cell?_alloc_at _ _ _ 0 (by simp)
   have k1:(wr.alloc (.cells #[.int .i64 kd,.int .i64 cn,.slice sa nl sc,.int .u64 (hz:Int)] 287)).cell? ⟨wr.heap.size,1,none⟩=some (.int .i64 cn):=World.cell?_alloc_at _ _ _ 1 (by simp)
   have k2:(wr.alloc (.cells #[.int .i64 kd,.int .i64 cn,.slice sa nl sc,.int .u64 (hz:Int)] 287)).cell? ⟨wr.heap.size,2,none⟩=some (.slice sa nl sc):=World.cell?_alloc_at _ _ _ 2 (by simp)
   rw[hV] at HBX k0 k1 k2 ⊢;clear hV q0 q1 q2 q3;have hvs:=HBX.out.size;have HBV2:Hid (Below w.heap.size w V):=HBW.out.trans (HBX.out.mono HBW.out.size);have HSV:Hid (zCP w.heap.size (V.alloc (.cells #[.int .i64 kd,.int .i64 cn,.slice sa nl sc] 93)) (.slice ad k cd) D):=(HSO.out.below HBX.out).below (zAA _ _);have HOV:Hid ((V.alloc (.cells #[.int .i64 kd,.int .i64 cn,.slice sa nl sc] 93)).ownsRow w.heap.size 93 3 (.slice ad k cd) k (D.map zBi).flatten):=by have:=HSV.out.1;rw[hDk] at this;exact this
   go_wp2_with (at_builtin;refine wpList_append_own _ rfl _ _ 27 rfl w.heap.size 93 i0 (.agg #[.int .i64 0,.int .i64 0,.slice none 0 0]) 3 40 Tryz.underStepsF hi0 hz0 hz1 hz2 rfl (by decide) _ _ _ rfl HOV.out ⟨V.heap.size,0,none⟩ 1 1 [.int .i64 kd,.int .i64 cn,.slice sa nl sc] rfl rfl (HSL2.out V) (by intro u hu;simp at hu;rcases hu with rfl | rfl | rfl <;> rfl) ?c1 ?c2 ?c3 ?_)
   case c1=>unfold maxLen;omega
   case c2=>omega
   case c3=>simp;omega
   intro v6 w6 hown6 hg6 _;have HBA:Hid (Below wr.heap.size wr (V.alloc (.cells #[.int .i64 kd,.int .i64 cn,.slice sa nl sc] 93))):=HBX.out.alloc hvs _;have HS6:Hid (zCP w.heap.size w6 v6 (D++[(t.1.1,t.2)])):=zCP.push HSV.out (zAG HTC.out HBA.out) hg6 (by rw[hDk]) (by rw[HSC.out];exact hown6)
   have HR6:Hid (ROwn w.heap.size w6 (.slice (some ⟨b4,o4,none⟩) R.length c3) R):=zBb (zAG HRR.out HBA.out) hg6 HOV.out (by decide)
   have HC6:Hid (∀x∈R,LOwn w.heap.size w6 x.2 x.1.1.cla):=fun x hx=>zBb (zAG (HCR.out x hx) HBA.out) hg6 HOV.out (by decide)
   have HB6:Hid (Below w.heap.size w w6):=(HBV2.out.alloc HBV2.out.size _).grown hg6 (by have:=HBV2.out.size;simp;omega) (fun g hg=>(HOV.out.lt g hg).1)
   obtain⟨a9,c9,rfl⟩:=zAB hown6;clear hown6 hg6 k0 k1 k2;go_wp2
   go_roundw
   case rel=>exact⟨k+1,by omega,by go_num,D++[(t.1.1,t.2)],HNX.out,HS6.out,HR6.out,HC6.out,HB6.out⟩
   case measure=>simp[intOf];omega
  ·have HFD:Hid (D.map (·.1)=R.map (·.1.1)):=by have h1:=HD.out;rw[List.take_of_length_le (by omega)] at h1;exact h1
   have HDK:Hid (D.length=k):=hDk;clear hDk;go_wp2_with fail
   refine (zLM cl HCL.out _ _ (HU.out _ HBW.out)).mono ?_;rintro e w5 ⟨x,rfl,hx,hb5⟩;have HX:Hid (LOwn w.heap.size w5 x cl):=zBS HBW.out.size hx;have HB5:Hid (Below w.heap.size w w5):=HBW.out.trans (hb5.mono HBW.out.size);have HS5:Hid (zCP w.heap.size w5 (.slice ad k cd) D):=HSO.out.below hb5;obtain⟨ax,cx,rfl⟩:=zAB (show w5.ownsRow _ _ _ _ _ _ from hx)
   clear hx hb5;have hs5:=HB5.out.size;have HSV:Hid (zCP w.heap.size (w5.alloc (.cells #[.int .i64 2,.int .i64 0,.slice ax cl.length cx] 93)) (.slice ad k cd) D):=HS5.out.below (zAA _ _);have HOV:Hid ((w5.alloc (.cells #[.int .i64 2,.int .i64 0,.slice ax cl.length cx] 93)).ownsRow w.heap.size 93 3 (.slice ad k cd) k (D.map zBi).flatten):=by have:=HSV.out.1;rw[HDK.out] at this;exact this
   go_wp2_with (at_builtin;refine wpList_append_own _ rfl _ _ 27 rfl w.heap.size 93 i0 (.agg #[.int .i64 0,.int .i64 0,.slice none 0 0]) 3 40 Tryz.underStepsF hi0 hz0 hz1 hz2 rfl (by decide) _ _ _ rfl HOV.out ⟨w5.heap.size,0,none⟩ 1 1 [.int .i64 2,.int .i64 0,.slice ax cl.length cx] rfl rfl (zIT w5 (⟨2,0,cl⟩,.slice ax cl.length cx)) (by intro u hu;simp at hu;rcases hu with rfl | rfl | rfl <;> rfl) ?c1 ?c2 ?c3 ?_)
   case c1=>unfold maxLen;omega
   case c2=>omega
   case c3=>simp;omega
   intro v6 w6 hown6 hg6 _;have HS6:Hid (zCP w.heap.size w6 v6 (D++[((⟨2,0,cl⟩:MStep),Value.slice ax cl.length cx)])):=zCP.push HSV.out (zAG HX.out (zAA _ _)) hg6 (by rw[HDK.out]) hown6
   have HB6:Hid (Below w.heap.size w w6):=(HB5.out.alloc hs5 _).grown hg6 (by simp;omega) (fun g hg=>(HOV.out.lt g hg).1)
   have HM6:Hid ((D++[((⟨2,0,cl⟩:MStep),Value.slice ax cl.length cx)]).map (·.1)=ST):=by
    show _=_;rw[HST.out,←HRM.out,List.map_append,HFD.out,List.map_map];rfl
   have HL6:Hid ((D++[((⟨2,0,cl⟩:MStep),Value.slice ax cl.length cx)]).length≤1500):=by show _≤_;rw[List.length_append,HDK.out];simp;omega
   obtain⟨a9,c9,rfl⟩:=zAB hown6;clear hown6 hg6;go_wp2
   go_ret
   exact⟨_,_,rfl,HM6.out,HS6.out,HL6.out,HB6.out⟩
theorem zDn {P:Program} (w:World) {o:Oper} {a:Act} {K:Act→World→Prop} {Q:Exit→Act→World→Prop} (s x:Operand) (t:TypeId)
 (ho:o.op=.call { callee:=.builtin .append,args:=#[s,x],argTypes:=#[t,t] })
 (base:Nat) (e:TypeId) (i:TypeInfo) (z:Value) (size bytes:Nat) (ht:P.underlying t=some (.slice e)) (hi:P.info? e=some i) (hz:i.zero=some z)
 (hsize:i.size=size) (hby:i.bytes=bytes) (hzs:z.cells.size=size) (hsz:0<size)
 (v:Value) (n:Nat) (xs:List Value) (hs:a.eval s=v) (hown:w.ownsRow base e size v n xs)
 (ad:Addr) (m c:Nat) (news:List Value) (hx:a.eval x=.slice (some ad) m c) (hl:news.length=m * size) (hnews:∀j u,news[j]? = some u→w.cell? (ad.add j)=some u) (h1:∀u∈news,u.oneCell'=true)
 (h63:n+m≤maxLen) (hbytes:(n+m) * bytes≤140737488355328) (hbase:base≤w.heap.size)
 (h:∀v' w',w'.ownsRow base e size v' (n+m) (xs++news)→w.grownBy w' v.ownBlock→(v'.ownBlock=v.ownBlock∨v'.ownBlock=some w.heap.size)→K (a.put o.dst v') w'):o.wp P a w K Q:=by
 obtain⟨v',w',hr,h2,h3,_,h4⟩:=run_append_own_at (P:=P) (w:=w) base t o.type e i z size bytes ht hi hz hsize hby hzs hsz v n xs hown ad m c news hl hnews h1 h63 hbytes hbase;unfold Oper.wp execOp;simp only[ho,resolve,invoke,builtin,Sem.run_bind,Sem.run_pure,Result.andThen_ok,List.map_toArray,List.map_cons,List.map_nil,hs,hx,hr];exact h v' w' h2 h3 h4
def zFn (w:World) (B n:Nat) (cells:List Value) (M:Sto):Prop :=
 w.ownsRow B 26 1 (.slice (some ⟨B,0,none⟩) n n) n cells∧M.length=n ∧
 (∀(i:Nat) (r:List Int),M[i]? = some r→∃x,cells[i]? = some x∧w.ownsRow (B+1) 3 1 x r.length (r.map (Value.int .i64))) ∧
 (∀(i j:Nat) (x y:Value) (g:Nat),i≠j→cells[i]? = some x→cells[j]? = some y→x.ownBlock=some g→y.ownBlock≠some g)
theorem zFn.kept {w w':World} {B n:Nat} {cells:List Value} {M:Sto} (h:zFn w B n cells M) (hb:Below w.heap.size w w'):zFn w' B n cells M:=by
 obtain⟨h1,h0,h2,h3⟩:=h;refine⟨zAG h1 hb,h0,fun i r hr=>?_,h3⟩
 obtain⟨y,hy,hoy⟩:=h2 i r hr;exact⟨y,hy,zAG hoy hb⟩
theorem zFn.push {w w3:World} {B n:Nat} {cells:List Value} {M:Sto} {k:Nat} {r:List Int} {x v3:Value} {z:Int} (h:zFn w B n cells M) (hM:M[k]? = some r) (hx:cells[k]? = some x)
 (ho:w3.ownsRow (B+1) 3 1 v3 (r++[z]).length ((r++[z]).map (Value.int .i64))) (hg:w.grownBy w3 x.ownBlock) (hat:v3.ownBlock=x.ownBlock∨v3.ownBlock=some w.heap.size) :
 zFn (w3.setCell ⟨B,k,none⟩ v3) B n (cells.set k v3) (M.set k (r++[z])):=by
 obtain⟨h1,h0,h2,h4⟩:=h;obtain⟨y,hy,hoy⟩:=h2 k r hM;rw[hx] at hy;cases hy;have hxK:∀g,x.ownBlock=some g→B+1≤g:=fun g hg=>(hoy.lt g hg).1
 have hB:B<w.heap.size:=(h1.lt B rfl).2;have hne:some B≠x.ownBlock:=fun h=>by have:=hxK B h.symm;omega
 have h13:w3.ownsRow B 26 1 (.slice (some ⟨B,0,none⟩) n n) n cells:=h1.kept hg (Or.inr hne);have hlen:cells.length=n:=by have:=h1.1;omega
 have hkn:k<n:=by rw[←h0];exact (List.getElem?_eq_some_iff.1 hM).1
 have hold:∀(j:Nat) (y:Value),j≠k→cells[j]? = some y→∀g,y.ownBlock=some g→g<w.heap.size:=fun j y hj hy g hg=>by
  have hjn:j<n:=by rw[←hlen];exact (List.getElem?_eq_some_iff.1 hy).1
  obtain⟨y',hy',ho'⟩:=h2 j M[j] (by rw[List.getElem?_eq_getElem (by omega)])
  rw[hy] at hy';cases hy';exact (ho'.lt g hg).2
 refine⟨(h13.stored k v3).1,by simpa using h0,fun i q hq=>?_,fun i j y u g hij hyi hyj hg1=>?_⟩
 ·by_cases hik:i=k
  ·subst hik
   rw[List.getElem?_set_self (by omega)] at hq
   cases hq
   refine⟨v3,by rw[List.getElem?_set_self (by omega)],zFs ho fun g hg2=>Below.heap_setCell _ _ _ _ ?_⟩
   have:=(ho.lt g hg2).1;simp only;omega
  ·rw[List.getElem?_set_ne (by omega)] at hq
   obtain⟨y,hy,hoy2⟩:=h2 i q hq;refine⟨y,by rw[List.getElem?_set_ne (by omega)];exact hy,?_⟩
   have h23:w3.ownsRow (B+1) 3 1 y q.length (q.map (Value.int .i64)):=by
    refine hoy2.kept hg ?_;cases hyb:y.ownBlock with
    | none=>exact Or.inl rfl
    | some g=>exact Or.inr fun he=>h4 i k y x g hik hy hx hyb he.symm
   refine zFs h23 fun g hg2=>Below.heap_setCell _ _ _ _ ?_
   have:=(hoy2.lt g hg2).1;simp only;omega
 ·by_cases hik:i=k
  ·subst hik
   rw[List.getElem?_set_self (by omega)] at hyi
   cases hyi
   rw[List.getElem?_set_ne (by omega)] at hyj
   rcases hat with hat | hat
   ·rw[hat] at hg1
    exact h4 _ j x u g hij hx hyj hg1
   ·rw[hat] at hg1
    intro hu;have:=hold j u (Ne.symm hij) hyj g hu;have:=Option.some.inj hg1;omega
  ·rw[List.getElem?_set_ne (by omega)] at hyi
   by_cases hjk:j=k
   ·subst hjk
    rw[List.getElem?_set_self (by omega)] at hyj
    cases hyj
    rcases hat with hat | hat
    ·rw[hat]
     exact h4 i _ y x g hij hyi hx hg1
    ·rw[hat]
     intro hu;have:=hold i y hij hyi g hg1;have:=Option.some.inj hu;omega
   ·rw[List.getElem?_set_ne (by omega)] at hyj
    exact h4 i j y u g hij hyi hyj hg1
theorem zFn.rarg {w:World} {B n:Nat} {cells:List Value} {M:Sto} (h:zFn w B n cells M):RArg w (.slice (some ⟨B,0,none⟩) n n) M:=by
 obtain⟨h1,h0,h2,_⟩:=h;have hB:B<w.heap.size:=(h1.lt B rfl).2;have hmx:n≤maxLen:=by
  rcases h1.2 with ⟨h',_⟩ | ⟨g,cap,cur,h',_,_,hc1,hc2,_⟩
  ·cases h'
  ·exact Nat.le_trans hc1 hc2
 refine⟨_,n,by rw[h0],⟨by omega,hmx⟩,fun i r hr=>?_⟩
 have hi:i<n:=by rw[←h0];exact (List.getElem?_eq_some_iff.1 hr).1
 obtain⟨x,hx,ho⟩:=h2 i r hr;exact⟨B,0,x,rfl,hB,by rw[Nat.zero_add,h1.cellAt i (by omega)];exact hx,zD5 ho⟩
theorem zMy (vs:List MVar) (hva:zAW vs) (p:Nat) (hp:∀i,p.testBit i=true→(zAD vs).testBit i=true):∀l∈zBj vs p,0≤l.var∧l.var<(vs.length:Int)∧-100≤l.n∧l.n≤100:=by
 intro l hl;unfold zBj at hl;obtain⟨i,hi,rfl⟩:=List.mem_map.1 hl;unfold zEQ at hi;have hb:=hp i (List.mem_filter.1 hi).2;unfold zAD ofP at hb;rw[zAc vs hva.1] at hb;simp only[Bool.and_eq_true,decide_eq_true_eq] at hb;have h1:=hva.2 (i / 6) hb.1;have h2:=hva.1.2 (i / 6);simp only;omega
theorem zMz (ls:Cla) (k:Nat) (l:MLit) (h:ls[k]? = some l) (s:Sto):zB7 (ls.take (k+1)) s=(zB7 (ls.take k) s).set l.var.toNat ((zB7 (ls.take k) s).getD l.var.toNat []++[l.n]):=by
 rw[List.take_add_one,h];generalize ls.take k=q
 induction q generalizing s with
 | nil=>simp[zB7]
 | cons x r ih=>simp only[List.cons_append];unfold zB7;exact ih _
theorem zFP:∀(c:Cla) (s:Sto) (v:Nat),((zB7 c s).getD v []).length≤(s.getD v []).length+c.length
 | [],s,v=>by simp[zB7]
 | l :: r,s,v=>by
   unfold zB7;have:=zFP r (s.set l.var.toNat (s.getD l.var.toNat []++[l.n])) v;have h2:((s.set l.var.toNat (s.getD l.var.toNat []++[l.n])).getD v []).length≤(s.getD v []).length+1:=by
    by_cases he:l.var.toNat=v
    ·subst he
     by_cases hl:l.var.toNat<s.length
     ·simp[List.getD_eq_getElem?_getD,hl]
     ·simp[List.getD_eq_getElem?_getD,Nat.le_of_not_lt hl]
    ·simp[List.getD_eq_getElem?_getD,he]
   rw[List.length_cons];omega
theorem zLW {base:Nat} {w:World} {a:Option Addr} {c:Nat} {l:Cla} (h:LOwn base w (.slice a l.length c) l) (i:Nat) (t:MLit) (hi:l[i]? = some t):∃b off,a=some ⟨b,off,none⟩∧b<w.heap.size ∧
 w.cell? ⟨b,off+i * 3,none⟩=some (.int .i64 t.var)∧w.cell? ⟨b,off+i * 3+1,none⟩=some (.int .i64 t.op)∧w.cell? ⟨b,off+i * 3+2,none⟩=some (.int .i64 t.n):=by
 obtain⟨a',c',he,_,h2⟩:=h.arg;cases he
 exact h2 i t hi
theorem zOt (vs:List MVar) (hva:zAW vs) (p:Nat) (hp:∀i,p.testBit i=true→(zAD vs).testBit i=true) (sv:Value) (w:World) (hv:VArg w sv vs) (hT:TabT w) :
 Calls Tryz.prog 134 #[sv,.int .u64 p] w fun e w'=>∃B cells,e=.returned (.slice (some ⟨B,0,none⟩) vs.length vs.length)∧zFn w' B vs.length cells (zAh vs p)∧w.heap.size≤B∧Below w.heap.size w w':=by
 have h6:=hva.1.1;have HLT:Hid (∀Y,Below w.heap.size w Y→Calls Tryz.prog 197 #[sv,.int .u64 p] Y fun e w'=>∃x,e=.returned x∧LOwn Y.heap.size w' x (zBj vs p)∧Below Y.heap.size Y w'):=fun Y hY=>zIN vs hva p hp sv Y (VArg.below hY hv) (hT.below hY)
 have HBD:Hid (∀l∈zBj vs p,0≤l.var∧l.var<(vs.length:Int)∧-100≤l.n∧l.n≤100):=zMy vs hva p hp;have hl36:=zEr vs p;unfold zAh;obtain⟨ls,hls⟩:∃ls,zBj vs p=ls:=⟨_,rfl⟩;rw[hls] at HLT HBD hl36 ⊢;obtain⟨a,c,rfl,_,_⟩:=hv;obtain⟨n,hn⟩:∃n,vs.length=n:=⟨_,rfl⟩;rw[hn] at HLT HBD h6 ⊢;obtain⟨wm,hrun,hrows,hbm⟩:=zOh n h6 w;have HROWS:Hid (zFn wm w.heap.size n (List.replicate n (.slice none 0 0)) (List.replicate n [])):=by
  obtain⟨k1,k2,k3⟩:=hrows (List.replicate n []);refine⟨k1,by simp,fun i r hr=>?_,fun i j x y g _ hx _ hg=>?_⟩
  ·have hi:i<n:=by have:=(List.getElem?_eq_some_iff.1 hr).1;simpa using this
   have:r=[]:=by rw[List.getElem?_replicate,if_pos hi] at hr;exact (Option.some.inj hr).symm
   subst this;exact⟨_,k3 i (Nat.zero_le _) hi,World.ownsRow_nil _ _ _ _⟩
  ·rw[List.getElem?_replicate] at hx
   split at hx
   ·cases hx;cases hg
   ·cases hx
 have HBM:Hid (Below w.heap.size w wm):=hbm;obtain⟨B,hB⟩:∃B,B=w.heap.size:=⟨_,rfl⟩;rw[←hB] at hrun HROWS;have hBw:w.heap.size≤B:=by omega
 obtain⟨i0,hi,hz0,hz1,hz2⟩:=info_parts Tryz.infoInt;clear hrows hbm hB hls hva hp hT hn;go_enter Tryz.func134,Tryz.ntmps134
 go_wp2_with fail
 clear hrun;refine (HLT.out _ HBM.out).mono ?_;rintro e w1 ⟨x,rfl,hown,hb1⟩;obtain⟨K,hK⟩:∃K,wm.heap.size=K:=⟨_,rfl⟩;rw[hK] at hown;have HLO:Hid (LOwn K w1 x ls):=hown;have HG1:Hid (zFn w1 B n (List.replicate n (.slice none 0 0)) (List.replicate n [])):=HROWS.out.kept hb1;have HB1:Hid (Below w.heap.size w w1):=HBM.out.trans (hb1.mono HBM.out.size);obtain⟨al,cl,rfl⟩:=zAB (show w1.ownsRow _ _ _ _ _ _ from hown)
 clear hK hown hb1 HROWS HBM HLT;go_wp2_with fail
 go_loopw [15] (fun i wr=>∃(k:Nat) (cells:List Value),k≤ls.length∧i=.int .i64 k∧zFn wr B n cells (zB7 (ls.take k) (List.replicate n []))∧LOwn K wr (.slice al (List.length ls) cl) ls∧Below w.heap.size w wr) (fun i _=>ls.length - (intOf i).toNat)
 case atStart=>exact⟨0,_,by omega,rfl,HG1.out,HLO.out,HB1.out⟩
 case round =>
  obtain⟨k,cells,hk,rfl,hg,hlo,hbw⟩:=hrel;have HG:Hid (zFn wr B n cells (zB7 (ls.take k) (List.replicate n []))):=hg;have HLO2:Hid (LOwn K wr (.slice al (List.length ls) cl) ls):=hlo;have HBW:Hid (Below w.heap.size w wr):=hbw;clear hg hlo hbw;by_cases hlt:k<ls.length
  ·obtain⟨l,hl⟩:∃l,ls[k]? = some l:=⟨ls[k],by simp[hlt]⟩
   have HN:Hid (zB7 (ls.take (k+1)) (List.replicate n [])=(zB7 (ls.take k) (List.replicate n [])).set l.var.toNat ((zB7 (ls.take k) (List.replicate n [])).getD l.var.toNat []++[l.n])):=zMz ls k l hl _;obtain⟨b0,b1,b2,b3⟩:=HBD.out l (List.mem_of_getElem? hl);obtain⟨M,hM⟩:∃M,zB7 (ls.take k) (List.replicate n [])=M:=⟨_,rfl⟩;rw[hM] at HN HG;have hML:M.length=n:=HG.out.2.1;obtain⟨lv,lo,ln⟩:=l;simp only at b0 b1 b2 b3;obtain⟨v,rfl⟩:∃v:Nat,lv=(v:Int):=⟨lv.toNat,by omega⟩
   obtain⟨r,hr⟩:∃r,M[v]? = some r:=⟨M[v],by rw[List.getElem?_eq_getElem (by omega)]⟩
   have HR:Hid (M[v]? = some r):=hr;have HN2:Hid (zB7 (ls.take (k+1)) (List.replicate n [])=M.set v (r++[ln])):=by
    show _=_;rw[HN.out];simp only[Int.toNat_natCast];rw[List.getD_eq_getElem?_getD,hr];rfl
   have hrl:r.length≤36:=by
    have:=zFP (ls.take k) (List.replicate n []) v;rw[hM,List.getD_eq_getElem?_getD,hr] at this;simp only[Option.getD_some,List.length_take] at this;have h0:((List.replicate n ([]:List Int)).getD v []).length=0:=by simp[List.getD_eq_getElem?_getD,show v<n by omega]
    omega
   obtain⟨htop,_,hrws,_⟩:=HG.out;obtain⟨x,hx,hox⟩:=hrws v r hr;have HX:Hid (cells[v]? = some x):=hx;obtain⟨ax,cx,rfl⟩:=zAB hox;have hcx:wr.cell? ⟨B,v,none⟩=some (.slice ax r.length cx):=by rw[htop.cellAt v (by omega)];exact hx
   have hlB:B<wr.heap.size:=(htop.lt B rfl).2;obtain⟨ad,off,hal,hlb,hc0,hc1,hc2⟩:=zLW HLO2.out k _ hl;subst hal;simp only at hc0 hc1 hc2;have hbs:=HBW.out.size;clear hl hr hx hM htop hrws HN;go_wp2_with fail
   obtain⟨Y,hY⟩:∃Y,wr.alloc (.cells #[.int .i64 (v:Int),.int .i64 lo,.int .i64 ln] 88)=Y:=⟨_,rfl⟩;rw[hY];have hBY:Below wr.heap.size wr Y:=by rw[←hY];exact zAA _ _
   have HGY:Hid (zFn Y B n cells M):=HG.out.kept hBY;have HLOY:Hid (LOwn K Y (.slice (some ⟨ad,off,none⟩) (List.length ls) cl) ls):=zAG (show wr.ownsRow _ _ _ _ _ _ from HLO2.out) hBY
   have HBY:Hid (Below w.heap.size w Y):=HBW.out.trans (hBY.mono hbs);have hoxY:Y.ownsRow (B+1) 3 1 (.slice ax r.length cx) r.length (r.map (Value.int .i64)):=zAG hox hBY;have d0:Y.cell? ⟨wr.heap.size,0,none⟩=some (.int .i64 (v:Int)):=by rw[←hY];simp
   have d2:Y.cell? ⟨wr.heap.size,2,none⟩=some (.int .i64 ln):=by rw[←hY];simp
   have dl:wr.heap.size<Y.heap.size:=by rw[←hY];simp
   have dB:Y.cell? ⟨B,v,none⟩=some (.slice ax r.length cx):=(hBY.cell (p:=⟨B,v,none⟩) hlB).trans hcx;have dlB:B<Y.heap.size:=by omega
   have hvn:v<n:=by omega
   have hvn2:(v:Int)<(n:Int):=by omega
   obtain⟨q,hq⟩:∃q,wr.heap.size=q:=⟨_,rfl⟩;have HXQ:Hid (some q≠(Value.slice ax r.length cx).ownBlock):=fun h=>by have:=(hox.lt q h.symm).2;omega
   rw[hq] at d0 d2 dl ⊢;clear hc0 hc1 hc2 hcx hox hY hBY hq HG HLO2 hlB hlb;go_region_law
    (first
      | (rw[if_pos (by rfl)];refine zDn _ _ _ 26 rfl (B+1) 3 i0 _ 1 8 Tryz.underlying26 hi hz0 hz1 hz2 rfl (by decide) _ _ _ rfl (hoxY.drew.alloc _) ⟨Y.heap.size,0,none⟩ 1 1 [.int .i64 ln] rfl rfl (zSC Y.drew ln) (by intro u hu;simp at hu;subst hu;rfl) ?_ ?_ ?_ ?_;(unfold maxLen;omega);omega;(simp;omega);intro v4 w4 hown4 hg4 hat4;obtain⟨av,cv,hv4⟩:=zAB hown4;subst hv4;have ht4:w4.ownsRow B 26 1 (.slice (some ⟨B,0,none⟩) n n) n cells:=(HGY.out.1.drew.alloc _).kept hg4 (Or.inr (fun h=>by have:=(hoxY.lt B h.symm).1;omega));have hcB:w4.cell? ⟨B,v,none⟩=some (.slice ax r.length cx):=by rw[ht4.cellAt v (by omega)];exact HX.out
         have hfB:w4.frozen? ⟨B,v,none⟩=false:=ht4.frozenAt v;have hl4:B<w4.heap.size:=(ht4.lt B rfl).2;have e0:w4.cell? ⟨q,0,none⟩=some (.int .i64 (v:Int)):=hg4.cell ((((Below.refl _ _).drew.alloc (Nat.le_refl _) _:Below Y.heap.size Y _).cell (p:=⟨q,0,none⟩) dl).trans d0) HXQ.out;have el:q<w4.heap.size:=by have:=hg4.size;simp at this;omega))
   all_goals
    have hown5:w4.ownsRow (B+1) 3 1 (.slice av (r.length+1) cv) (r++[ln]).length ((r++[ln]).map (Value.int .i64)):=by
     rw[List.length_append,List.map_append];exact hown4
    have HP:Hid (zFn (w4.setCell ⟨B,v,none⟩ (.slice av (r.length+1) cv)) B n (cells.set v (.slice av (r.length+1) cv)) (M.set v (r++[ln]))) :=
     (HGY.out.kept ((Below.refl _ _).drew.alloc (Nat.le_refl _) _)).push HR.out HX.out hown5 hg4 hat4
    have HB5:Hid (Below w.heap.size w (w4.setCell ⟨B,v,none⟩ (.slice av (r.length+1) cv))) :=
     ((HBY.out.drew.alloc HBY.out.size _).grown hg4 (by have:=HBY.out.size;simp;omega) (fun g h=>by have:=(hoxY.lt g h).1;omega)).setCell (by simp only;omega) _
    have HL5:Hid (LOwn K (w4.setCell ⟨B,v,none⟩ (.slice av (r.length+1) cv)) (.slice (some ⟨ad,off,none⟩) (List.length ls) cl) ls):=by
     have h1:(Y.drew.alloc (.cells #[.int .i64 ln] 3)).ownsRow K 88 3 (.slice (some ⟨ad,off,none⟩) (List.length ls) cl) ls.length (zBx ls):=(show Y.drew.ownsRow _ _ _ _ _ _ from HLOY.out).alloc _
     have h2:=zBb h1 hg4 (hoxY.drew.alloc _) (by decide)
     rcases ht4.2 with ⟨h',_⟩ | ⟨g,cap,cur,h',_,hh,_⟩
     ·cases h'
     ·cases h'
      exact zAu h2 hh (by decide) v _
    go_wp2
    go_roundw
    case rel=>exact⟨k+1,_,by omega,by go_num,by rw[HN2.out];exact HP.out,HL5.out,HB5.out⟩
    case measure=>simp[intOf];omega
  ·have HN:Hid (ls.take k=ls):=List.take_of_length_le (by omega)
   go_wp2
   go_ret
   rw[HN.out] at HG;exact⟨_,_,rfl,HG.out,hBw,HBW.out⟩
end Go.Proofs.YtdjbejlbmaiocagGreatDoor
