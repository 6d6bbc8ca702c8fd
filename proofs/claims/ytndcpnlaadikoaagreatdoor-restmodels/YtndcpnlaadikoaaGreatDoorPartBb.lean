/- What the proof leans on, part 28. -/
import Derived.Test.YtndcpnlaadikoaaGreatDoorPartBa
import Derived.Test.YtndcpnlaadikoaaGreatDoorPartAt
import Derived.Test.YtndcpnlaadikoaaGreatDoorPartAy
import Derived.Test.YtndcpnlaadikoaaGreatDoorPartAm
import Derived.Test.YtndcpnlaadikoaaGreatDoorPartAv
set_option maxRecDepth 100000
set_option maxHeartbeats 6400000
namespace Go.Proofs.YtndcpnlaadikoaaGreatDoor
open Go.RowKit
theorem PArg.lt36 {w:World} {v:Value} {l:List Nat} (h:PArg w v l):∀z∈l,z<2 ^ 36:=by
 intro z hz;obtain⟨a,c,_,_,hr⟩:=h;obtain⟨i,hi⟩:=List.mem_iff_getElem?.1 hz;exact (hr i z hi).1
theorem zL1 (vs:List MVar) (hva:zAQ vs) (hn1:1≤vs.length) (pt:List (List Nat)) (cs:List Nat) (hcs:cs.length≤100000) (h:Nat) (hh:h<2 ^ 36) (r:Nat) (sv pv cv:Value) (c:List RV) (hcl:c.length≤5000) (hc36:∀x∈c,x.1.2<2 ^ 36) (hsl:∀x∈c,IsSl x) (v:Value) (b1 bh:Nat) (w:World) (hR:RulesAt w r sv pv cv vs pt cs) (hv:zGN w v c)
 (h1:w.cell? ⟨b1,0,none⟩=some (.pointer (some ⟨r,0,none⟩))) (h2:w.cell? ⟨bh,0,none⟩=some (.int .u64 h)) (hl1:b1<w.heap.size) (hl2:bh<w.heap.size) :
 Calls Tryz.prog 86 #[v,.pointer (some ⟨b1,0,none⟩),.pointer (some ⟨bh,0,none⟩)] w fun e w'=>e=.returned (.bool (zBw vs cs h (c.map (·.1))))∧Below w.heap.size w w':=by
 obtain⟨i0,hi0,hz0,hz1,hz2⟩:=info_parts Tryz.infoPart;have HR:Hid (∀Y,Below w.heap.size w Y→RulesAt Y r sv pv cv vs pt cs):=fun Y hY=>RulesAt.below hY hR
 have HV:Hid (∀Y,Below w.heap.size w Y→zGN Y v c):=fun Y hY=>zGN.below hY hv
 have HVO:Hid (zAQ vs):=hva;have H1:Hid (1≤vs.length):=hn1;have HH:Hid (h<2 ^ 36):=hh;have HCS:Hid (cs.length≤100000):=hcs;have HC36:Hid (∀x∈c,x.1.2<2 ^ 36):=hc36;have HCS36:Hid (∀z∈cs,z<2 ^ 36):=PArg.lt36 hR.hc;have HSL:Hid (∀x∈c,IsSl x):=hsl;have r2:=hR.c2;have rl:=hR.lt;have r0':=hR.c0;have HK1:Hid (∀Y,Below w.heap.size w Y→Y.cell? ⟨b1,0,none⟩=some (.pointer (some ⟨r,0,none⟩))∧Y.cell? ⟨bh,0,none⟩=some (.int .u64 h)∧Y.cell? ⟨r,0,none⟩=some sv∧b1<Y.heap.size∧bh<Y.heap.size∧r<Y.heap.size):=fun Y hY =>
  ⟨(hY.cell (p:=⟨b1,0,none⟩) hl1).trans h1,(hY.cell (p:=⟨bh,0,none⟩) hl2).trans h2,(hY.cell (p:=⟨r,0,none⟩) rl).trans r0',Nat.lt_of_lt_of_le hl1 hY.size,Nat.lt_of_lt_of_le hl2 hY.size,Nat.lt_of_lt_of_le rl hY.size⟩
 obtain⟨B,hB⟩:∃B,zBw vs cs h (c.map (·.1))=B:=⟨_,rfl⟩
 have HB:Hid (B=zCE vs (cs++c.map (·.1.2)) h):=by show _=_;rw[←hB];unfold zBw;rw[List.map_map];rfl
 rw[hB];obtain⟨a1,c1,rfl,_,_⟩:=hR.hv;obtain⟨a2,c2,rfl,_,_⟩:=hR.hc;obtain⟨a3,c3,he3⟩:=zPg hv;subst he3;clear hR hv hva hn1 hh hB hc36 hsl r0';go_enter Tryz.func86,Tryz.ntmps86
 go_wp2_with fail
 refine (zLz cs (by have:=HCS.out;omega) _ _ (HR.out _ (Below.refl _ _)).hc).mono ?_
 rintro e w1 ⟨x,rfl,hx,hb1⟩;have HX:Hid (w1.ownsRow w.heap.size 136 1 x cs.length (u64s cs)):=hx;have HB1:Hid (Below w.heap.size w w1):=hb1;obtain⟨ax,cx,rfl⟩:=zAC hx;clear hx hb1 r2 rl h1 h2;go_wp2_with fail
 go_loopw [5,15] (fun o i wr=>∃(k:Nat) (done:List Nat),k≤c.length∧i=.int .i64 k∧wr.ownsRow w.heap.size 136 1 o done.length (u64s done)∧Hid (done=cs++(c.take k).map (·.1.2))∧Below w.heap.size w wr) (fun _ i _=>c.length - (intOf i).toNat)
 case atStart=>exact⟨0,cs,by omega,rfl,HX.out,by show _=_;simp,HB1.out⟩
 case round =>
  obtain⟨k,done,hk,rfl,hown,hdn,hbw⟩:=hrel;have HOW:Hid (wr.ownsRow w.heap.size 136 1 u5 done.length (u64s done)):=hown;have HBW:Hid (Below w.heap.size w wr):=hbw;obtain⟨ao,co,rfl⟩:=zAC hown;have hdl:done.length≤105000:=by rw[hdn.out,List.length_append,List.length_map,List.length_take];have:=HCS.out;omega
  clear hown hbw;by_cases hlt:k<c.length
  ·obtain⟨t,ht⟩:∃t,c[k]? = some t:=⟨c[k],by simp[hlt]⟩
   obtain⟨a4,n4,c4,b4,o4,he4,hn4,hc41,hc42,ha4,hb4,q0,q1,q2,q3⟩:=zGn (HV.out _ HBW.out) k t ht
   injection he4 with he4 he5 he6
   rw[ha4] at he4;subst he4;obtain⟨sa,ns,sc,hse⟩:=HSL.out t (List.mem_of_getElem? ht);rw[hse] at q2;have HNX:Hid (done++[t.1.2]=cs++(c.take (k+1)).map (·.1.2)):=by
    show _=_;rw[hdn.out,List.take_add_one,ht,List.map_append,←List.append_assoc];rfl
   have hcc:c.length≤c3:=by omega
   unfold maxLen at hc42;have hcm:c3≤2 ^ 63 - 1:=by omega
   clear he5 he6 hc41 hc42 hn4 hse ha4 ht hdn;obtain⟨z,hz⟩:∃z,t.1.2=z:=⟨_,rfl⟩;rw[hz] at q3 HNX;have hbs:=HBW.out.size;have HBX:Hid (Below w.heap.size w (wr.alloc (.cells #[.int .i64 t.1.1.kind,.int .i64 t.1.1.con,.slice sa ns sc,.int .u64 (z:Int)] 145))):=HBW.out.alloc hbs _;have HO1:Hid ((wr.alloc (.cells #[.int .i64 t.1.1.kind,.int .i64 t.1.1.con,.slice sa ns sc,.int .u64 (z:Int)] 145)).ownsRow w.heap.size 136 1 (.slice ao done.length co) done.length (u64s done)):=HOW.out.alloc _;clear hz;go_upto_region 5 with (fail)
   obtain⟨V,hV⟩:∃V,wr.alloc (.cells #[.int .i64 t.1.1.kind,.int .i64 t.1.1.con,.slice sa ns sc,.int .u64 (z:Int)] 145)=V:=⟨_,rfl⟩;have k3:(wr.alloc (.cells #[.int .i64 t.1.1.kind,.int .i64 t.1.1.con,.slice sa ns sc,.int .u64 (z:Int)] 145)).cell? ⟨wr.heap.size,3,none⟩=some (.int .u64 (z:Int)):=World.cell?_alloc_at _ _ _ 3 (by simp)
   rw[hV] at HBX HO1 k3 ⊢;clear hV q0 q1 q2 q3;have hvs:=HBX.out.size;go_wp2_with (at_builtin;refine wpList_append_own _ rfl _ _ 139 rfl w.heap.size 136 i0 (.int .u64 0) 1 8 Tryz.underPart hi0 hz0 hz1 hz2 rfl (by decide) _ _ _ rfl (HO1.out.alloc _) ⟨V.heap.size,0,none⟩ 1 1 [.int .u64 (z:Int)] rfl rfl (zI3 V z) (by intro u hu;simp at hu;subst hu;rfl) ?c1 ?c2 ?c3 ?_)
   case c1=>unfold maxLen;omega
   case c2=>omega
   case c3=>simp;omega
   intro v6 w6 hown6 hg6 _;have HO6:Hid (w6.ownsRow w.heap.size 136 1 v6 (done++[z]).length (u64s (done++[z]))):=by
    show World.ownsRow _ _ _ _ _ _ _;unfold u64s at *;rw[List.length_append,List.map_append];exact hown6
   have HB6:Hid (Below w.heap.size w w6):=(HBX.out.alloc hvs _).grown hg6 (by simp;omega) (fun g hg=>(HO1.out.lt g hg).1)
   clear hown6 hg6 k3;go_wp2
   go_roundw
   case rel=>exact⟨k+1,done++[z],by omega,by go_num,HO6.out,HNX,HB6.out⟩
   case measure=>simp[intOf];omega
  ·have HFD:Hid (done=cs++c.map (·.1.2)):=by have h1:=hdn.out;rw[List.take_of_length_le (by omega)] at h1;exact h1
   have HPA:Hid (PArg wr (.slice ao done.length co) done):=zCu HOW.out (by
    rw[HFD.out];intro z hz;rcases List.mem_append.1 hz with h | h
    ·exact HCS36.out z h
    ·obtain⟨x,hx,rfl⟩:=List.mem_map.1 h
     exact HC36.out x hx)
   obtain⟨k1,k2,k3,m1,m2,m3⟩:=HK1.out _ HBW.out;have HBF:Hid (B=zCE vs done h):=by show _=_;rw[HB.out,HFD.out]
   have HFA:Hid (∀Y,Below wr.heap.size wr Y→Calls Tryz.prog 88 #[.slice a1 (List.length vs) c1,.slice ao done.length co,.int .u64 (h:Int)] Y fun e w'=>e=.returned (.bool B)∧Below Y.heap.size Y w'):=fun Y hY=>by
    rw[HBF.out];have hRY:=HR.out Y (HBW.out.trans (hY.mono HBW.out.size));exact zHw vs HVO.out H1.out done h HH.out _ _ Y hRY.hv (PArg.below hY HPA.out) hRY.tab
   clear hdn;go_upto_region 7 with (fail)
   go_region_held3 (fun w'=>Below wr.heap.size wr w'∧w'.cell? ⟨b1,0,none⟩=some (.pointer (some ⟨r,0,none⟩))∧w'.cell? ⟨bh,0,none⟩=some (.int .u64 h)∧w'.cell? ⟨r,0,none⟩=some (.slice a1 (List.length vs) c1))
    ((refine (fun (hB:Below wr.heap.size wr _)=>⟨hB,(hB.cell (p:=⟨b1,0,none⟩) m1).trans k1,(hB.cell (p:=⟨bh,0,none⟩) m2).trans k2,(hB.cell (p:=⟨r,0,none⟩) m3).trans k3⟩:Below wr.heap.size wr _→_) ?_;first | exact (Below.refl _ _).drew | exact zA7 (by assumption) hbq))
    (first
      | (go_at_call 88;refine (HFA.out _ (show Below wr.heap.size wr _∧_ by assumption).1).mono ?_;rintro e w3 ⟨rfl,hbq⟩;have hB3:=zA7 (by assumption) hbq))
   have HB3:Hid (Below w.heap.size w w3):=HBW.out.trans (hB3.mono HBW.out.size);clear hbq hB3 k1 k2 k3;go_wp2
   go_ret
   exact⟨rfl,HB3.out⟩
theorem zJp (args:Array Value) (w':World):Sem.run Tryz.prog (callFunc 86 args) w'=.ok (.enter 86 args) w':=by
 simp[callFunc,go_sem,Tryz.func86,Tryz.f86]
theorem Tryz.infoStepF:(Tryz.prog.info? 39).map (fun i=>(i.zero,i.size,i.bytes))=some (some (.agg #[.int .i64 0,.int .i64 0,.slice none 0 0]),3,40):=by kernel_rfl
theorem Tryz.underStepsF:Tryz.prog.underlying 32=some (.slice 39):=by kernel_rfl
abbrev SV:=MStep×Value
def zBM (x:SV):List Value:=[.int .i64 x.1.kind,.int .i64 x.1.con,x.2]
def zB0 (base:Nat) (w:World) (v:Value) (L:List SV):Prop:=w.ownsRow base 39 3 v L.length (L.map zBM).flatten∧∀x∈L,LOwn base w x.2 x.1.cla
theorem zB0.below {base:Nat} {w w':World} {v:Value} {L:List SV} (h:zB0 base w v L) (hb:Below w.heap.size w w'):zB0 base w' v L:=⟨zAB h.1 hb,fun x hx=>zAB (h.2 x hx) hb⟩
theorem zB0.mono {base base':Nat} {w:World} {v:Value} {L:List SV} (h:zB0 base w v L) (hb:base'≤base):zB0 base' w v L:=⟨World.ownsRow.mono h.1 hb,fun x hx=>zBJ hb (h.2 x hx)⟩
theorem zH2 (w:World) (x:SV):∀(j:Nat) (u:Value),(zBM x)[j]? = some u→(w.alloc (.cells #[.int .i64 x.1.kind,.int .i64 x.1.con,x.2] 39)).cell? ((⟨w.heap.size,0,none⟩:Addr).add j)=some u:=by
 intro j u hj
 match j,hj with
 | 0,hj=>simp[zBM] at hj;subst hj;simp[Addr.add]
 | 1,hj=>simp[zBM] at hj;subst hj;simp[Addr.add]
 | 2,hj=>simp[zBM] at hj;subst hj;simp[Addr.add]
theorem zB0.push {base n:Nat} {w w':World} {v v':Value} {L:List SV} {x:SV} (h:zB0 base w v L) (hx:LOwn base w x.2 x.1.cla) (hg:w.grownBy w' v.ownBlock) (hn:n=L.length+1) (ho:w'.ownsRow base 39 3 v' n ((L.map zBM).flatten++zBM x)):zB0 base w' v' (L++[x]):=by
 refine⟨?_,fun y hy=>?_⟩
 ·rw[List.length_append,List.length_singleton,←hn,List.map_append,List.flatten_append]
  simpa using ho
 ·rcases List.mem_append.1 hy with h3 | h3
  ·exact zBE (h.2 y h3) hg h.1 (by decide)
  ·rw[List.mem_singleton.1 h3];exact zBE hx hg h.1 (by decide)
theorem zKs {α β:Type} (f:α→β) (e:List β→Bool):∀(k:Nat) (l:List α),(zAx (fun c=>e (c.map f)) k l).map f=zAx e k (l.map f)
 | 0,l=>rfl
 | k+1,l=>by
   rw[zI4,zI4,zKs f e k,zHy]
   congr 1
   split <;> rfl
theorem zN9 (vs:List MVar) (hva:zAQ vs) (hn1:1≤vs.length) (pt:List (List Nat)) (cs:List Nat) (hcs:cs.length≤100000) (cl:Cla) (hcl:cl.length≤900) (r:Nat) (sv pv cv u:Value) (w:World) (hR:RulesAt w r sv pv cv vs pt cs) (hu:LArg w u cl) :
 Calls Tryz.prog 36 #[.pointer (some ⟨r,0,none⟩),u] w fun e w'=>∃v L,e=.returned v∧L.map (·.1)=zEe vs cs pt cl∧zB0 w.heap.size w' v L∧L.length≤1500∧Below w.heap.size w w':=by
 obtain⟨i0,hi0,hz0,hz1,hz2⟩:=info_parts Tryz.infoStepF;have HR:Hid (∀Y,Below w.heap.size w Y→RulesAt Y r sv pv cv vs pt cs):=fun Y hY=>RulesAt.below hY hR
 have HU:Hid (∀Y,Below w.heap.size w Y→LArg Y u cl):=fun Y hY=>LArg.below hY hu
 have HVO:Hid (zAQ vs):=hva;have H1:Hid (1≤vs.length):=hn1;have HCS:Hid (cs.length≤100000):=hcs;have HCL:Hid (cl.length≤900):=hcl;obtain⟨h,hh⟩:∃h,zAH vs cl=h:=⟨_,rfl⟩;have HH:Hid (zAH vs cl=h):=hh;have HH36:Hid (h<2 ^ 36):=by rw[←hh];exact zFi vs hva.1 _
 obtain⟨ST,hST⟩:∃ST,zEe vs cs pt cl=ST:=⟨_,rfl⟩;have HST:Hid (ST=(zAx (zBw vs cs h) (zAu vs cs pt h).length (zAu vs cs pt h)).map (·.1)++[⟨2,0,cl⟩]):=by show _=_;rw[←hST,←hh];rfl
 rw[hST];have r0:=hR.c0;have rl:=hR.lt;obtain⟨a1,c1,rfl,_,_⟩:=hR.hv;obtain⟨a2,c2,rfl,_,_⟩:=hu;clear hR hva hn1 hcs hcl hh hST;go_enter Tryz.func36,Tryz.ntmps36
 go_wp2_with fail
 refine (zCm vs HVO.out cl _ _ _ (HR.out _ (zAA _ _)).hv (HU.out _ (zAA _ _))).mono ?_;rintro e w1 ⟨rfl,hb1⟩;rw[HH.out];have HB1:Hid (Below w.heap.size w w1):=(zAA _ _).trans (hb1.mono (by simp))
 have HP1:Hid (w1.cell? ⟨w.heap.size,0,none⟩=some (.pointer (some ⟨r,0,none⟩))):=(hb1.cell (by simp)).trans (World.cell?_alloc_at _ _ _ 0 (by simp))
 have HS1:Hid (w.heap.size<w1.heap.size):=by have:=hb1.size;simp at this;show _<_;omega
 clear hb1 r0 rl;have k1:(w1.alloc (.cells #[.int .u64 (h:Int)] 136)).cell? ⟨w.heap.size,0,none⟩=some (.pointer (some ⟨r,0,none⟩)):=((zAA w1 _).cell (p:=⟨w.heap.size,0,none⟩) HS1.out).trans HP1.out;have k2:(w1.alloc (.cells #[.int .u64 (h:Int)] 136)).cell? ⟨w1.heap.size,0,none⟩=some (.int .u64 (h:Int)):=World.cell?_alloc_at _ _ _ 0 (by simp)
 have HBV:Hid (Below w.heap.size w (w1.alloc (.cells #[.int .u64 (h:Int)] 136))):=HB1.out.alloc HB1.out.size _;have HLV:Hid (w1.heap.size<(w1.alloc (.cells #[.int .u64 (h:Int)] 136)).heap.size):=by show _<_;simp
 obtain⟨G,hG⟩:∃G,w1.heap.size=G:=⟨_,rfl⟩;obtain⟨V,hV⟩:∃V,w1.alloc (.cells #[.int .u64 (h:Int)] 136)=V:=⟨_,rfl⟩;go_upto_region 4 with (fail)
 rw[hV] at HBV HLV;rw[hG] at HLV HS1;rw[hG,hV] at k2;rw[hV] at k1;have HK:Hid (∀Y,Below V.heap.size V Y→Y.cell? ⟨w.heap.size,0,none⟩=some (.pointer (some ⟨r,0,none⟩))∧Y.cell? ⟨G,0,none⟩=some (.int .u64 (h:Int))∧w.heap.size<Y.heap.size∧G<Y.heap.size):=fun Y hY=>by
  have h1:=HS1.out;have h2:=HLV.out;have h3:=hY.size;exact⟨(hY.cell (p:=⟨w.heap.size,0,none⟩) (by show w.heap.size<V.heap.size;omega)).trans k1,(hY.cell (p:=⟨G,0,none⟩) h2).trans k2,by omega,by omega⟩
 clear hG hV HP1;go_wp2_with fail
 refine (zLy vs HVO.out H1.out pt cs h HH36.out r _ pv cv _ (HR.out _ HBV.out)).mono ?_;rintro e w2 ⟨v2,L,rfl,hmp,hro,hcl2,hL14,hb2⟩;have HRO:Hid (ROwn w.heap.size w2 v2 L):=zDu HBV.out.size hro;have HCL2:Hid (∀x∈L,LOwn w.heap.size w2 x.2 x.1.1.cla):=fun x hx=>zBJ HBV.out.size (hcl2 x hx)
 have HMP:Hid (L.map (·.1)=zAu vs cs pt h):=hmp
 have HB2:Hid (Below V.heap.size V w2):=hb2;have HBW2:Hid (Below w.heap.size w w2):=HBV.out.trans (hb2.mono HBV.out.size);have HSL:Hid (∀x∈L,IsSl x):=fun x hx=>by
  obtain⟨a,c,he⟩:=zAC (show w2.ownsRow _ _ _ _ _ _ from hcl2 x hx)
  exact⟨a,_,c,he⟩
 have HX36:Hid (∀x∈L,x.1.2<2 ^ 36):=fun x hx=>by
  have h1:x.1∈zAu vs cs pt h:=by rw[←hmp];exact List.mem_map.2 ⟨x,hx,rfl⟩
  obtain⟨t,_,ht⟩:=List.mem_flatMap.1 h1;unfold zA3 at ht
  split at ht
  ·rw[List.mem_singleton.1 ht];exact zFi vs HVO.out.1 _
  ·obtain⟨l,_,hl⟩:=List.mem_map.1 ht
   rw[←hl];exact zFi vs HVO.out.1 _
 obtain⟨ao,co,rfl⟩:=zAC (show w2.ownsRow _ _ _ _ _ _ from hro)
 clear hmp hro hcl2 hb2 k1 k2;go_wp2_with fail
 refine (zJo 86 #[.pointer (some ⟨w.heap.size,0,none⟩),.pointer (some ⟨G,0,none⟩)] (fun c=>zBw vs cs h (c.map (·.1))) L HSL.out (by omega) _ _ HRO.out.arg ⟨zJp,fun c v Y hc hcm hY hv=>?_⟩).mono ?_
 ·have hYV:=HB2.out.trans (hY.mono HB2.out.size)
  have hYW:=HBV.out.trans (hYV.mono HBV.out.size);obtain⟨q1,q2,q3,q4⟩:=HK.out Y hYV;exact zL1 vs HVO.out H1.out pt cs HCS.out h HH36.out r _ pv cv c (by omega) (fun x hx=>HX36.out x (hcm x hx)) (fun x hx=>HSL.out x (hcm x hx)) v _ _ Y (HR.out Y hYW) hv q1 q2 q3 q4
 rintro e w3 ⟨v3,rfl,hro3,hb3⟩;obtain⟨R,hRe⟩:∃R,zAx (fun c=>zBw vs cs h (c.map (·.1))) L.length L=R:=⟨_,rfl⟩
 have HRM:Hid (R.map (·.1)=zAx (zBw vs cs h) (zAu vs cs pt h).length (zAu vs cs pt h)):=by show _=_;rw[←hRe,zKs (fun x:RV=>x.1),←HMP.out,List.length_map]
 have HRS:Hid (∀x∈R,x∈L):=fun x hx=>zFq _ x _ _ (by rw[hRe];exact hx)
 have hRL:R.length≤1400:=by rw[←hRe];exact Nat.le_trans (zHn _ _ _) hL14
 rw[hRe] at hro3;have HRO3:Hid (ROwn w.heap.size w3 v3 R):=zDu HBW2.out.size hro3;have HB3:Hid (Below w.heap.size w w3):=HBW2.out.trans (hb3.mono HBW2.out.size);have HCL3:Hid (∀x∈R,LOwn w.heap.size w3 x.2 x.1.1.cla):=fun x hx=>zAB (HCL2.out x (HRS.out x hx)) hb3
 obtain⟨a3,c3,rfl⟩:=zAC (show w3.ownsRow _ _ _ _ _ _ from hro3)
 clear hro3 hb3 hRe;go_wp2_with fail
 go_loopw [7,23] (fun o i wr=>∃k:Nat,k≤R.length∧i=.int .i64 k∧Hid (∃D:List SV,D.map (·.1)=(R.take k).map (·.1.1)∧zB0 w.heap.size wr o D∧ROwn w.heap.size wr (.slice a3 R.length c3) R∧(∀x∈R,LOwn w.heap.size wr x.2 x.1.1.cla)∧Below w.heap.size w wr)) (fun _ i _=>R.length - (intOf i).toNat)
 case atStart=>exact⟨0,by omega,rfl,[],rfl,⟨World.ownsRow_nil _ _ _ _,fun x hx=>by cases hx⟩,HRO3.out,HCL3.out,HB3.out⟩
 case round =>
  obtain⟨k,hk,rfl,hrest⟩:=hrel;obtain⟨D,hD,hso,hrr,hcr,hbw⟩:=hrest.out;have HD:Hid (D.map (·.1)=(R.take k).map (·.1.1)):=hD
  have HSO:Hid (zB0 w.heap.size wr u7 D):=hso;have HRR:Hid (ROwn w.heap.size wr (.slice a3 R.length c3) R):=hrr;have HCR:Hid (∀x∈R,LOwn w.heap.size wr x.2 x.1.1.cla):=hcr;have HBW:Hid (Below w.heap.size w wr):=hbw;have hDk:D.length=k:=by
   have h1:=congrArg List.length hD;rw[List.length_map,List.length_map,List.length_take] at h1;omega
  obtain⟨ad,cd,hu7⟩:=zAC hso.1;rw[hDk] at hu7;subst hu7;clear hD hso hrr hcr hbw hrest;by_cases hlt:k<R.length
  ·obtain⟨t,ht⟩:∃t,R[k]? = some t:=⟨R[k],by simp[hlt]⟩
   obtain⟨a4,n4,c4,b4,o4,he4,hn4,hc41,hc42,ha4,hb4,q0,q1,q2,q3⟩:=zGn HRR.out.arg k t ht
   injection he4 with he4 he5 he6
   rw[ha4] at he4;subst he4;have htm:t∈R:=List.mem_of_getElem? ht;have HTC:Hid (LOwn w.heap.size wr t.2 t.1.1.cla):=HCR.out t htm;obtain⟨sa,sc,hse⟩:=zAC (show wr.ownsRow _ _ _ _ _ _ from HTC.out)
   rw[hse] at q2;have HSE:Hid (t.2=.slice sa t.1.1.cla.length sc):=hse;have HNX:Hid ((D++[(t.1.1,t.2)]).map (·.1)=(R.take (k+1)).map (·.1.1)):=by
    show _=_;rw[List.map_append,HD.out,List.take_add_one,ht,List.map_append];rfl
   have hcc:R.length≤c3:=by omega
   unfold maxLen at hc42;have hcm:c3≤2 ^ 63 - 1:=by omega
   clear he5 he6 hc41 hc42 hn4 hse ha4 ht;have hbs:=HBW.out.size;obtain⟨kd,hkd⟩:∃kd,t.1.1.kind=kd:=⟨_,rfl⟩;obtain⟨cn,hcn⟩:∃cn,t.1.1.con=cn:=⟨_,rfl⟩;obtain⟨hz,hhz⟩:∃hz:Nat,t.1.2=hz:=⟨_,rfl⟩;obtain⟨nl,hnl⟩:∃nl,t.1.1.cla.length=nl:=⟨_,rfl⟩;rw[hkd] at q0;rw[hcn] at q1;rw[hhz] at q3;rw[hnl] at q2 HSE;have HSC:Hid (zBM (t.1.1,t.2)=[.int .i64 kd,.int .i64 cn,.slice sa nl sc]):=by show _=_;unfold zBM;rw[HSE.out,hkd,hcn]
   have HSL2:Hid (∀V:World,∀(j:Nat) (u:Value),([.int .i64 kd,.int .i64 cn,.slice sa nl sc]:List Value)[j]? = some u→(V.alloc (.cells #[.int .i64 kd,.int .i64 cn,.slice sa nl sc] 39)).cell? ((⟨V.heap.size,0,none⟩:Addr).add j)=some u):=fun V=>by
    have h1:=zH2 V (⟨kd,cn,[]⟩,.slice sa nl sc);exact h1
   clear hkd hcn hhz hnl;have HBX:Hid (Below wr.heap.size wr (wr.alloc (.cells #[.int .i64 kd,.int .i64 cn,.slice sa nl sc,.int .u64 (hz:Int)] 145))):=zAA _ _;go_upto_region 7 with (fail)
   obtain⟨V,hV⟩:∃V,wr.alloc (.cells #[.int .i64 kd,.int .i64 cn,.slice sa nl sc,.int .u64 (hz:Int)] 145)=V:=⟨_,rfl⟩;have k0:(wr.alloc (.cells #[.int .i64 kd,.int .i64 cn,.slice sa nl sc,.int .u64 (hz:Int)] 145)).cell? ⟨wr.heap.size,0,none⟩=some (.int .i64 kd):=World.cell?_alloc_at _ _ _ 0 (by simp)
   have k1:(wr.alloc (.cells #[.int .i64 kd,.int .i64 cn,.slice sa nl sc,.int .u64 (hz:Int)] 145)).cell? ⟨wr.heap.size,1,none⟩=some (.int .i64 cn):=World.cell?_alloc_at _ _ _ 1 (by simp)
   have k2:(wr.alloc (.cells #[.int .i64 kd,.int .i64 cn,.slice sa nl sc,.int .u64 (hz:Int)] 145)).cell? ⟨wr.heap.size,2,none⟩=some (.slice sa nl sc):=World.cell?_alloc_at _ _ _ 2 (by simp)
   rw[hV] at HBX k0 k1 k2 ⊢;clear hV q0 q1 q2 q3;have hvs:=HBX.out.size;have HBV2:Hid (Below w.heap.size w V):=HBW.out.trans (HBX.out.mono HBW.out.size);have HSV:Hid (zB0 w.heap.size (V.alloc (.cells #[.int .i64 kd,.int .i64 cn,.slice sa nl sc] 39)) (.slice ad k cd) D):=(HSO.out.below HBX.out).below (zAA _ _);have HOV:Hid ((V.alloc (.cells #[.int .i64 kd,.int .i64 cn,.slice sa nl sc] 39)).ownsRow w.heap.size 39 3 (.slice ad k cd) k (D.map zBM).flatten):=by have:=HSV.out.1;rw[hDk] at this;exact this
   go_wp2_with (at_builtin;refine wpList_append_own _ rfl _ _ 32 rfl w.heap.size 39 i0 (.agg #[.int .i64 0,.int .i64 0,.slice none 0 0]) 3 40 Tryz.underStepsF hi0 hz0 hz1 hz2 rfl (by decide) _ _ _ rfl HOV.out ⟨V.heap.size,0,none⟩ 1 1 [.int .i64 kd,.int .i64 cn,.slice sa nl sc] rfl rfl (HSL2.out V) (by intro u hu;simp at hu;rcases hu with rfl | rfl | rfl <;> rfl) ?c1 ?c2 ?c3 ?_)
   case c1=>unfold maxLen;omega
   case c2=>omega
   case c3=>simp;omega
   intro v6 w6 hown6 hg6 _;have HBA:Hid (Below wr.heap.size wr (V.alloc (.cells #[.int .i64 kd,.int .i64 cn,.slice sa nl sc] 39))):=HBX.out.alloc hvs _;have HS6:Hid (zB0 w.heap.size w6 v6 (D++[(t.1.1,t.2)])):=zB0.push HSV.out (zAB HTC.out HBA.out) hg6 (by rw[hDk]) (by rw[HSC.out];exact hown6)
   have HR6:Hid (ROwn w.heap.size w6 (.slice (some ⟨b4,o4,none⟩) R.length c3) R):=zBE (zAB HRR.out HBA.out) hg6 HOV.out (by decide)
   have HC6:Hid (∀x∈R,LOwn w.heap.size w6 x.2 x.1.1.cla):=fun x hx=>zBE (zAB (HCR.out x hx) HBA.out) hg6 HOV.out (by decide)
   have HB6:Hid (Below w.heap.size w w6):=(HBV2.out.alloc HBV2.out.size _).grown hg6 (by have:=HBV2.out.size;simp;omega) (fun g hg=>(HOV.out.lt g hg).1)
   obtain⟨a9,c9,rfl⟩:=zAC hown6;clear hown6 hg6 k0 k1 k2;go_wp2
   go_roundw
   case rel=>exact⟨k+1,by omega,by go_num,D++[(t.1.1,t.2)],HNX.out,HS6.out,HR6.out,HC6.out,HB6.out⟩
   case measure=>simp[intOf];omega
  ·have HFD:Hid (D.map (·.1)=R.map (·.1.1)):=by have h1:=HD.out;rw[List.take_of_length_le (by omega)] at h1;exact h1
   have HDK:Hid (D.length=k):=hDk;clear hDk;go_wp2_with fail
   refine (zKW cl HCL.out _ _ (HU.out _ HBW.out)).mono ?_;rintro e w5 ⟨x,rfl,hx,hb5⟩;have HX:Hid (LOwn w.heap.size w5 x cl):=zBJ HBW.out.size hx;have HB5:Hid (Below w.heap.size w w5):=HBW.out.trans (hb5.mono HBW.out.size);have HS5:Hid (zB0 w.heap.size w5 (.slice ad k cd) D):=HSO.out.below hb5;obtain⟨ax,cx,rfl⟩:=zAC (show w5.ownsRow _ _ _ _ _ _ from hx)
   clear hx hb5;have hs5:=HB5.out.size;have HSV:Hid (zB0 w.heap.size (w5.alloc (.cells #[.int .i64 2,.int .i64 0,.slice ax cl.length cx] 39)) (.slice ad k cd) D):=HS5.out.below (zAA _ _);have HOV:Hid ((w5.alloc (.cells #[.int .i64 2,.int .i64 0,.slice ax cl.length cx] 39)).ownsRow w.heap.size 39 3 (.slice ad k cd) k (D.map zBM).flatten):=by have:=HSV.out.1;rw[HDK.out] at this;exact this
   go_wp2_with (at_builtin;refine wpList_append_own _ rfl _ _ 32 rfl w.heap.size 39 i0 (.agg #[.int .i64 0,.int .i64 0,.slice none 0 0]) 3 40 Tryz.underStepsF hi0 hz0 hz1 hz2 rfl (by decide) _ _ _ rfl HOV.out ⟨w5.heap.size,0,none⟩ 1 1 [.int .i64 2,.int .i64 0,.slice ax cl.length cx] rfl rfl (zH2 w5 (⟨2,0,cl⟩,.slice ax cl.length cx)) (by intro u hu;simp at hu;rcases hu with rfl | rfl | rfl <;> rfl) ?c1 ?c2 ?c3 ?_)
   case c1=>unfold maxLen;omega
   case c2=>omega
   case c3=>simp;omega
   intro v6 w6 hown6 hg6 _;have HS6:Hid (zB0 w.heap.size w6 v6 (D++[((⟨2,0,cl⟩:MStep),Value.slice ax cl.length cx)])):=zB0.push HSV.out (zAB HX.out (zAA _ _)) hg6 (by rw[HDK.out]) hown6
   have HB6:Hid (Below w.heap.size w w6):=(HB5.out.alloc hs5 _).grown hg6 (by simp;omega) (fun g hg=>(HOV.out.lt g hg).1)
   have HM6:Hid ((D++[((⟨2,0,cl⟩:MStep),Value.slice ax cl.length cx)]).map (·.1)=ST):=by
    show _=_;rw[HST.out,←HRM.out,List.map_append,HFD.out,List.map_map];rfl
   have HL6:Hid ((D++[((⟨2,0,cl⟩:MStep),Value.slice ax cl.length cx)]).length≤1500):=by show _≤_;rw[List.length_append,HDK.out];simp;omega
   obtain⟨a9,c9,rfl⟩:=zAC hown6;clear hown6 hg6;go_wp2
   go_ret
   exact⟨_,_,rfl,HM6.out,HS6.out,HL6.out,HB6.out⟩
section
open Go.RowKit Go.Maps
theorem Tryz.partKey:Keyed Tryz.prog 136:=int_keyed Tryz.underlying136
theorem Tryz.underThere:Tryz.prog.underlying 114=some (.map 136 282):=by kernel_rfl
def setU {H:Type} (l:List Nat):DataW H:=setOf (.agg []) (l.map fun z:Nat=>Lit.int .u64 (z:Int))
theorem zM9 (x:Nat):∀l:List Nat,l.any ((fun y:Lit=>y.sameKey (.int .u64 (x:Int))) ∘ fun z:Nat=>Lit.int .u64 (z:Int))=l.contains x
 | []=>rfl
 | a :: r=>by
   rw[List.any_cons,List.contains_cons,zM9 x r]
   congr 1
   show decide (IntKind.u64=IntKind.u64∧(a:Int)=(x:Int))=(x==a);by_cases e:a=x
   ·subst e
    simp
   ·have e':¬x=a:=fun h=>e h.symm
    have e2:¬(a:Int)=(x:Int):=fun h=>e (by omega)
    simp[e2,e']
theorem zNA {H:Type} (l:List Nat) (x:Nat):Maps.has (setU (H:=H) l) (.int .u64 (x:Int))=l.contains x:=by
 unfold setU;rw[has_setOf _ _ _ (fun y hy=>by obtain⟨_,_,rfl⟩:=List.mem_map.1 hy;trivial),List.any_map]
 exact zM9 x _
theorem zPj {H:Type} (l:List Nat) (x:Nat):setU (H:=H) (l++[x])=(setU l).put (.int .u64 (x:Int)) (.agg []):=by
 unfold setU;rw[List.map_append];exact setOf_snoc _ _ _
theorem zRQ (z:Nat) (h:z<2 ^ 36):keyOf Tryz.prog 136 (.int .u64 (z:Int))=some (.int .u64 (z:Int)):=keyOf_int_mk Tryz.underlying136 (WalkArith.wf_u64 (by omega))
theorem zCg {w:World} {B:Nat} {e:TypeId} {s n:Nat} {v:Value} {xs:List Value} {k:TypeId} {R:Value→Option (DataW Unit×List MemPlace)} {b m:Nat} {D:DataW Unit} (h:w.ownsRow B e s v n xs) (hm:w.ownsMap Tryz.prog k R b m D):v.ownBlock≠some b:=by
 intro he;obtain⟨es,clock,hb,_⟩:=hm;rcases h.2 with ⟨rfl,_⟩ | ⟨g,cap,cur,rfl,_,hg,_⟩
 ·cases he
 ·have:g=b:=by simpa[Value.ownBlock] using he
  subst this;rw[hb] at hg;cases hg
theorem zDO {w:World} {q:Nat} {cs:Array Value} {t:TypeId} {k:TypeId} {R:Value→Option (DataW Unit×List MemPlace)} {b m:Nat} {D:DataW Unit} (h:w.heap[q]? = some (.cells cs t)) (hm:w.ownsMap Tryz.prog k R b m D):q≠b:=by
 rintro rfl;obtain⟨es,clock,hb,_⟩:=hm;rw[hb] at h;cases h
def TNo (t:TypeId):Prop:=t≠141∧t≠116∧t≠136∧t≠39∧t≠76
structure TFr (w w':World):Prop where
 os:w'.os=w.os
 tape:w'.tape=w.tape
 output:w'.output=w.output
 size:w.heap.size≤w'.heap.size
 block:∀(k:Nat) (cs:Array Value) (t:TypeId) (z:Nat×Nat),w.heap[k]? = some (.cells cs t z)→TNo t→w'.heap[k]? = w.heap[k]?
theorem TFr.refl (w:World):TFr w w:=⟨rfl,rfl,rfl,Nat.le_refl _,fun _ _ _ _ _ _=>rfl⟩
theorem TFr.trans {a b c:World} (h:TFr a b) (k:TFr b c):TFr a c :=
 ⟨k.os.trans h.os,k.tape.trans h.tape,k.output.trans h.output,Nat.le_trans h.size k.size,fun q cs t z hq ht=>(k.block q cs t z ((h.block q cs t z hq ht).trans hq) ht).trans (h.block q cs t z hq ht)⟩
theorem TFr.below {w w':World} (h:Below w.heap.size w w'):TFr w w':=⟨h.os,h.tape,h.output,h.size,fun k _ _ _ hk _=>h.block k (Array.getElem?_eq_some_iff.1 hk).1⟩
theorem TFr.grown {w w':World} {B:Nat} {e:TypeId} {s n:Nat} {v:Value} {xs:List Value} (ho:w.ownsRow B e s v n xs) (hg:w.grownBy w' v.ownBlock) (he:¬TNo e):TFr w w' :=
 ⟨hg.os,hg.tape,hg.output,hg.size,fun k cs t z hk ht=>hg.block k (Array.getElem?_eq_some_iff.1 hk).1 fun h=>by
   rcases ho.2 with ⟨rfl,_⟩ | ⟨g,cap,cur,rfl,_,hh,_⟩
   ·cases h
   ·have:k=g:=by simpa[Value.ownBlock] using h
    subst this;have:=hk.symm.trans hh;simp only[Option.some.injEq,Obj.cells.injEq] at this;rw[this.2.1] at ht;exact he ht⟩
theorem TFr.set {w:World} {C:Nat} {cs:Array Value} {t:TypeId} (hC:w.heap[C]? = some (.cells cs t)) (he:¬TNo t) (i:Nat) (u:Value):TFr w (w.setCell ⟨C,i,none⟩ u) :=
 ⟨rfl,rfl,rfl,by simp,fun k cs' t' z hk ht=>by
   refine Below.heap_setCell w ⟨C,i,none⟩ u k ?_;rintro rfl;have:=hk.symm.trans hC;simp only[Option.some.injEq,Obj.cells.injEq] at this;rw[this.2.1] at ht;exact he ht⟩
theorem TFr.map {w w':World} {k:TypeId} {R:Value→Option (DataW Unit×List MemPlace)} {b m:Nat} {D:DataW Unit} (hm:w.ownsMap Tryz.prog k R b m D) (hg:w.grownBy w' (some b)):TFr w w' :=
 ⟨hg.os,hg.tape,hg.output,hg.size,fun q cs t z hq ht=>hg.block q (Array.getElem?_eq_some_iff.1 hq).1 fun h=>by
   obtain⟨es,clock,h1,_⟩:=hm;rw[←Option.some.inj h] at h1;rw[h1] at hq;cases hq⟩
theorem zNB:¬TNo 136:=fun h=>h.2.2.1 rfl
theorem zRR:¬TNo 39:=fun h=>h.2.2.2.1 rfl
theorem zSc:¬TNo 76:=fun h=>h.2.2.2.2 rfl
theorem zJq:¬TNo 116:=fun h=>h.2.1 rfl
theorem zPk:¬TNo 141:=fun h=>h.1 rfl
theorem TFr.own {w w':World} {B:Nat} {e:TypeId} {s n:Nat} {v:Value} {xs:List Value} (h:TFr w w') (ho:w.ownsRow B e s v n xs) (he:TNo e):w'.ownsRow B e s v n xs :=
 ⟨ho.1,by
   rcases ho.2 with hn | ⟨g,cap,cur,hv,hg,hh,r⟩
   ·exact .inl hn
   ·exact .inr ⟨g,cap,cur,hv,hg,(h.block g cur e (0,0) hh he).trans hh,r⟩⟩
def XS (s r mb:Nat) (k:Nat):Prop:=k=r∨k=s∨k=mb
structure SkB (W:World) (s r mb:Nat) (sv pv:Value) (vs:List MVar) (pt:List (List Nat)):Prop where
 rlt:r<W.heap.size
 slt:s<W.heap.size
 mlt:mb<W.heap.size
 keep:∀w',Fr (XS s r mb) W w'→VArg w' sv vs∧zFQ w' pv pt∧TabT w'
structure SkD (W w:World) (s r mb:Nat) (sv pv cv prv pav:Value) (L:List SV) (M:List Nat) (S:Sk):Prop where
 blkR:w.heap[r]? = some (.cells #[sv,pv,cv] 141)
 blkS:w.heap[s]? = some (.cells #[sv,.pointer (some ⟨r,0,none⟩),.int .i64 (S.fuel:Int),prv,.map (some mb),pav] 116)
 own:w.ownsRow W.heap.size 136 1 cv S.cs.length (u64s S.cs)
 lt36:∀z∈S.cs,z<2 ^ 36
 prf:zB0 W.heap.size w prv L
 prfE:L.map (·.1)=S.proof
 map:w.ownsMap Tryz.prog 136 (unitElem (H:=Unit)) mb M.length (setU M)
 path:LOwn W.heap.size w pav S.path
 apart:∀x∈L,∀g,x.2.ownBlock=some g→pav.ownBlock≠some g
 fr:Fr (XS s r mb) W w
variable {W w w' w1 w2:World} {s r mb:Nat} {sv pv cv prv pav v':Value} {L:List SV} {M:List Nat} {S:Sk} {vs:List MVar} {pt:List (List Nat)}
theorem zKt {k:TypeId} {R:Value→Option (DataW Unit×List MemPlace)} {b m:Nat} {D:DataW Unit} (h:w.ownsMap Tryz.prog k R b m D) (hb:Below w.heap.size w w'):w'.ownsMap Tryz.prog k R b m D:=by
 obtain⟨es,clock,h1,h2⟩:=h;exact⟨es,clock,(hb.block b (Array.getElem?_eq_some_iff.1 h1).1).trans h1,h2⟩
theorem SkD.below (h:SkD W w s r mb sv pv cv prv pav L M S) (hb:Below w.heap.size w w'):SkD W w' s r mb sv pv cv prv pav L M S :=
 ⟨(hb.block r (Array.getElem?_eq_some_iff.1 h.blkR).1).trans h.blkR,(hb.block s (Array.getElem?_eq_some_iff.1 h.blkS).1).trans h.blkS,zAB h.own hb,h.lt36,h.prf.below hb,h.prfE,zKt h.map hb,zAB h.path hb,h.apart,h.fr.trans (Fr.below hb)⟩
theorem SkD.rules (h:SkD W w s r mb sv pv cv prv pav L M S) (hB:SkB W s r mb sv pv vs pt):RulesAt w r sv pv cv vs pt S.cs :=
 ⟨(Array.getElem?_eq_some_iff.1 h.blkR).1,blk9 h.blkR 0 _ rfl,blk9 h.blkR 1 _ rfl,blk9 h.blkR 2 _ rfl,(hB.keep w h.fr).1,(hB.keep w h.fr).2.1,zCu h.own h.lt36,(hB.keep w h.fr).2.2⟩
theorem SkD.ns (h:SkD W w s r mb sv pv cv prv pav L M S):s≠mb:=zDO h.blkS h.map
theorem SkD.nr (h:SkD W w s r mb sv pv cv prv pav L M S):r≠mb:=zDO h.blkR h.map
theorem SkD.rs (h:SkD W w s r mb sv pv cv prv pav L M S):r≠s:=by
 rintro rfl;have:=h.blkR.symm.trans h.blkS;simp at this
theorem SkD.cells (h:SkD W w s r mb sv pv cv prv pav L M S):s<w.heap.size∧w.cell? ⟨s,0,none⟩=some sv∧w.cell? ⟨s,1,none⟩=some (.pointer (some ⟨r,0,none⟩))∧w.cell? ⟨s,2,none⟩=some (.int .i64 (S.fuel:Int))∧w.cell? ⟨s,3,none⟩=some prv∧w.cell? ⟨s,4,none⟩=some (.map (some mb))∧w.cell? ⟨s,5,none⟩=some pav :=
 ⟨(Array.getElem?_eq_some_iff.1 h.blkS).1,blk9 h.blkS 0 _ rfl,blk9 h.blkS 1 _ rfl,blk9 h.blkS 2 _ rfl,blk9 h.blkS 3 _ rfl,blk9 h.blkS 4 _ rfl,blk9 h.blkS 5 _ rfl⟩
theorem SkD.frz (h:SkD W w s r mb sv pv cv prv pav L M S) (i:Nat):w.frozen? ⟨s,i,none⟩=false:=frz9 h.blkS i
theorem zDv (w:World) (p:Addr) (u:Value) (k:Nat) (hk:k≠p.block):(w.setCell p u).heap[k]? = w.heap[k]? := Below.heap_setCell _ _ _ _ hk
theorem zB0.set {base:Nat} {v:Value} {C:Nat} {cs:Array Value} {t:TypeId} (h:zB0 base w v L) (hC:w.heap[C]? = some (.cells cs t)) (h1:t≠39) (h2:t≠76) (i:Nat) (u:Value):zB0 base (w.setCell ⟨C,i,none⟩ u) v L :=
 ⟨zAX h.1 hC h1 i u,fun x hx=>zAX (h.2 x hx) hC h2 i u⟩
theorem SkD.setS {S':Sk} {prv' pav':Value} {L':List SV} (i:Nat) (u:Value) (hR:w.heap[r]? = some (.cells #[sv,pv,cv] 141))
 (hS:w.heap[s]? = some (.cells #[sv,.pointer (some ⟨r,0,none⟩),.int .i64 (S.fuel:Int),prv,.map (some mb),pav] 116))
 (hu:(#[sv,.pointer (some ⟨r,0,none⟩),.int .i64 (S.fuel:Int),prv,.map (some mb),pav]:Array Value).set! i u=#[sv,.pointer (some ⟨r,0,none⟩),.int .i64 (S'.fuel:Int),prv',.map (some mb),pav'])
 (hown:w.ownsRow W.heap.size 136 1 cv S'.cs.length (u64s S'.cs)) (hlt:∀z∈S'.cs,z<2 ^ 36) (hprf:zB0 W.heap.size w prv' L') (hpe:L'.map (·.1)=S'.proof)
 (hmap:w.ownsMap Tryz.prog 136 (unitElem (H:=Unit)) mb M.length (setU M)) (hpath:LOwn W.heap.size w pav' S'.path) (hap:∀x∈L',∀g,x.2.ownBlock=some g→pav'.ownBlock≠some g) (hfr:Fr (XS s r mb) W w) :
 SkD W (w.setCell ⟨s,i,none⟩ u) s r mb sv pv cv prv' pav' L' M S':=by
 have hrs:r≠s:=by
  rintro rfl;have:=hR.symm.trans hS;simp at this
 refine⟨(zDv w ⟨s,i,none⟩ u r hrs).trans hR,?_,zAX hown hS (by decide) i u,hlt,hprf.set hS (by decide) (by decide) i u,hpe,hmap.setCell (Ne.symm (zDO hS hmap)) u,zAX hpath hS (by decide) i u,hap,hfr.setX (p:=⟨s,i,none⟩) (Or.inr (Or.inl rfl)) u⟩
 rw[heap_setCell_same w s i _ _ u hS,←hu];simp
theorem SkD.burn (h:SkD W w s r mb sv pv cv prv pav L M S) (f:Nat):SkD W (w.setCell ⟨s,2,none⟩ (.int .i64 (f:Int))) s r mb sv pv cv prv pav L M ⟨S.cs,f,S.proof,S.path⟩ :=
 SkD.setS (S:=S) 2 _ h.blkR h.blkS rfl h.own h.lt36 h.prf h.prfE h.map h.path h.apart h.fr
theorem SkD.cutp {g n c:Nat} (k:Nat) (hk:k≤n) (h:SkD W w s r mb sv pv cv prv (.slice (some ⟨g,0,none⟩) n c) L M S) (hn:n=S.path.length):SkD W (w.setCell ⟨s,5,none⟩ (.slice (some ⟨g,0,none⟩) k c)) s r mb sv pv cv prv (.slice (some ⟨g,0,none⟩) k c) L M ⟨S.cs,S.fuel,S.proof,S.path.take k⟩:=by
 refine SkD.setS (S:=S) 5 _ h.blkR h.blkS rfl h.own h.lt36 h.prf h.prfE h.map ?_ (fun x hx g' hg'=>h.apart x hx g' hg') h.fr
 subst hn;have h0:=zR6 h.path;rw[List.length_map] at h0;have h1:=zGM k hk h0;rw[zHx 3 k _ (zKl _),←List.map_take] at h1;refine zR7 ?_;rw[List.length_map,List.length_take,Nat.min_eq_left (by simpa using hk)]
 exact h1
theorem SkD.push {x:SV} {n:Nat} (h:SkD W w s r mb sv pv cv prv pav L M S) (hb:Below w.heap.size w w1) (hx:LOwn W.heap.size w1 x.2 x.1.cla) (hxa:∀g,x.2.ownBlock=some g→pav.ownBlock≠some g) (hg:w1.grownBy w2 prv.ownBlock) (hn:n=L.length+1)
 (ho:w2.ownsRow W.heap.size 39 3 v' n ((L.map zBM).flatten++zBM x)):SkD W (w2.setCell ⟨s,3,none⟩ v') s r mb sv pv cv v' pav (L++[x]) M ⟨S.cs,S.fuel,S.proof++[x.1],S.path⟩:=by
 have h1:=h.below hb;refine SkD.setS (S:=S) 3 _ (zBF h1.blkR hg h1.prf.1 (by decide)) (zBF h1.blkS hg h1.prf.1 (by decide)) rfl (zBE h1.own hg h1.prf.1 (by decide)) h.lt36 (h1.prf.push hx hg hn ho) (by rw[List.map_append,h.prfE];rfl)
  (h1.map.kept hg (Ne.symm (zCg h1.prf.1 h1.map))) (zBE h1.path hg h1.prf.1 (by decide)) (fun y hy g hg'=>?_) (h1.fr.grown hg fun k hk=>Or.inr (h1.prf.1.lt k hk).1)
 rcases List.mem_append.1 hy with hy | hy
 ·exact h.apart y hy g hg'
 ·rw[List.mem_singleton.1 hy] at hg'
  exact hxa g hg'
theorem SkD.pushp {l:MLit} {n:Nat} (h:SkD W w s r mb sv pv cv prv pav L M S) (hb:Below w.heap.size w w1) (hg:w1.grownBy w2 pav.ownBlock) (hat:v'.ownBlock=pav.ownBlock∨v'.ownBlock=some w1.heap.size) (hn:n=S.path.length+1)
 (ho:w2.ownsRow W.heap.size 76 3 v' n (zBI S.path++zDS l)):SkD W (w2.setCell ⟨s,5,none⟩ v') s r mb sv pv cv prv v' L M ⟨S.cs,S.fuel,S.proof,S.path++[l]⟩:=by
 have h1:=h.below hb;have hst:zB0 W.heap.size w2 prv L:=⟨zBE h1.prf.1 hg h1.path (by decide),fun x hx=>by
  refine (h1.prf.2 x hx).kept hg ?_;cases hxb:x.2.ownBlock with
  | none=>exact Or.inl rfl
  | some g=>exact Or.inr fun he=>h.apart x hx g hxb he.symm⟩
 refine SkD.setS (S:=S) 5 _ (zBF h1.blkR hg h1.path (by decide)) (zBF h1.blkS hg h1.path (by decide)) rfl (zBE h1.own hg h1.path (by decide)) h.lt36 hst h.prfE
  (h1.map.kept hg (Ne.symm (zCg h1.path h1.map))) ?_ (fun y hy g hg'=>?_) (h1.fr.grown hg fun k hk=>Or.inr (h1.path.lt k hk).1)
 ·show World.ownsRow _ _ _ _ _ _ _
  unfold zBI at *;rw[List.length_append,List.length_singleton,←hn,List.flatMap_append];simpa using ho
 ·rcases hat with hat | hat
  ·rw[hat];exact h.apart y hy g hg'
  ·rw[hat]
   intro he;have:=((h1.prf.2 y hy).lt g hg').2;have:=Option.some.inj he;omega
theorem SkD.key (h:SkD W w s r mb sv pv cv prv pav L M S) (z n:Nat) (hn:n=M.length+1) (hg:w.grownBy w' (some mb)) (hm:w'.ownsMap Tryz.prog 136 (unitElem (H:=Unit)) mb n ((setU M).put (.int .u64 (z:Int)) (.agg []))) :
 SkD W w' s r mb sv pv cv prv pav L (M++[z]) S:=by
 have ko:∀{B:Nat} {e:TypeId} {q n:Nat} {v:Value} {xs:List Value},w.ownsRow B e q v n xs→w'.ownsRow B e q v n xs:=fun ho=>ho.kept hg (Or.inr (zCg ho h.map))
 have kb:∀{q:Nat} {cs:Array Value} {t:TypeId},w.heap[q]? = some (.cells cs t)→w'.heap[q]? = some (.cells cs t):=fun hq=>(hg.block _ (Array.getElem?_eq_some_iff.1 hq).1 (fun he=>zDO hq h.map (Option.some.inj he))).trans hq
 refine⟨kb h.blkR,kb h.blkS,ko h.own,h.lt36,⟨ko h.prf.1,fun x hx=>ko (h.prf.2 x hx)⟩,h.prfE,?_,ko h.path,h.apart,h.fr.grown hg fun k hk=>Or.inl (Or.inr (Or.inr (Option.some.inj hk).symm))⟩
 rw[zPj,List.length_append,List.length_singleton,←hn];exact hm
end
end Go.Proofs.YtndcpnlaadikoaaGreatDoor
