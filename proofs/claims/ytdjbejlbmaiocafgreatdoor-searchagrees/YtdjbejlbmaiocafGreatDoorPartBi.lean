/- What the proof leans on, part 35. -/
import Derived.Test.YtdjbejlbmaiocafGreatDoorPartBa
import Derived.Test.YtdjbejlbmaiocafGreatDoorPartBe
import Derived.Test.YtdjbejlbmaiocafGreatDoorPartBh
namespace Go.Proofs.YtdjbejlbmaiocafGreatDoor
open Go.RowKit
set_option maxHeartbeats 400000 in
theorem zGP (x y z:Value) (w:World):Calls Tryz.prog 196 #[x,y,z] w fun e w'=>e=.returned (.tuple #[])∧w'=w:=by
 go_enter Tryz.func196,Tryz.ntmps196
 go_wp2
 go_end0
 exact⟨rfl,rfl⟩
theorem zEk (args:Array Value) (w':World):Sem.run Tryz.prog (callFunc 196 args) w'=.ok (.enter 196 args) w':=by
 simp[callFunc,go_sem,Tryz.func196,Tryz.f196]
theorem zHD (vs:List MVar) (pt:List (List Nat)) (W:World):Teller 196 #[] vs pt (fun _ w=>Below W.heap.size W w) :=
 ⟨zEk,fun _ _ _ h hb=>h.trans (hb.mono h.size),fun _ _ _ _ w h _ _ _ _=>(zGP _ _ _ w).mono fun _ _ ⟨h1,h2⟩=>⟨h1,by rw[h2];exact h⟩⟩
set_option maxHeartbeats 800000 in
set_option maxRecDepth 100000 in
theorem zGQ (vs:List MVar) (hva:zAH vs) (hn1:1≤vs.length) (cs:List Nat) (pt:List (List Nat)) (cl:Cla) (r:Nat) (sv pv cv u:Value) (w:World) (hR:RulesAt w r sv pv cv vs pt cs) (hu:LArg w u cl) :
 Calls Tryz.prog 112 #[.pointer (some ⟨r,0,none⟩),u] w fun e w'=>e=.returned (.int .u64 ((zA1 vs cs pt (zAR vs cl):Nat):Int))∧Below w.heap.size w w':=by
 have HR:Hid (RulesAt w r sv pv cv vs pt cs):=hR
 have HU:Hid (LArg w u cl):=hu
 have HVO:Hid (zAH vs):=hva
 have H1:Hid (1≤vs.length):=hn1
 have g0:=hR.c0
 obtain⟨h,hh⟩:∃h,zAR vs cl=h:=⟨_,rfl⟩
 have HH:Hid (zAR vs cl=h):=hh
 have HH36:Hid (h<2 ^ 36):=by rw[←hh];exact zDY vs hva.1 _
 rw[hh]
 obtain⟨a,c,rfl,_,_⟩:=hR.hv
 obtain⟨a2,c2,rfl,_,_⟩:=hu
 clear hR hva hn1 hh
 go_enter Tryz.func112,Tryz.ntmps112
 go_wp2_with fail
 refine (zCk vs HVO.out cl _ _ _ HR.out.hv HU.out).mono ?_
 rintro e w1 ⟨rfl,hb1⟩
 rw[HH.out]
 have HB1:Hid (Below w.heap.size w w1):=hb1
 clear hb1 g0
 go_wp2_with fail
 refine (zFL vs HVO.out H1.out cs pt h HH36.out r _ pv cv _ #[] _ (zHD vs pt w) (fun T Y hY=>RulesAt.below hY HR.out) _ HB1.out).mono ?_
 rintro e w2 ⟨rfl,hb2⟩
 have HB2:Hid (Below w.heap.size w w2):=hb2
 clear hb2
 go_wp2
 go_ret
 exact⟨rfl,HB2.out⟩
set_option maxHeartbeats 800000 in
set_option maxRecDepth 100000 in
theorem zEl (vs:List MVar) (hva:zAH vs) (hn1:1≤vs.length) (cs:List Nat) (pt:List (List Nat)) (cl:Cla) (r bx:Nat) (sv pv cv u:Value) (w:World) (hR:RulesAt w r sv pv cv vs pt cs) (hu:LArg w u cl) (hx:w.cell? ⟨bx,0,none⟩=some (.pointer (some ⟨r,0,none⟩))) :
 Calls Tryz.prog 221 #[u,.pointer (some ⟨bx,0,none⟩)] w fun e w'=>e=.returned (.bool (zAs vs cs pt cl))∧Below w.heap.size w w':=by
 have HR:Hid (RulesAt w r sv pv cv vs pt cs):=hR
 have HU:Hid (LArg w u cl):=hu
 have HVO:Hid (zAH vs):=hva
 have H1:Hid (1≤vs.length):=hn1
 obtain⟨B,hB⟩:∃B,zAs vs cs pt cl=B:=⟨_,rfl⟩
 obtain⟨N,hN⟩:∃N:Nat,zA1 vs cs pt (zAR vs cl)=N:=⟨_,rfl⟩
 have HN:Hid (zA1 vs cs pt (zAR vs cl)=N):=hN
 have HB:Hid (B=((N:Int)==0)):=by
  show _=_
  rw[←hB];unfold zAs;rw[hN]
  by_cases h0:N=0
  ·rw[h0];rfl
  ·have h1:((N:Int)==0)=false:=by simpa using h0
   rw[h1];simpa using h0
 rw[hB]
 obtain⟨a2,c2,rfl,_,_⟩:=hu
 clear hR hva hn1 hB hN
 go_enter Tryz.func221,Tryz.ntmps221
 go_wp2_with fail
 refine (zGQ vs HVO.out H1.out cs pt cl r sv pv cv _ _ HR.out HU.out).mono ?_
 rintro e w1 ⟨rfl,hb1⟩
 rw[HN.out]
 have HB1:Hid (Below w.heap.size w w1):=hb1
 clear hb1 hx
 go_wp2
 go_ret
 exact⟨zAB HB.out.symm,HB1.out⟩
theorem zEx (args:Array Value) (w':World):Sem.run Tryz.prog (callFunc 221 args) w'=.ok (.enter 221 args) w':=by
 simp[callFunc,go_sem,Tryz.func221,Tryz.f221]
def zGR (vs:List MVar) (cs:List Nat) (pt:List (List Nat)) (c:Cla):Cla×Bool:=if zAs vs cs pt c then (zBF vs cs pt c,true) else ([],false)
set_option maxHeartbeats 800000 in
set_option maxRecDepth 100000 in
theorem zIO (vs:List MVar) (hva:zAH vs) (hn1:1≤vs.length) (cs:List Nat) (pt:List (List Nat)) (cl:Cla) (hcl:cl.length≤900) (r:Nat) (sv pv cv u:Value) (w:World) (hR:RulesAt w r sv pv cv vs pt cs) (hu:LArg w u cl) :
 Calls Tryz.prog 177 #[.pointer (some ⟨r,0,none⟩),u] w fun e w'=>∃x,e=.returned (.tuple #[x,.bool (zGR vs cs pt cl).2])∧LOwn w.heap.size w' x (zGR vs cs pt cl).1∧Below w.heap.size w w':=by
 have HR:Hid (∀Y,Below w.heap.size w Y→RulesAt Y r sv pv cv vs pt cs):=fun Y hY=>RulesAt.below hY hR
 have HU:Hid (∀Y,Below w.heap.size w Y→LArg Y u cl):=fun Y hY=>LArg.below hY hu
 have HVO:Hid (zAH vs):=hva
 have H1:Hid (1≤vs.length):=hn1
 have HCL:Hid (cl.length≤900):=hcl
 obtain⟨R,hRR⟩:∃R,zGR vs cs pt cl=R:=⟨_,rfl⟩
 obtain⟨B,hB⟩:∃B,zAs vs cs pt cl=B:=⟨_,rfl⟩
 have HE:Hid (R=if B then (zBF vs cs pt cl,true) else ([],false)):=by show _=_;rw[←hRR,←hB];rfl
 have HBE:Hid (zAs vs cs pt cl=B):=hB
 rw[hRR]
 obtain⟨a2,c2,rfl,_,_⟩:=hu
 have HX:Hid (∀Y,Below (w.alloc (.cells #[.pointer (some ⟨r,0,none⟩)] 90)).heap.size (w.alloc (.cells #[.pointer (some ⟨r,0,none⟩)] 90)) Y→Y.cell? ⟨w.heap.size,0,none⟩=some (.pointer (some ⟨r,0,none⟩))):=fun Y hY=>(hY.cell (by simp)).trans (World.cell?_alloc_at _ _ _ 0 (by simp))
 clear hR hva hn1 hB hRR hcl
 go_enter Tryz.func177,Tryz.ntmps177
 go_wp2_with fail
 refine (zEl vs HVO.out H1.out cs pt cl r w.heap.size sv pv cv _ _ (HR.out _ (zAA _ _)) (HU.out _ (zAA _ _)) (HX.out _ (Below.refl _ _))).mono ?_
 rintro e w1 ⟨rfl,hb1⟩
 rw[HBE.out]
 have HBA:Hid (Below (w.alloc (.cells #[.pointer (some ⟨r,0,none⟩)] 90)).heap.size (w.alloc (.cells #[.pointer (some ⟨r,0,none⟩)] 90)) w1):=hb1
 have HB1:Hid (Below w.heap.size w w1):=(zAA _ _).trans (hb1.mono (by simp))
 clear hb1
 cases B
 ·have HE2:Hid (R=([],false)):=HE.out
  go_wp2
  go_ret2
  exact⟨_,by rw[HE2.out];rfl,by rw[HE2.out];exact World.ownsRow_nil _ _ _ _,HB1.out⟩
 ·have HE2:Hid (R=(zBF vs cs pt cl,true)):=HE.out
  go_wp2_with fail
  refine (zIM 221 #[.pointer (some ⟨w.heap.size,0,none⟩)] (zAs vs cs pt) cl HCL.out _ _ (HU.out _ HB1.out) ⟨zEx,fun c v Y hc hY hv=>?_⟩).mono ?_
  ·have hYA:=HBA.out.trans (hY.mono HBA.out.size)
   have hYW:=HB1.out.trans (hY.mono HB1.out.size)
   exact zEl vs HVO.out H1.out cs pt c r w.heap.size sv pv cv _ _ (HR.out _ hYW) hv (HX.out _ hYA)
  rintro e w2 ⟨x,rfl,hx,hb2⟩
  have HO:Hid (LOwn w.heap.size w2 x (zBF vs cs pt cl)):=zA2 HB1.out.size hx
  have HB2:Hid (Below w.heap.size w w2):=HB1.out.trans (hb2.mono HB1.out.size)
  obtain⟨ax,cx,rfl⟩:=zAC (show w2.ownsRow _ _ _ _ _ _ from hx)
  clear hx hb2
  go_wp2
  go_ret2
  exact⟨_,by rw[HE2.out];rfl,by rw[HE2.out];exact HO.out,HB2.out⟩
theorem PArg.lt36 {w:World} {v:Value} {l:List Nat} (h:PArg w v l):∀z∈l,z<2 ^ 36:=by
 intro z hz
 obtain⟨a,c,_,_,hr⟩:=h
 obtain⟨i,hi⟩:=List.mem_iff_getElem?.1 hz
 exact (hr i z hi).1
set_option maxHeartbeats 3200000 in
set_option maxRecDepth 100000 in
theorem zHE (vs:List MVar) (hva:zAH vs) (hn1:1≤vs.length) (pt:List (List Nat)) (cs:List Nat) (hcs:cs.length≤100000) (h:Nat) (hh:h<2 ^ 36) (r:Nat) (sv pv cv:Value) (c:List RV) (hcl:c.length≤5000) (hc36:∀x∈c,x.1.2<2 ^ 36) (hsl:∀x∈c,IsSl x) (v:Value) (b1 bh:Nat) (w:World) (hR:RulesAt w r sv pv cv vs pt cs) (hv:zDf w v c)
 (h1:w.cell? ⟨b1,0,none⟩=some (.pointer (some ⟨r,0,none⟩))) (h2:w.cell? ⟨bh,0,none⟩=some (.int .u64 h)) (hl1:b1<w.heap.size) (hl2:bh<w.heap.size) :
 Calls Tryz.prog 179 #[v,.pointer (some ⟨b1,0,none⟩),.pointer (some ⟨bh,0,none⟩)] w fun e w'=>e=.returned (.bool (zCX vs cs h (c.map (·.1))))∧Below w.heap.size w w':=by
 obtain⟨i0,hi0,hz0,hz1,hz2⟩:=info_parts Tryz.infoPart
 have HR:Hid (∀Y,Below w.heap.size w Y→RulesAt Y r sv pv cv vs pt cs):=fun Y hY=>RulesAt.below hY hR
 have HV:Hid (∀Y,Below w.heap.size w Y→zDf Y v c):=fun Y hY=>zDf.below hY hv
 have HVO:Hid (zAH vs):=hva
 have H1:Hid (1≤vs.length):=hn1
 have HH:Hid (h<2 ^ 36):=hh
 have HCS:Hid (cs.length≤100000):=hcs
 have HC36:Hid (∀x∈c,x.1.2<2 ^ 36):=hc36
 have HCS36:Hid (∀z∈cs,z<2 ^ 36):=PArg.lt36 hR.hc
 have HSL:Hid (∀x∈c,IsSl x):=hsl
 have r2:=hR.c2
 have rl:=hR.lt
 have r0':=hR.c0
 have HK1:Hid (∀Y,Below w.heap.size w Y→Y.cell? ⟨b1,0,none⟩=some (.pointer (some ⟨r,0,none⟩))∧Y.cell? ⟨bh,0,none⟩=some (.int .u64 h)∧Y.cell? ⟨r,0,none⟩=some sv∧b1<Y.heap.size∧bh<Y.heap.size∧r<Y.heap.size):=fun Y hY =>
  ⟨(hY.cell (p:=⟨b1,0,none⟩) hl1).trans h1,(hY.cell (p:=⟨bh,0,none⟩) hl2).trans h2,(hY.cell (p:=⟨r,0,none⟩) rl).trans r0',Nat.lt_of_lt_of_le hl1 hY.size,Nat.lt_of_lt_of_le hl2 hY.size,Nat.lt_of_lt_of_le rl hY.size⟩
 obtain⟨B,hB⟩:∃B,zCX vs cs h (c.map (·.1))=B:=⟨_,rfl⟩
 have HB:Hid (B=zE9 vs (cs++c.map (·.1.2)) h):=by show _=_;rw[←hB];unfold zCX;rw[List.map_map];rfl
 rw[hB]
 obtain⟨a1,c1,rfl,_,_⟩:=hR.hv
 obtain⟨a2,c2,rfl,_,_⟩:=hR.hc
 obtain⟨a3,c3,he3⟩:=zJX hv
 subst he3
 clear hR hv hva hn1 hh hB hc36 hsl r0'
 go_enter Tryz.func179,Tryz.ntmps179
 go_wp2_with fail
 refine (zHC cs (by have:=HCS.out;omega) _ _ (HR.out _ (Below.refl _ _)).hc).mono ?_
 rintro e w1 ⟨x,rfl,hx,hb1⟩
 have HX:Hid (w1.ownsRow w.heap.size 152 1 x cs.length (u64s cs)):=hx
 have HB1:Hid (Below w.heap.size w w1):=hb1
 obtain⟨ax,cx,rfl⟩:=zAC hx
 clear hx hb1 r2 rl h1 h2
 go_wp2_with fail
 go_loopw [5,15] (fun o i wr=>∃(k:Nat) (done:List Nat),k≤c.length∧i=.int .i64 k∧wr.ownsRow w.heap.size 152 1 o done.length (u64s done)∧Hid (done=cs++(c.take k).map (·.1.2))∧Below w.heap.size w wr) (fun _ i _=>c.length - (intOf i).toNat)
 case atStart=>exact⟨0,cs,by omega,rfl,HX.out,by show _=_;simp,HB1.out⟩
 case round =>
  obtain⟨k,done,hk,rfl,hown,hdn,hbw⟩:=hrel
  have HOW:Hid (wr.ownsRow w.heap.size 152 1 u5 done.length (u64s done)):=hown
  have HBW:Hid (Below w.heap.size w wr):=hbw
  obtain⟨ao,co,rfl⟩:=zAC hown
  have hdl:done.length≤105000:=by rw[hdn.out,List.length_append,List.length_map,List.length_take];have:=HCS.out;omega
  clear hown hbw
  by_cases hlt:k<c.length
  ·obtain⟨t,ht⟩:∃t,c[k]? = some t:=⟨c[k],by simp[hlt]⟩
   obtain⟨a4,n4,c4,b4,o4,he4,hn4,hc41,hc42,ha4,hb4,q0,q1,q2,q3⟩:=zDt (HV.out _ HBW.out) k t ht
   injection he4 with he4 he5 he6
   rw[ha4] at he4
   subst he4
   obtain⟨sa,ns,sc,hse⟩:=HSL.out t (List.mem_of_getElem? ht)
   rw[hse] at q2
   have HNX:Hid (done++[t.1.2]=cs++(c.take (k+1)).map (·.1.2)):=by
    show _=_
    rw[hdn.out,List.take_add_one,ht,List.map_append,←List.append_assoc];rfl
   have hcc:c.length≤c3:=by omega
   unfold maxLen at hc42
   have hcm:c3≤2 ^ 63 - 1:=by omega
   clear he5 he6 hc41 hc42 hn4 hse ha4 ht hdn
   obtain⟨z,hz⟩:∃z,t.1.2=z:=⟨_,rfl⟩
   rw[hz] at q3 HNX
   have hbs:=HBW.out.size
   have HBX:Hid (Below w.heap.size w (wr.alloc (.cells #[.int .i64 t.1.1.kind,.int .i64 t.1.1.con,.slice sa ns sc,.int .u64 (z:Int)] 207))):=HBW.out.alloc hbs _
   have HO1:Hid ((wr.alloc (.cells #[.int .i64 t.1.1.kind,.int .i64 t.1.1.con,.slice sa ns sc,.int .u64 (z:Int)] 207)).ownsRow w.heap.size 152 1 (.slice ao done.length co) done.length (u64s done)):=HOW.out.alloc _
   clear hz
   go_upto_region 5 with (fail)
   obtain⟨V,hV⟩:∃V,wr.alloc (.cells #[.int .i64 t.1.1.kind,.int .i64 t.1.1.con,.slice sa ns sc,.int .u64 (z:Int)] 207)=V:=⟨_,rfl⟩
   have k3:(wr.alloc (.cells #[.int .i64 t.1.1.kind,.int .i64 t.1.1.con,.slice sa ns sc,.int .u64 (z:Int)] 207)).cell? ⟨wr.heap.size,3,none⟩=some (.int .u64 (z:Int)):=World.cell?_alloc_at _ _ _ 3 (by simp)
   rw[hV] at HBX HO1 k3 ⊢
   clear hV q0 q1 q2 q3
   have hvs:=HBX.out.size
   go_wp2_with (at_builtin;refine wpList_append_own _ rfl _ _ 193 rfl w.heap.size 152 i0 (.int .u64 0) 1 8 Tryz.underPart hi0 hz0 hz1 hz2 rfl (by decide) _ _ _ rfl (HO1.out.alloc _) ⟨V.heap.size,0,none⟩ 1 1 [.int .u64 (z:Int)] rfl rfl (zFM V z) (by intro u hu;simp at hu;subst hu;rfl) ?c1 ?c2 ?c3 ?_)
   case c1=>unfold maxLen;omega
   case c2=>omega
   case c3=>simp;omega
   intro v6 w6 hown6 hg6 _
   have HO6:Hid (w6.ownsRow w.heap.size 152 1 v6 (done++[z]).length (u64s (done++[z]))):=by
    show World.ownsRow _ _ _ _ _ _ _
    unfold u64s at *
    rw[List.length_append,List.map_append];exact hown6
   have HB6:Hid (Below w.heap.size w w6):=(HBX.out.alloc hvs _).grown hg6 (by simp;omega) (fun g hg=>(HO1.out.lt g hg).1)
   clear hown6 hg6 k3
   go_wp2
   go_roundw
   case rel=>exact⟨k+1,done++[z],by omega,by go_num,HO6.out,HNX,HB6.out⟩
   case measure=>simp[intOf];omega
  ·have HFD:Hid (done=cs++c.map (·.1.2)):=by have h1:=hdn.out;rw[List.take_of_length_le (by omega)] at h1;exact h1
   have HPA:Hid (PArg wr (.slice ao done.length co) done):=zDP HOW.out (by
    rw[HFD.out]
    intro z hz
    rcases List.mem_append.1 hz with h | h
    ·exact HCS36.out z h
    ·obtain⟨x,hx,rfl⟩:=List.mem_map.1 h
     exact HC36.out x hx)
   obtain⟨k1,k2,k3,m1,m2,m3⟩:=HK1.out _ HBW.out
   have HBF:Hid (B=zE9 vs done h):=by show _=_;rw[HB.out,HFD.out]
   have HFA:Hid (∀Y,Below wr.heap.size wr Y→Calls Tryz.prog 181 #[.slice a1 (List.length vs) c1,.slice ao done.length co,.int .u64 (h:Int)] Y fun e w'=>e=.returned (.bool B)∧Below Y.heap.size Y w'):=fun Y hY=>by
    rw[HBF.out]
    have hRY:=HR.out Y (HBW.out.trans (hY.mono HBW.out.size))
    exact zJR vs HVO.out H1.out done h HH.out _ _ Y hRY.hv (PArg.below hY HPA.out) hRY.tab
   clear hdn
   go_upto_region 7 with (fail)
   go_region_held3 (fun w'=>Below wr.heap.size wr w'∧w'.cell? ⟨b1,0,none⟩=some (.pointer (some ⟨r,0,none⟩))∧w'.cell? ⟨bh,0,none⟩=some (.int .u64 h)∧w'.cell? ⟨r,0,none⟩=some (.slice a1 (List.length vs) c1))
    ((refine (fun (hB:Below wr.heap.size wr _)=>⟨hB,(hB.cell (p:=⟨b1,0,none⟩) m1).trans k1,(hB.cell (p:=⟨bh,0,none⟩) m2).trans k2,(hB.cell (p:=⟨r,0,none⟩) m3).trans k3⟩:Below wr.heap.size wr _→_) ?_;first | exact (Below.refl _ _).drew | exact zBV (by assumption) hbq))
    (first
     | (go_at_call 181;refine (HFA.out _ (show Below wr.heap.size wr _∧_ by assumption).1).mono ?_;rintro e w3 ⟨rfl,hbq⟩;have hB3:=zBV (by assumption) hbq))
   have HB3:Hid (Below w.heap.size w w3):=HBW.out.trans (hB3.mono HBW.out.size)
   clear hbq hB3 k1 k2 k3
   go_wp2
   go_ret
   exact⟨rfl,HB3.out⟩
theorem zFm (args:Array Value) (w':World):Sem.run Tryz.prog (callFunc 179 args) w'=.ok (.enter 179 args) w':=by
 simp[callFunc,go_sem,Tryz.func179,Tryz.f179]
end Go.Proofs.YtdjbejlbmaiocafGreatDoor
