/- What the proof leans on, part 15. -/
import Derived.Test.YtndcpnlaadikoaaGreatDoorPartAn
set_option maxRecDepth 100000
set_option maxHeartbeats 6400000
open Go.Proofs.Tryz
namespace Go.Proofs.YtndcpnlaadikoaaGreatDoor
open Go.RowKit
theorem zMh (x y z:Value) (w:World):Calls prog 198 #[x,y,z] w λe w'=>e=.returned (.tuple #[])/\w'=w:=by
 go_enter func198,ntmps198
 go_wp2
 go_end0
 exact⟨rfl,rfl⟩
theorem zJN (args:Array Value) (w':World):Sem.run prog (callFunc 198 args) w'=.ok (.enter 198 args) w':=by
 simp[callFunc,go_sem,func198,Tryz.f198]
theorem zOP (vs:List MVar) (pt:List (List Nat)) (W:World):Teller 198 #[] vs pt (λ_ w=>Bw W w) :=
 ⟨zJN,λ_ _ _ h hb=>h.trans (hb.mono h.size),λ_ _ _ _ w h _ _ _ _=>(zMh _ _ _ w).mono λ_ _ ⟨h1,h2⟩=>⟨h1,by rw[h2];exact h⟩⟩
theorem mU (vs:List MVar) (Zf:Vb vs) (XH:1<=vs.length) (cs:List Nat) (pt:List (List Nat)) (cl:Cla) (r:Nat) (sv pv cv u:Value) (w:World) (hR:RulesAt w r sv pv cv vs pt cs) (hu:LArg w u cl) :
 Calls prog 123 #[.pointer (some ⟨r,0,none⟩),u] w λe w'=>e=.returned (.int .u64 ((QR vs cs pt (zAH vs cl):Nat):Int))/\Bw w w':=by
 have HR:=hI hR;have HU:=hI hu;have YQ:=hI Zf;have H1:=hI XH;have g0:=hR.c0;obtain⟨h,hh⟩:∃h,zAH vs cl=h:=⟨_,rfl⟩;have HH:=hI hh;have VC:Hid (h<2 ^ 36):=by rw[<-hh];exact Qh vs Zf.1 _
 rw[hh];obtain⟨a,c,rfl,_,_⟩:=hR.hv;obtain⟨a2,c2,rfl,_,_⟩:=hu;clear hR Zf XH hh;go_enter func123,ntmps123
 go_wp2_with fail
 refine (Jp vs YQ.o cl _ _ _ HR.o.hv HU.o).mono ?_;rintro e w1 ⟨rfl,Z5⟩;rw[HH.o];have ZU:=hI Z5;clear Z5 g0;go_wp2_with fail
 refine (nW vs YQ.o H1.o cs pt h VC.o r _ pv cv _ #[] _ (zOP vs pt w) (λT Y hY=>RulesAt.below hY HR.o) _ ZU.o).mono ?_
 rintro e w2 ⟨rfl,ZY⟩;have ZI:=hI ZY;clear ZY;go_wp2
 go_ret
 exact⟨rfl,ZI.o⟩
theorem mT (vs:List MVar) (Zf:Vb vs) (XH:1<=vs.length) (cs:List Nat) (pt:List (List Nat)) (cl:Cla) (r bx:Nat) (sv pv cv u:Value) (w:World) (hR:RulesAt w r sv pv cv vs pt cs) (hu:LArg w u cl) (hx:w.cell? ⟨bx,0,none⟩=some (.pointer (some ⟨r,0,none⟩))) :
 Calls prog 141 #[u,.pointer (some ⟨bx,0,none⟩)] w λe w'=>e=.returned (.bool (Pw vs cs pt cl))/\Bw w w':=by
 have HR:=hI hR;have HU:=hI hu;have YQ:=hI Zf;have H1:=hI XH;obtain⟨B,hB⟩:∃B,Pw vs cs pt cl=B:=⟨_,rfl⟩;obtain⟨N,hN⟩:∃N:Nat,QR vs cs pt (zAH vs cl)=N:=⟨_,rfl⟩;have HN:=hI hN;have HB:Hid (B=((N:Int)==0)):=by
  show _=_;rw[<-hB];unfold Pw;rw[hN];by_cases h0:N=0
  ·rw[h0];rfl
  have h1:((N:Int)==0)=false:=by simpa using h0
  rw[h1];simpa using h0
 rw[hB];obtain⟨a2,c2,rfl,_,_⟩:=hu;clear hR Zf XH hB hN;go_enter func141,ntmps141
 go_wp2_with fail
 refine (mU vs YQ.o H1.o cs pt cl r sv pv cv _ _ HR.o HU.o).mono ?_;rintro e w1 ⟨rfl,Z5⟩;rw[HN.o];have ZU:=hI Z5;clear Z5 hx;go_wp2
 go_ret
 exact⟨ZD HB.o.symm,ZU.o⟩
theorem zKC (args:Array Value) (w':World):Sem.run prog (callFunc 141 args) w'=.ok (.enter 141 args) w':=by
 simp[callFunc,go_sem,func141,Tryz.f141]
def CO (vs:List MVar) (cs:List Nat) (pt:List (List Nat)) (c:Cla):Cla×Bool:=if Pw vs cs pt c then (Rt vs cs pt c,true) else ([],false)
theorem zQg (vs:List MVar) (Zf:Vb vs) (XH:1<=vs.length) (cs:List Nat) (pt:List (List Nat)) (cl:Cla) (XD:cl.length<=900) (r:Nat) (sv pv cv u:Value) (w:World) (hR:RulesAt w r sv pv cv vs pt cs) (hu:LArg w u cl) :
 Calls prog 84 #[.pointer (some ⟨r,0,none⟩),u] w λe w'=>∃x,e=.returned (.tuple #[x,.bool (CO vs cs pt cl).2])/\LOwn w.heap.size w' x (CO vs cs pt cl).1/\Bw w w':=by
 have HR:Hid (∀Y,Bw w Y->RulesAt Y r sv pv cv vs pt cs):=λY hY=>RulesAt.below hY hR
 have HU:Hid (∀Y,Bw w Y->LArg Y u cl):=λY hY=>LArg.below hY hu
 have YQ:=hI Zf;have H1:=hI XH;have XR:=hI XD;obtain⟨R,M_⟩:∃R,CO vs cs pt cl=R:=⟨_,rfl⟩;obtain⟨B,hB⟩:∃B,Pw vs cs pt cl=B:=⟨_,rfl⟩;have HE:Hid (R=if B then (Rt vs cs pt cl,true) else ([],false)):=by show _=_;rw[<-M_,<-hB];rfl
 have UK:=hI hB;rw[M_];obtain⟨a2,c2,rfl,_,_⟩:=hu;have HX:Hid (∀Y,Below (w.alloc (.cells #[.pointer (some ⟨r,0,none⟩)] 71)).heap.size (w.alloc (.cells #[.pointer (some ⟨r,0,none⟩)] 71)) Y->Y.cell? ⟨w.heap.size,0,none⟩=some (.pointer (some ⟨r,0,none⟩))):=λY hY=>(hY.cell (by simp)).trans (Zu _ _ _ 0 (by simp))
 clear hR Zf XH hB M_ XD;go_enter func84,ntmps84
 go_wp2_with fail
 refine (mT vs YQ.o H1.o cs pt cl r w.heap.size sv pv cv _ _ (HR.o _ (Z4 _ _)) (HU.o _ (Z4 _ _)) (HX.o _ (Z6 _ _))).mono ?_;rintro e w1 ⟨rfl,Z5⟩;rw[UK.o];have Ws:=hI Z5;have ZU:Hid (Bw w w1):=(Z4 _ _).trans (Z5.mono (by simp))
 clear Z5;cases B
 ·have WO:Hid (R=([],false)):=HE.o
  go_wp2
  go_ret2
  exact⟨_,by rw[WO.o];rfl,by rw[WO.o];exact ZH _ _ _ _,ZU.o⟩
 have WO:Hid (R=(Rt vs cs pt cl,true)):=HE.o;go_wp2_with fail
 refine (zQe 141 #[.pointer (some ⟨w.heap.size,0,none⟩)] (Pw vs cs pt) cl XR.o _ _ (HU.o _ ZU.o) ⟨zKC,λc v Y hc hY hv=>?_⟩).mono ?_
 ·have hYA:=Ws.o.trans (hY.mono Ws.o.size)
  have uB:=ZU.o.trans (hY.mono ZU.o.size);exact mT vs YQ.o H1.o cs pt c r w.heap.size sv pv cv _ _ (HR.o _ uB) hv (HX.o _ hYA)
 rintro e w2 ⟨x,rfl,hx,ZY⟩;have HO:Hid (LOwn w.heap.size w2 x (Rt vs cs pt cl)):=Ri ZU.o.size hx;have ZI:=hI (ZU.o.trans (ZY.mono ZU.o.size));obtain⟨ax,cx,rfl⟩:=ZJ (show w2.ownsRow _ _ _ _ _ _ from hx)
 clear hx ZY;go_wp2
 go_ret2
 exact⟨_,by rw[WO.o];rfl,by rw[WO.o];exact HO.o,ZI.o⟩
theorem PArg.lt36 {w:World} {v:Value} {l:List Nat} (h:PArg w v l):∀z∈l,z<2 ^ 36:=by
 intro z hz;obtain⟨a,c,_,_,hr⟩:=h;obtain⟨i,hi⟩:=Wm.1 hz;exact (hr i z hi).1
theorem zOQ (vs:List MVar) (Zf:Vb vs) (XH:1<=vs.length) (pt:List (List Nat)) (cs:List Nat) (Wx:cs.length<=100000) (h:Nat) (hh:h<2 ^ 36) (r:Nat) (sv pv cv:Value) (c:List RV) (XD:c.length<=5000) (CN:∀x∈c,x.1.2<2 ^ 36) (Pu:∀x∈c,IsSl x) (v:Value) (b1 bh:Nat) (w:World) (hR:RulesAt w r sv pv cv vs pt cs) (hv:N3 w v c)
 (h1:w.cell? ⟨b1,0,none⟩=some (.pointer (some ⟨r,0,none⟩))) (h2:w.cell? ⟨bh,0,none⟩=some (.int .u64 h)) (WS:b1<w.heap.size) (Yn:bh<w.heap.size) :
 Calls prog 86 #[v,.pointer (some ⟨b1,0,none⟩),.pointer (some ⟨bh,0,none⟩)] w λe w'=>e=.returned (.bool (Js vs cs h (c.map (·.1))))/\Bw w w':=by
 obtain⟨i0,WJ,Ze,Y_,Zb⟩:=info_parts Da;have HR:Hid (∀Y,Bw w Y->RulesAt Y r sv pv cv vs pt cs):=λY hY=>RulesAt.below hY hR
 have HV:Hid (∀Y,Bw w Y->N3 Y v c):=λY hY=>N3.below hY hv
 have YQ:=hI Zf;have H1:=hI XH;have HH:=hI hh;have QK:=hI Wx;have uA:=hI CN;have CM:Hid (∀z∈cs,z<2 ^ 36):=PArg.lt36 hR.hc;have N2:=hI Pu;have r2:=hR.c2;have rl:=hR.lt;have r0':=hR.c0;have KC:Hid (∀Y,Bw w Y->Y.cell? ⟨b1,0,none⟩=some (.pointer (some ⟨r,0,none⟩))/\Y.cell? ⟨bh,0,none⟩=some (.int .u64 h)/\Y.cell? ⟨r,0,none⟩=some sv/\b1<Y.heap.size/\bh<Y.heap.size/\r<Y.heap.size):=λY hY =>
  ⟨(hY.cell (p:=⟨b1,0,none⟩) WS).trans h1,(hY.cell (p:=⟨bh,0,none⟩) Yn).trans h2,(hY.cell (p:=⟨r,0,none⟩) rl).trans r0',ZQ WS hY.size,ZQ Yn hY.size,ZQ rl hY.size⟩
 obtain⟨B,hB⟩:∃B,Js vs cs h (c.map (·.1))=B:=⟨_,rfl⟩
 have HB:Hid (B=N9 vs (cs++c.map (·.1.2)) h):=by show _=_;rw[<-hB];unfold Js;rw[List.map_map];rfl
 rw[hB];obtain⟨a1,c1,rfl,_,_⟩:=hR.hv;obtain⟨a2,c2,rfl,_,_⟩:=hR.hc;obtain⟨a3,c3,CQ⟩:=m5 hv;subst CQ;clear hR hv Zf XH hh hB CN Pu r0';go_enter func86,ntmps86
 go_wp2_with fail
 refine (zOO cs (by have:=QK.o;omega) _ _ (HR.o _ (Z6 _ _)).hc).mono ?_
 rintro e w1 ⟨x,rfl,hx,Z5⟩;have HX:=hI hx;have ZU:=hI Z5;obtain⟨ax,cx,rfl⟩:=ZJ hx;clear hx Z5 r2 rl h1 h2;go_wp2_with fail
 go_loopw [5,15] (λo i wr=>∃(k:Nat) (done:List Nat),k<=c.length/\i=.int .i64 k/\wr.ownsRow w.heap.size 136 1 o done.length (u64s done)/\Hid (done=cs++(c.take k).map (·.1.2))/\Bw w wr) (λ_ i _=>c.length - (intOf i).toNat)
 case atStart=>exact⟨0,cs,by omega,rfl,HX.o,by show _=_;simp,ZU.o⟩
 obtain⟨k,done,hk,rfl,Z9,CL,Z3⟩:=hrel;have Yo:=hI Z9;have ZW:=hI Z3;obtain⟨ao,co,rfl⟩:=ZJ Z9;have hdl:done.length<=105000:=by rw[CL.o,ZC,YU,X_];have:=QK.o;omega
 clear Z9 Z3;by_cases Z7:k<c.length
 ·obtain⟨t,ht⟩:∃t,c[k]? = some t:=⟨c[k],by simp[Z7]⟩
  obtain⟨a4,n4,c4,b4,o4,MY,Jz,G0,MX,GZ,Zd,q0,q1,q2,q3⟩:=mV (HV.o _ ZW.o) k t ht
  injection MY with MY Jo uz
  rw[GZ] at MY;subst MY;obtain⟨sa,ns,sc,NZ⟩:=N2.o t (Zz ht);rw[NZ] at q2;have XA:Hid (done++[t.1.2]=cs++(c.take (k+1)).map (·.1.2)):=by
   show _=_;rw[CL.o,Y1,ht,YY,<-SO];rfl
  have Dl:c.length<=c3:=by omega
  unfold maxLen at MX;have QU:c3<=2 ^ 63 - 1:=by omega
  clear Jo uz G0 MX Jz NZ GZ ht CL;obtain⟨z,hz⟩:∃z,t.1.2=z:=⟨_,rfl⟩;rw[hz] at q3 XA;have Qn:=ZW.o.size;have X2:Hid (Bw w (wr.alloc (.cells #[.int .i64 t.1.1.kind,.int .i64 t.1.1.con,.slice sa ns sc,.int .u64 (z:Int)] 145))):=ZW.o.alloc Qn _;have N8:Hid ((wr.alloc (.cells #[.int .i64 t.1.1.kind,.int .i64 t.1.1.con,.slice sa ns sc,.int .u64 (z:Int)] 145)).ownsRow w.heap.size 136 1 (.slice ao done.length co) done.length (u64s done)):=Yo.o.alloc _;clear hz;go_upto_region 5 with (fail)
  obtain⟨V,hV⟩:∃V,wr.alloc (.cells #[.int .i64 t.1.1.kind,.int .i64 t.1.1.con,.slice sa ns sc,.int .u64 (z:Int)] 145)=V:=⟨_,rfl⟩;have k3:(wr.alloc (.cells #[.int .i64 t.1.1.kind,.int .i64 t.1.1.con,.slice sa ns sc,.int .u64 (z:Int)] 145)).cell? ⟨wr.heap.size,3,none⟩=some (.int .u64 (z:Int)):=Zu _ _ _ 3 (by simp)
  rw[hV] at X2 N8 k3 ⊢;clear hV q0 q1 q2 q3;have U1:=X2.o.size;go_wp2_with (at_builtin;refine wpList_append_own _ rfl _ _ 139 rfl w.heap.size 136 i0 (.int .u64 0) 1 8 zL WJ Ze Y_ Zb rfl (by decide) _ _ _ rfl (N8.o.alloc _) ⟨V.heap.size,0,none⟩ 1 1 [.int .u64 (z:Int)] rfl rfl (nD V z) (by intro u hu;simp at hu;subst hu;rfl) ?c1 ?c2 ?c3 ?_)
  case c1=>unfold maxLen;omega
  case c2=>omega
  case c3=>simp;omega
  intro v6 w6 YS UM _;have Rh:Hid (w6.ownsRow w.heap.size 136 1 v6 (done++[z]).length (u64s (done++[z]))):=by
   show World.ownsRow _ _ _ _ _ _ _;unfold u64s at *;rw[ZC,YY];exact YS
  have Sd:Hid (Bw w w6):=(X2.o.alloc U1 _).grown UM (by simp;omega) (λg hg=>(N8.o.lt g hg).1)
  clear YS UM k3;go_wp2
  go_roundw
  case rel=>exact⟨k+1,done++[z],by omega,by go_num,Rh.o,XA,Sd.o⟩
  case measure=>simp[intOf];omega
 have zA:Hid (done=cs++c.map (·.1.2)):=by have h1:=CL.o;rw[Zi (by omega)] at h1;exact h1
 have He:Hid (PArg wr (.slice ao done.length co) done):=EQ Yo.o (by
  rw[zA.o];intro z hz;rcases Xn.1 hz with h | h
  ·exact CM.o z h
  ·obtain⟨x,hx,rfl⟩:=Zj.1 h
   exact uA.o x hx)
 obtain⟨k1,k2,k3,m1,m2,m3⟩:=KC.o _ ZW.o;have N6:Hid (B=N9 vs done h):=by show _=_;rw[HB.o,zA.o]
 have EG:Hid (∀Y,Bw wr Y->Calls prog 88 #[.slice a1 (List.length vs) c1,.slice ao done.length co,.int .u64 (h:Int)] Y λe w'=>e=.returned (.bool B)/\Bw Y w'):=λY hY=>by
  rw[N6.o];have EV:=HR.o Y (ZW.o.trans (hY.mono ZW.o.size));exact n9 vs YQ.o H1.o done h HH.o _ _ Y EV.hv (PArg.below hY He.o) EV.tab
 clear CL;go_upto_region 7 with (fail)
 go_region_held3 (λw'=>Bw wr w'/\w'.cell? ⟨b1,0,none⟩=some (.pointer (some ⟨r,0,none⟩))/\w'.cell? ⟨bh,0,none⟩=some (.int .u64 h)/\w'.cell? ⟨r,0,none⟩=some (.slice a1 (List.length vs) c1))
  ((refine (λ(hB:Bw wr _)=>⟨hB,(hB.cell (p:=⟨b1,0,none⟩) m1).trans k1,(hB.cell (p:=⟨bh,0,none⟩) m2).trans k2,(hB.cell (p:=⟨r,0,none⟩) m3).trans k3⟩:Bw wr _->_) ?_;first | exact (Z6 _ _).drew | exact N7 (by assumption) Yu))
  (first
    | (go_at_call 88;refine (EG.o _ (show Bw wr _/\_ by assumption).1).mono ?_;rintro e w3 ⟨rfl,Yu⟩;have hB3:=N7 (by assumption) Yu))
 have ZM:=hI (ZW.o.trans (hB3.mono ZW.o.size));clear Yu hB3 k1 k2 k3;go_wp2
 go_ret
 exact⟨rfl,ZM.o⟩
theorem zLW (args:Array Value) (w':World):Sem.run prog (callFunc 86 args) w'=.ok (.enter 86 args) w':=by
 simp[callFunc,go_sem,func86,Tryz.f86]
theorem mS:(prog.info? 39).map (λi=>(i.zero,i.size,i.bytes))=some (some (.agg #[.int .i64 0,.int .i64 0,.slice none 0 0]),3,40):=by kernel_rfl
theorem uy:prog.underlying 32=some (.slice 39):=by kernel_rfl
abbrev SV:=MStep×Value
def UY (x:SV):List Value:=[.int .i64 x.1.kind,.int .i64 x.1.con,x.2]
def zCQ (base:Nat) (w:World) (v:Value) (L:List SV):Prop:=w.ownsRow base 39 3 v L.length (L.map UY).flatten/\∀x∈L,LOwn base w x.2 x.1.cla
theorem zCQ.below {base:Nat} {w w':World} {v:Value} {L:List SV} (h:zCQ base w v L) (hb:Bw w w'):zCQ base w' v L:=⟨YZ h.1 hb,λx hx=>YZ (h.2 x hx) hb⟩
theorem zCQ.mono {base base':Nat} {w:World} {v:Value} {L:List SV} (h:zCQ base w v L) (hb:base'<=base):zCQ base' w v L:=⟨World.ownsRow.mono h.1 hb,λx hx=>Ri hb (h.2 x hx)⟩
theorem ux (w:World) (x:SV):∀(j:Nat) (u:Value),(UY x)[j]? = some u->(w.alloc (.cells #[.int .i64 x.1.kind,.int .i64 x.1.con,x.2] 39)).cell? ((⟨w.heap.size,0,none⟩:Addr).add j)=some u:=by
 intro j u hj
 match j,hj with
 | 0,hj=>simp[UY] at hj;subst hj;simp[Addr.add]
 | 1,hj=>simp[UY] at hj;subst hj;simp[Addr.add]
 | 2,hj=>simp[UY] at hj;subst hj;simp[Addr.add]
theorem zCQ.push {base n:Nat} {w w':World} {v v':Value} {L:List SV} {x:SV} (h:zCQ base w v L) (hx:LOwn base w x.2 x.1.cla) (hg:w.grownBy w' v.ownBlock) (hn:n=L.length+1) (ho:w'.ownsRow base 39 3 v' n ((L.map UY).flatten++UY x)):zCQ base w' v' (L++[x]):=by
 refine⟨?_,λy hy=>?_⟩
 ·rw[ZC,V6,<-hn,YY,La]
  simpa using ho
 rcases Xn.1 hy with h3 | h3
 ·exact P_ (h.2 y h3) hg h.1 (by decide)
 rw[Zh.1 h3];exact P_ hx hg h.1 (by decide)
theorem mR {α β:Type} (f:α->β) (e:List β->Bool):∀(k:Nat) (l:List α),(Uh (λc=>e (c.map f)) k l).map f=Uh e k (l.map f)
 | 0,l=>rfl
 | k+1,l=>by
   rw[m7,m7,mR f e k,uU]
   congr 1
   split <;> rfl
theorem zQh (vs:List MVar) (Zf:Vb vs) (XH:1<=vs.length) (pt:List (List Nat)) (cs:List Nat) (Wx:cs.length<=100000) (cl:Cla) (XD:cl.length<=900) (r:Nat) (sv pv cv u:Value) (w:World) (hR:RulesAt w r sv pv cv vs pt cs) (hu:LArg w u cl) :
 Calls prog 36 #[.pointer (some ⟨r,0,none⟩),u] w λe w'=>∃v L,e=.returned v/\L.map (·.1)=Hy vs cs pt cl/\zCQ w.heap.size w' v L/\L.length<=1500/\Bw w w':=by
 obtain⟨i0,WJ,Ze,Y_,Zb⟩:=info_parts mS;have HR:Hid (∀Y,Bw w Y->RulesAt Y r sv pv cv vs pt cs):=λY hY=>RulesAt.below hY hR
 have HU:Hid (∀Y,Bw w Y->LArg Y u cl):=λY hY=>LArg.below hY hu
 have YQ:=hI Zf;have H1:=hI XH;have QK:=hI Wx;have XR:=hI XD;obtain⟨h,hh⟩:∃h,zAH vs cl=h:=⟨_,rfl⟩;have HH:=hI hh;have VC:Hid (h<2 ^ 36):=by rw[<-hh];exact Qh vs Zf.1 _
 obtain⟨ST,uw⟩:∃ST,Hy vs cs pt cl=ST:=⟨_,rfl⟩;have Yx:Hid (ST=(Uh (Js vs cs h) (Jt vs cs pt h).length (Jt vs cs pt h)).map (·.1)++[⟨2,0,cl⟩]):=by show _=_;rw[<-uw,<-hh];rfl
 rw[uw];have r0:=hR.c0;have rl:=hR.lt;obtain⟨a1,c1,rfl,_,_⟩:=hR.hv;obtain⟨a2,c2,rfl,_,_⟩:=hu;clear hR Zf XH Wx XD hh uw;go_enter func36,ntmps36
 go_wp2_with fail
 refine (Jp vs YQ.o cl _ _ _ (HR.o _ (Z4 _ _)).hv (HU.o _ (Z4 _ _))).mono ?_;rintro e w1 ⟨rfl,Z5⟩;rw[HH.o];have ZU:Hid (Bw w w1):=(Z4 _ _).trans (Z5.mono (by simp))
 have Xt:Hid (w1.cell? ⟨w.heap.size,0,none⟩=some (.pointer (some ⟨r,0,none⟩))):=(Z5.cell (by simp)).trans (Zu _ _ _ 0 (by simp))
 have Za:Hid (w.heap.size<w1.heap.size):=by have:=Z5.size;simp at this;show _<_;omega
 clear Z5 r0 rl;have k1:(w1.alloc (.cells #[.int .u64 (h:Int)] 136)).cell? ⟨w.heap.size,0,none⟩=some (.pointer (some ⟨r,0,none⟩)):=((Z4 w1 _).cell (p:=⟨w.heap.size,0,none⟩) Za.o).trans Xt.o;have k2:(w1.alloc (.cells #[.int .u64 (h:Int)] 136)).cell? ⟨w1.heap.size,0,none⟩=some (.int .u64 (h:Int)):=Zu _ _ _ 0 (by simp)
 have Wa:Hid (Bw w (w1.alloc (.cells #[.int .u64 (h:Int)] 136))):=ZU.o.alloc ZU.o.size _;have EF:Hid (w1.heap.size<(w1.alloc (.cells #[.int .u64 (h:Int)] 136)).heap.size):=by show _<_;simp
 obtain⟨G,hG⟩:∃G,w1.heap.size=G:=⟨_,rfl⟩;obtain⟨V,hV⟩:∃V,w1.alloc (.cells #[.int .u64 (h:Int)] 136)=V:=⟨_,rfl⟩;go_upto_region 4 with (fail)
 rw[hV] at Wa EF;rw[hG] at EF Za;rw[hG,hV] at k2;rw[hV] at k1;have HK:Hid (∀Y,Bw V Y->Y.cell? ⟨w.heap.size,0,none⟩=some (.pointer (some ⟨r,0,none⟩))/\Y.cell? ⟨G,0,none⟩=some (.int .u64 (h:Int))/\w.heap.size<Y.heap.size/\G<Y.heap.size):=λY hY=>by
  have h1:=Za.o;have h2:=EF.o;have h3:=hY.size;exact⟨(hY.cell (p:=⟨w.heap.size,0,none⟩) (by show w.heap.size<V.heap.size;omega)).trans k1,(hY.cell (p:=⟨G,0,none⟩) h2).trans k2,by omega,by omega⟩
 clear hG hV Xt;go_wp2_with fail
 refine (zON vs YQ.o H1.o pt cs h VC.o r _ pv cv _ (HR.o _ Wa.o)).mono ?_;rintro e w2 ⟨v2,L,rfl,LM,GY,GX,uv,ZY⟩;have OH:Hid (ROwn w.heap.size w2 v2 L):=CZ Wa.o.size GY;have uu:Hid (∀x∈L,LOwn w.heap.size w2 x.2 x.1.1.cla):=λx hx=>Ri Wa.o.size (GX x hx)
 have uC:=hI LM
 have ZI:=hI ZY;have Ro:=hI (Wa.o.trans (ZY.mono Wa.o.size));have N2:Hid (∀x∈L,IsSl x):=λx hx=>by
  obtain⟨a,c,he⟩:=ZJ (show w2.ownsRow _ _ _ _ _ _ from GX x hx)
  exact⟨a,_,c,he⟩
 have ut:Hid (∀x∈L,x.1.2<2 ^ 36):=λx hx=>by
  have h1:x.1∈Jt vs cs pt h:=by rw[<-LM];exact Zj.2 ⟨x,hx,rfl⟩
  obtain⟨t,_,ht⟩:=UV.1 h1;unfold Nb at ht
  split at ht
  ·rw[Zh.1 ht];exact Qh vs YQ.o.1 _
  obtain⟨l,_,hl⟩:=Zj.1 ht;rw[<-hl];exact Qh vs YQ.o.1 _
 obtain⟨ao,co,rfl⟩:=ZJ (show w2.ownsRow _ _ _ _ _ _ from GY)
 clear LM GY GX ZY k1 k2;go_wp2_with fail
 refine (zLV 86 #[.pointer (some ⟨w.heap.size,0,none⟩),.pointer (some ⟨G,0,none⟩)] (λc=>Js vs cs h (c.map (·.1))) L N2.o (by omega) _ _ OH.o.arg ⟨zLW,λc v Y hc QU hY hv=>?_⟩).mono ?_
 ·have mQ:=ZI.o.trans (hY.mono ZI.o.size)
  have uB:=Wa.o.trans (mQ.mono Wa.o.size);obtain⟨q1,q2,q3,q4⟩:=HK.o Y mQ;exact zOQ vs YQ.o H1.o pt cs QK.o h VC.o r _ pv cv c (by omega) (λx hx=>ut.o x (QU x hx)) (λx hx=>N2.o x (QU x hx)) v _ _ Y (HR.o Y uB) hv q1 q2 q3 q4
 rintro e w3 ⟨v3,rfl,KB,ZG⟩;obtain⟨R,CK⟩:∃R,Uh (λc=>Js vs cs h (c.map (·.1))) L.length L=R:=⟨_,rfl⟩
 have UA:Hid (R.map (·.1)=Uh (Js vs cs h) (Jt vs cs pt h).length (Jt vs cs pt h)):=by show _=_;rw[<-CK,mR (λx:RV=>x.1),<-uC.o,YU]
 have EE:Hid (∀x∈R,x∈L):=λx hx=>vY _ x _ _ (by rw[CK];exact hx)
 have hRL:R.length<=1400:=by rw[<-CK];exact ZT (vX _ _ _) uv
 rw[CK] at KB;have ur:Hid (ROwn w.heap.size w3 v3 R):=CZ Ro.o.size KB;have ZM:=hI (Ro.o.trans (ZG.mono Ro.o.size));have uq:Hid (∀x∈R,LOwn w.heap.size w3 x.2 x.1.1.cla):=λx hx=>YZ (uu.o x (EE.o x hx)) ZG
 obtain⟨a3,c3,rfl⟩:=ZJ (show w3.ownsRow _ _ _ _ _ _ from KB)
 clear KB ZG CK;go_wp2_with fail
 go_loopw [7,23] (λo i wr=>∃k:Nat,k<=R.length/\i=.int .i64 k/\Hid (∃D:List SV,D.map (·.1)=(R.take k).map (·.1.1)/\zCQ w.heap.size wr o D/\ROwn w.heap.size wr (.slice a3 R.length c3) R/\(∀x∈R,LOwn w.heap.size wr x.2 x.1.1.cla)/\Bw w wr)) (λ_ i _=>R.length - (intOf i).toNat)
 case atStart=>exact⟨0,by omega,rfl,[],rfl,⟨ZH _ _ _ _,λx hx=>by cases hx⟩,ur.o,uq.o,ZM.o⟩
 obtain⟨k,hk,rfl,VS⟩:=hrel;obtain⟨D,hD,Jg,Uz,Wj,Z3⟩:=VS.o;have HD:=hI hD
 have M2:=hI Jg;have VG:=hI Uz;have KA:=hI Wj;have ZW:=hI Z3;have CJ:D.length=k:=by
  have h1:=congrArg List.length hD;rw[YU,YU,X_] at h1;omega
 obtain⟨ad,cd,mP⟩:=ZJ Jg.1;rw[CJ] at mP;subst mP;clear hD Jg Uz Wj Z3 VS;by_cases Z7:k<R.length
 ·obtain⟨t,ht⟩:∃t,R[k]? = some t:=⟨R[k],by simp[Z7]⟩
  obtain⟨a4,n4,c4,b4,o4,MY,Jz,G0,MX,GZ,Zd,q0,q1,q2,q3⟩:=mV VG.o.arg k t ht
  injection MY with MY Jo uz
  rw[GZ] at MY;subst MY;have htm:t∈R:=Zz ht;have CI:Hid (LOwn w.heap.size wr t.2 t.1.1.cla):=KA.o t htm;obtain⟨sa,sc,NZ⟩:=ZJ (show wr.ownsRow _ _ _ _ _ _ from CI.o)
  rw[NZ] at q2;have Jf:=hI NZ;have XA:Hid ((D++[(t.1.1,t.2)]).map (·.1)=(R.take (k+1)).map (·.1.1)):=by
   show _=_;rw[YY,HD.o,Y1,ht,YY];rfl
  have Dl:R.length<=c3:=by omega
  unfold maxLen at MX;have QU:c3<=2 ^ 63 - 1:=by omega
  clear Jo uz G0 MX Jz NZ GZ ht;have Qn:=ZW.o.size;obtain⟨kd,Yr⟩:∃kd,t.1.1.kind=kd:=⟨_,rfl⟩;obtain⟨cn,C0⟩:∃cn,t.1.1.con=cn:=⟨_,rfl⟩;obtain⟨hz,mO⟩:∃hz:Nat,t.1.2=hz:=⟨_,rfl⟩;obtain⟨nl,TV⟩:∃nl,t.1.1.cla.length=nl:=⟨_,rfl⟩;rw[Yr] at q0;rw[C0] at q1;rw[mO] at q3;rw[TV] at q2 Jf;have TY:Hid (UY (t.1.1,t.2)=[.int .i64 kd,.int .i64 cn,.slice sa nl sc]):=by show _=_;unfold UY;rw[Jf.o,Yr,C0]
  have uo:Hid (∀V:World,∀(j:Nat) (u:Value),([.int .i64 kd,.int .i64 cn,.slice sa nl sc]:List Value)[j]? = some u->(V.alloc (.cells #[.int .i64 kd,.int .i64 cn,.slice sa nl sc] 39)).cell? ((⟨V.heap.size,0,none⟩:Addr).add j)=some u):=λV=>by
   have h1:=ux V (⟨kd,cn,[]⟩,.slice sa nl sc);exact h1
  clear Yr C0 mO TV;have X2:Hid (Bw wr (wr.alloc (.cells #[.int .i64 kd,.int .i64 cn,.slice sa nl sc,.int .u64 (hz:Int)] 145))):=Z4 _ _;go_upto_region 7 with (fail)
  obtain⟨V,hV⟩:∃V,wr.alloc (.cells #[.int .i64 kd,.int .i64 cn,.slice sa nl sc,.int .u64 (hz:Int)] 145)=V:=⟨_,rfl⟩;have k0:(wr.alloc (.cells #[.int .i64 kd,.int .i64 cn,.slice sa nl sc,.int .u64 (hz:Int)] 145)).cell? ⟨wr.heap.size,0,none⟩=some (.int .i64 kd):=Zu _ _ _ 0 (by simp)
  have k1:(wr.alloc (.cells #[.int .i64 kd,.int .i64 cn,.slice sa nl sc,.int .u64 (hz:Int)] 145)).cell? ⟨wr.heap.size,1,none⟩=some (.int .i64 cn):=Zu _ _ _ 1 (by simp)
  have k2:(wr.alloc (.cells #[.int .i64 kd,.int .i64 cn,.slice sa nl sc,.int .u64 (hz:Int)] 145)).cell? ⟨wr.heap.size,2,none⟩=some (.slice sa nl sc):=Zu _ _ _ 2 (by simp)
  rw[hV] at X2 k0 k1 k2 ⊢;clear hV q0 q1 q2 q3;have U1:=X2.o.size;have GW:Hid (Bw w V):=ZW.o.trans (X2.o.mono ZW.o.size);have WW:Hid (zCQ w.heap.size (V.alloc (.cells #[.int .i64 kd,.int .i64 cn,.slice sa nl sc] 39)) (.slice ad k cd) D):=(M2.o.below X2.o).below (Z4 _ _);have LK:Hid ((V.alloc (.cells #[.int .i64 kd,.int .i64 cn,.slice sa nl sc] 39)).ownsRow w.heap.size 39 3 (.slice ad k cd) k (D.map UY).flatten):=by have:=WW.o.1;rw[CJ] at this;exact this
  go_wp2_with (at_builtin;refine wpList_append_own _ rfl _ _ 32 rfl w.heap.size 39 i0 (.agg #[.int .i64 0,.int .i64 0,.slice none 0 0]) 3 40 uy WJ Ze Y_ Zb rfl (by decide) _ _ _ rfl LK.o ⟨V.heap.size,0,none⟩ 1 1 [.int .i64 kd,.int .i64 cn,.slice sa nl sc] rfl rfl (uo.o V) (by intro u hu;simp at hu;rcases hu with rfl | rfl | rfl <;> rfl) ?c1 ?c2 ?c3 ?_)
  case c1=>unfold maxLen;omega
  case c2=>omega
  case c3=>simp;omega
  intro v6 w6 YS UM _;have Ws:Hid (Bw wr (V.alloc (.cells #[.int .i64 kd,.int .i64 cn,.slice sa nl sc] 39))):=X2.o.alloc U1 _;have Wr:Hid (zCQ w.heap.size w6 v6 (D++[(t.1.1,t.2)])):=zCQ.push WW.o (YZ CI.o Ws.o) UM (by rw[CJ]) (by rw[TY.o];exact YS)
  have U4:Hid (ROwn w.heap.size w6 (.slice (some ⟨b4,o4,none⟩) R.length c3) R):=P_ (YZ VG.o Ws.o) UM LK.o (by decide)
  have uD:Hid (∀x∈R,LOwn w.heap.size w6 x.2 x.1.1.cla):=λx hx=>P_ (YZ (KA.o x hx) Ws.o) UM LK.o (by decide)
  have Sd:Hid (Bw w w6):=(GW.o.alloc GW.o.size _).grown UM (by have:=GW.o.size;simp;omega) (λg hg=>(LK.o.lt g hg).1)
  obtain⟨a9,c9,rfl⟩:=ZJ YS;clear YS UM k0 k1 k2;go_wp2
  go_roundw
  case rel=>exact⟨k+1,by omega,by go_num,D++[(t.1.1,t.2)],XA.o,Wr.o,U4.o,uD.o,Sd.o⟩
  case measure=>simp[intOf];omega
 have zA:Hid (D.map (·.1)=R.map (·.1.1)):=by have h1:=HD.o;rw[Zi (by omega)] at h1;exact h1
 have un:=hI CJ;clear CJ;go_wp2_with fail
 refine (nk cl XR.o _ _ (HU.o _ ZW.o)).mono ?_;rintro e w5 ⟨x,rfl,hx,Yd⟩;have HX:Hid (LOwn w.heap.size w5 x cl):=Ri ZW.o.size hx;have Xx:=hI (ZW.o.trans (Yd.mono ZW.o.size));have VM:=hI (M2.o.below Yd);obtain⟨ax,cx,rfl⟩:=ZJ (show w5.ownsRow _ _ _ _ _ _ from hx)
 clear hx Yd;have hs5:=Xx.o.size;have WW:Hid (zCQ w.heap.size (w5.alloc (.cells #[.int .i64 2,.int .i64 0,.slice ax cl.length cx] 39)) (.slice ad k cd) D):=VM.o.below (Z4 _ _);have LK:Hid ((w5.alloc (.cells #[.int .i64 2,.int .i64 0,.slice ax cl.length cx] 39)).ownsRow w.heap.size 39 3 (.slice ad k cd) k (D.map UY).flatten):=by have:=WW.o.1;rw[un.o] at this;exact this
 go_wp2_with (at_builtin;refine wpList_append_own _ rfl _ _ 32 rfl w.heap.size 39 i0 (.agg #[.int .i64 0,.int .i64 0,.slice none 0 0]) 3 40 uy WJ Ze Y_ Zb rfl (by decide) _ _ _ rfl LK.o ⟨w5.heap.size,0,none⟩ 1 1 [.int .i64 2,.int .i64 0,.slice ax cl.length cx] rfl rfl (ux w5 (⟨2,0,cl⟩,.slice ax cl.length cx)) (by intro u hu;simp at hu;rcases hu with rfl | rfl | rfl <;> rfl) ?c1 ?c2 ?c3 ?_)
 case c1=>unfold maxLen;omega
 case c2=>omega
 case c3=>simp;omega
 intro v6 w6 YS UM _;have Wr:Hid (zCQ w.heap.size w6 v6 (D++[((⟨2,0,cl⟩:MStep),Value.slice ax cl.length cx)])):=zCQ.push WW.o (YZ HX.o (Z4 _ _)) UM (by rw[un.o]) YS
 have Sd:Hid (Bw w w6):=(Xx.o.alloc hs5 _).grown UM (by simp;omega) (λg hg=>(LK.o.lt g hg).1)
 have CP:Hid ((D++[((⟨2,0,cl⟩:MStep),Value.slice ax cl.length cx)]).map (·.1)=ST):=by
  show _=_;rw[Yx.o,<-UA.o,YY,zA.o,List.map_map];rfl
 have Kz:Hid ((D++[((⟨2,0,cl⟩:MStep),Value.slice ax cl.length cx)]).length<=1500):=by show _<=_;rw[ZC,un.o];simp;omega
 obtain⟨a9,c9,rfl⟩:=ZJ YS;clear YS UM;go_wp2
 go_ret
 exact⟨_,_,rfl,CP.o,Wr.o,Kz.o,Sd.o⟩
end Go.Proofs.YtndcpnlaadikoaaGreatDoor
