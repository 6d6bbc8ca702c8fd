/- What the proof leans on, part 14. -/
import Derived.Test.YtndcpnlaadikoaaGreatDoorPartAm
set_option maxRecDepth 100000
set_option maxHeartbeats 6400000
open Go.Proofs.Tryz
namespace Go.Proofs.YtndcpnlaadikoaaGreatDoor
open Go.RowKit
theorem zWB (vs:List MVar) (Zf:Vb vs) (pts:List Nat) (any:Cla) (CY:any.length<=100) (g0:Nat) (M1:∀i,g0.testBit i=true->(zAN vs).testBit i=true) (sv pv u:Value) (w:World) (hv:VArg w sv vs) (hp:PArg w pv pts) (hu:LArg w u any) (hT:TabT w) :
 Calls prog 153 #[sv,pv,u,.int .u64 g0] w λe w'=>∃x,e=.returned x/\LOwn w.heap.size w' x (whyP vs pts any g0)/\Bw w w':=by
 have HV:Hid (∀w',Bw w w'->VArg w' sv vs):=λw' h=>VArg.below h hv
 have HP:Hid (∀w',Bw w w'->PArg w' pv pts):=λw' h=>PArg.below h hp
 have HU:Hid (∀w',Bw w w'->LArg w' u any):=λw' h=>LArg.below h hu
 have HT:Hid (∀w',Bw w w'->TabT w'):=λw' h=>hT.below h
 have YQ:=hI Zf;have LV:=hI CY;have EK:=hI M1;have CX:Hid (g0<2 ^ 36):=UW (SP M1) (Ju vs Zf.1);obtain⟨h,hh⟩:∃h,zAH vs any=h:=⟨_,rfl⟩;have HH:=hI hh;have VC:Hid (h<2 ^ 36):=by rw[<-hh];exact Qh vs Zf.1 _
 obtain⟨LP,Je⟩:∃LP,Px (λg=>TI vs pts (h ||| g)) (g0+1) g0 g0=LP:=⟨_,rfl⟩
 have uR:Hid (whyP vs pts any g0=any++VE vs LP):=by show _=_;unfold whyP;rw[hh,Je]
 have OM:Hid (LP=Px (λg=>TI vs pts (h ||| g)) (g0+1) g0 g0):=Je.symm
 obtain⟨a1,c1,rfl,_,_⟩:=hv;obtain⟨a2,c2,rfl,_,_⟩:=hp;obtain⟨a3,c3,rfl,_,_⟩:=hu;clear Zf CY M1 hh Je hT;go_enter func153,ntmps153
 go_wp2_with fail
 refine (Jp vs YQ.o any _ _ _ (HV.o _ (Z6 _ _)) (HU.o _ (Z6 _ _))).mono ?_;rintro e w1 ⟨rfl,Z5⟩;rw[HH.o];have ZU:=hI Z5;clear Z5;go_wp2_with fail
 go_loopw [3,10] (λg r wr=>∃gg rr:Nat,g=.int .u64 (gg:Int)/\r=.int .u64 (rr:Int)/\Hid (gg<2 ^ 36)/\Hid (rr<2 ^ 36)/\Hid (LP=Px (λg=>TI vs pts (h ||| g)) (rr+1) gg rr)/\Hid (∀i,gg.testBit i=true->(zAN vs).testBit i=true)/\Hid (Bw w wr)) (λ_ r _=>(intOf r).toNat)
 case atStart=>exact⟨g0,g0,rfl,rfl,CX,CX,OM,EK,ZU⟩
 obtain⟨gg,rr,rfl,rfl,G_,UN,V4,M1,Z3⟩:=hrel;by_cases QO:rr=0
 ·subst QO
  have G9:Hid (LP=gg):=by show _=_;rw[V4.o];rfl
  clear V4;go_wp2_with fail
  refine (nk any (by have:=LV.o;omega) _ _ (HU.o _ Z3.o)).mono ?_
  rintro e w2 ⟨x,rfl,hx,ZY⟩;have ZI:=hI (Z3.o.trans (ZY.mono Z3.o.size));have HX:Hid (LOwn w.heap.size w2 x any):=Ri Z3.o.size hx;have XF:=hI ZI.o.size;obtain⟨ax,cx,rfl⟩:=ZJ (show w2.ownsRow _ _ _ _ _ _ from hx)
  clear hx ZY;go_wp2_with fail
  refine (va vs YQ.o gg M1.o _ _ (HV.o _ ZI.o) (HT.o _ ZI.o)).mono ?_;rintro e w3 ⟨y,rfl,hy,ZG⟩;have Jd:Hid (LOwn w.heap.size w3 (.slice ax (List.length any) cx) any):=YZ HX.o ZG;have ZM:=hI (ZI.o.trans (ZG.mono ZI.o.size));have Um:Hid ((VE vs gg).length<=36):=E3 _ _;obtain⟨L,hL⟩:∃L,VE vs gg=L:=⟨_,rfl⟩;have HRE:Hid (whyP vs pts any g0=any++L):=by show _=_;rw[uR.o,G9.o,hL]
  rw[hL] at hy Um;have HY:Hid (LArg w3 y L):=hy.arg;have QN:Hid (∀g,(Value.slice ax (List.length any) cx).ownBlock=some g->w.heap.size<=g):=λg hg=>((show w3.ownsRow _ _ _ _ _ _ from Jd.o).lt g hg).1
  obtain⟨ay,cy,rfl⟩:=ZJ (show w3.ownsRow _ _ _ _ _ _ from hy)
  clear hy ZG hL;go_wp2_with (at_builtin;refine uZ 28 uY rfl _ _ rfl w.heap.size _ any rfl Jd.o _ L rfl HY.o ?c1 ?c2 ?_)
  case c1=>have:=Um.o;have:=LV.o;omega
  case c2=>exact ZM.o.size
  intro v4 w4 Zw Z1;have S_:=hI Zw;have Yp:Hid (Bw w w4):=ZM.o.grown Z1 ZM.o.size (λg hg=>QN.o g hg)
  obtain⟨av,cv,rfl⟩:=ZJ (show w4.ownsRow _ _ _ _ _ _ from Zw)
  clear Zw Z1;go_wp2
  go_ret
  exact⟨_,rfl,by rw[HRE.o];exact S_.o,Yp.o⟩
 have Yx:Hid (LP=Px (λg=>TI vs pts (h ||| g)) ((rr &&& (rr - 1))+1) (if TI vs pts (h ||| Zg gg (2 ^ Lib.ctz 64 rr)) then Zg gg (2 ^ Lib.ctz 64 rr) else gg) (rr &&& (rr - 1))):=by
  show _=_;rw[V4.o];exact cA _ gg rr QO (by have:=UN.o;omega)
 obtain⟨Qd,hk⟩:=Lib.lowest_bit 64 rr QO (by have:=UN.o;omega)
 have TW:=Ah rr QO (by have:=UN.o;omega)
 obtain⟨KJ⟩:Nonempty (Lib.ctz 64 rr<36):=⟨(Ag rr QO UN.o).2⟩;have CW:2 ^ Lib.ctz 64 rr<2 ^ 36:=Nat.pow_lt_pow_right (by omega) KJ
 obtain⟨tt,N5⟩:∃tt,2 ^ Lib.ctz 64 rr=tt:=⟨_,rfl⟩;rw[N5] at Qd CW Yx;have uQ:IntKind.u64.wrap (-(rr:Int))=((18446744073709551616 - rr:Nat):Int):=by rw[IntKind.wrap_u64];have:=UN.o;omega
 have OO:=bits_and_u64_nat rr (18446744073709551616 - rr) (by have:=UN.o;omega) (by omega)
 have Pr:rr &&& (18446744073709551616 - rr)=tt:=Qd;rw[Pr] at OO;obtain⟨N0,KD⟩:∃N0,18446744073709551616 - rr=N0:=⟨_,rfl⟩;rw[KD] at uQ OO;have uP:=N' gg tt (by have:=G_.o;omega) (by omega)
 obtain⟨sp,Sy⟩:∃sp,Zg gg tt=sp:=⟨_,rfl⟩;have M0:Hid (sp<2 ^ 36):=by rw[<-Sy];exact Pz 36 _ _ G_.o
 have Se:Hid (∀i,sp.testBit i=true->(zAN vs).testBit i=true):=λi hi=>by
  rw[<-Sy,TJ,ZB] at hi;exact M1.o i hi.1
 rw[Sy] at uP Yx;obtain⟨r2,Yq⟩:∃r2,rr &&& (rr - 1)=r2:=⟨_,rfl⟩;have P':IntKind.u64.wrap ((rr:Int) - 1)=((rr - 1:Nat):Int):=by rw[IntKind.wrap_u64];have:=UN.o;omega
 have Jc:=bits_and_u64_nat rr (rr - 1) (by have:=UN.o;omega) (by have:=UN.o;omega)
 obtain⟨r1,VR⟩:∃r1,rr - 1=r1:=⟨_,rfl⟩;rw[Yq] at Jc TW Yx;rw[VR] at P' Jc;have Jb:Hid (r2<2 ^ 36):=by have:=UN.o;show _<_;omega
 have zK:=hI TW;have ZP:((rr:Int) != 0)=true:=by simpa using QO
 have Jq:=bits_or_u64_nat h sp (by have:=VC.o;omega) (by have:=M0.o;omega)
 obtain⟨hs,uO⟩:∃hs,h ||| sp=hs:=⟨_,rfl⟩
 have CV:Hid (hs<2 ^ 36):=by rw[<-uO];exact Dn VC.o M0.o
 rw[uO] at Jq Yx;obtain⟨B,hB⟩:∃B,TI vs pts hs=B:=⟨_,rfl⟩;have G8:Hid (Calls prog 119 #[.slice a1 (List.length vs) c1,.slice a2 (List.length pts) c2,.int .u64 (hs:Int)] wr λe w'=>e=.returned (.bool B)/\Bw wr w'):=by
  rw[<-hB];exact n8 vs YQ.o pts hs CV.o _ _ wr (HV.o _ Z3.o) (HP.o _ Z3.o)
 rw[hB] at Yx;have uM:Hid (∀i,gg.testBit i=true->(zAN vs).testBit i=true):=M1.o;clear V4 QO Qd hk KJ CW N5 Pr KD Sy Yq VR TW hB M1 uO;cases B
 ·have ZK:Hid (LP=Px (λg=>TI vs pts (h ||| g)) (r2+1) gg r2):=by show _=_;rw[Yx.o];rfl
  clear Yx;go_wp2_with fail
  refine G8.o.mono ?_;rintro e w7 ⟨rfl,Sf⟩;have G7:=hI (Z3.o.trans (Sf.mono Z3.o.size));clear Sf;go_wp2
  go_roundw
  case rel=>exact⟨gg,r2,rfl,rfl,G_,Jb,ZK,uM,G7⟩
  case measure=>simp[intOf];exact zK.o
 have ZK:Hid (LP=Px (λg=>TI vs pts (h ||| g)) (r2+1) sp r2):=by show _=_;rw[Yx.o];rfl
 clear Yx;go_wp2_with fail
 refine G8.o.mono ?_;rintro e w7 ⟨rfl,Sf⟩;have G7:=hI (Z3.o.trans (Sf.mono Z3.o.size));clear Sf;go_wp2
 go_roundw
 case rel=>exact⟨sp,r2,rfl,rfl,M0,Jb,ZK,Se,G7⟩
 case measure=>simp[intOf];exact zK.o
structure ReaS (w0:World) (r:Nat) (w:World) (ov:Value) (L:List RV):Prop where
 blk0:w.heap[w0.heap.size]? = some (.cells #[.pointer (some ⟨r,0,none⟩)] 71)
 blk:w.heap[w0.heap.size+1]? = some (.cells #[ov] 142)
 own:ROwn (w0.heap.size+2) w ov L
 cl:∀x∈L,LOwn (w0.heap.size+2) w x.2 x.1.1.cla
 fr:Bw w0 w
theorem ReaS.below {w0 w w':World} {r:Nat} {ov:Value} {L:List RV} (h:ReaS w0 r w ov L) (hb:Bw w w'):ReaS w0 r w' ov L :=
 ⟨(hb.block _ (Z8.1 h.blk0).1).trans h.blk0,(hb.block _ (Z8.1 h.blk).1).trans h.blk,YZ h.own hb,λx hx=>YZ (h.cl x hx) hb,h.fr.trans (hb.mono h.fr.size)⟩
theorem G6 {w:World} {B b:Nat} {e t:TypeId} {s n:Nat} {v:Value} {xs:List Value} {cs:Array Value} (h:w.ownsRow B e s v n xs) (hb:w.heap[b]? = some (.cells cs t)) (ZP:t≠e):v.ownBlock≠some b:=by
 intro he;rcases h.2 with ⟨rfl,_⟩ | ⟨g,cap,cur,rfl,_,hh,_⟩
 ·cases he
 have:g=b:=by injection he
 subst this;rw[hh] at hb
 injection hb with h1
 injection h1 with _ h2
 exact ZP h2.symm
theorem zOM (w:World) (x:RV):∀(j:Nat) (u:Value),(S4 x)[j]? = some u->(w.alloc (.cells #[.int .i64 x.1.1.kind,.int .i64 x.1.1.con,x.2,.int .u64 (x.1.2:Int)] 145)).cell? ((⟨w.heap.size,0,none⟩:Addr).add j)=some u:=by
 intro j u hj
 match j,hj with
 | 0,hj=>simp[S4] at hj;subst hj;simp[Addr.add]
 | 1,hj=>simp[S4] at hj;subst hj;simp[Addr.add]
 | 2,hj=>simp[S4] at hj;subst hj;simp[Addr.add]
 | 3,hj=>simp[S4] at hj;subst hj;simp[Addr.add]
theorem ReaS.push {w0 w w1 w2:World} {r:Nat} {ov v':Value} {L:List RV} {x:RV} {n:Nat} (h:ReaS w0 r w ov L) (hb:Bw w w1) (hx:LOwn (w0.heap.size+2) w1 x.2 x.1.1.cla) (hg:w1.grownBy w2 ov.ownBlock) (hn:n=L.length+1) (ho:w2.ownsRow (w0.heap.size+2) 145 4 v' n ((L.map S4).flatten++S4 x)) :
 ReaS w0 r (w2.setCell ⟨w0.heap.size+1,0,none⟩ v') v' (L++[x])/\Fr (λk=>k=w0.heap.size+1∨ov.ownBlock=some k) w (w2.setCell ⟨w0.heap.size+1,0,none⟩ v'):=by
 have h1:=h.below hb;have ZY:w2.heap[w0.heap.size+1]? = some (.cells #[ov] 142):=Sz h1.blk hg h1.own (by decide)
 have Hd:ROwn (w0.heap.size+2) w2 v' (L++[x]):=by
  show World.ownsRow _ _ _ _ _ _ _;rw[ZC,V6,<-hn,YY,La];simpa using ho
 refine⟨⟨?_,?_,V_ Hd ZY (by decide) 0 _,λy hy=>?_,?_⟩,?_⟩
 ·exact (Below.heap_setCell _ _ _ _ (by simp)).trans (Sz h1.blk0 hg h1.own (by decide))
 ·rw[heap_setCell_same w2 _ 0 _ _ v' ZY];rfl
 ·rcases Xn.1 hy with h3 | h3
  ·exact V_ (P_ (h1.cl y h3) hg h1.own (by decide)) ZY (by decide) 0 _
  rw[Zh.1 h3];exact V_ (P_ hx hg h1.own (by decide)) ZY (by decide) 0 _
 ·exact (h1.fr.grown hg h1.fr.size (λk hk=>by have:=(h1.own.lt k hk).1;omega)).setCell (show w0.heap.size<=w0.heap.size+1 by omega) _
 exact Fr.setX (X:=λk=>k=w0.heap.size+1∨ov.ownBlock=some k) ((Fr.below hb).grown hg (λk hk=>Or.inl (Or.inr hk))) (p:=⟨w0.heap.size+1,0,none⟩) (Or.inl rfl) _
theorem mZ (vs:List MVar) (Zf:Vb vs) (pt:List (List Nat)) (cs:List Nat) (r:Nat) (sv pv cv:Value) (w0:World) (hR:RulesAt w0 r sv pv cv vs pt cs) (con:Nat) (pts:List Nat) (VY:pt[con]? = some pts) (g0:Nat) (M1:∀i,g0.testBit i=true->(zAN vs).testBit i=true)
 (any:Cla) (CY:any.length<=100) (u:Value) (bc bg:Nat) (ov:Value) (L:List RV) (hLL:L.length<=8000) (w:World) (hS:ReaS w0 r w ov L) (hu:LArg w u any)
 (hc:w.cell? ⟨bc,0,none⟩=some (.int .i64 con)) (hg:w.cell? ⟨bg,0,none⟩=some (.int .u64 g0)) (Az:bc<w.heap.size) (hlg:bg<w.heap.size) :
 Calls prog 152 #[u,.pointer (some ⟨w0.heap.size,0,none⟩),.pointer (some ⟨bc,0,none⟩),.pointer (some ⟨bg,0,none⟩),.pointer (some ⟨w0.heap.size+1,0,none⟩)] w λe w'=>e=.returned (.tuple #[]) /\
  ∃ov' x,x.1=KU vs con (whyP vs pts any g0)/\ReaS w0 r w' ov' (L++[x])/\Fr (λk=>k=w0.heap.size+1∨ov.ownBlock=some k) w w':=by
 obtain⟨i0,WJ,Ze,Y_,Zb⟩:=info_parts zI;have HS:=hI hS;have Z5:w.cell? ⟨w0.heap.size,0,none⟩=some (.pointer (some ⟨r,0,none⟩)):=Z_ hS.blk0 0 _ rfl;have WS:w0.heap.size+1<w.heap.size:=(Z8.1 hS.blk).1;have HR:Hid (∀Y,Bw w Y->RulesAt Y r sv pv cv vs pt cs):=λY hY=>RulesAt.below (hS.fr.trans (hY.mono hS.fr.size)) hR
 have HU:Hid (∀Y,Bw w Y->LArg Y u any):=λY hY=>LArg.below hY hu
 have YQ:=hI Zf;have LV:=hI CY;have EK:=hI M1;have P7:=RulesAt.below hS.fr hR;have r0:=P7.c0;have r1:=P7.c1;have rl:=P7.lt;obtain⟨a1,c1,rfl,_,_⟩:=P7.hv;obtain⟨a2,c2,rfl,Wk,Yq⟩:=P7.hp;have CU:con<pt.length:=(ZN.1 VY).1;obtain⟨b,off,x,rfl,hb,CT,CS⟩:=Yq con pts VY;have G5:Hid (∀Y,Bw w Y->PArg Y x pts):=λY hY=>PArg.below hY CS
 obtain⟨a3,c3,rfl,_,_⟩:=CS;obtain⟨ao,co,rfl⟩:=ZJ (show w.ownsRow _ _ _ _ _ _ from hS.own)
 obtain⟨a4,c4,rfl,_,_⟩:=hu;unfold maxLen at Wk;obtain⟨Qi,hm22⟩:=Wk;obtain⟨C,hC⟩:∃C,whyP vs pts any g0=C:=⟨_,rfl⟩;have HC:=hI hC;obtain⟨h,hh⟩:∃h,zAH vs C=h:=⟨_,rfl⟩;have OH:Hid (KU vs con (whyP vs pts any g0)=(⟨1,(con:Int),C⟩,h)):=by show _=_;rw[hC,<-hh];rfl
 have HH:=hI hh;rw[OH.o];have uR:Hid (∀Y,Bw w Y->Calls prog 153 #[.slice a1 (List.length vs) c1,.slice a3 (List.length pts) c3,.slice a4 (List.length any) c4,.int .u64 (g0:Int)] Y λe w'=>∃x,e=.returned x/\LOwn Y.heap.size w' x C/\Bw Y w'):=λY hY=>by
  rw[<-HC.o];exact zWB vs YQ.o pts any LV.o g0 EK.o _ _ _ Y (HR.o Y hY).hv (G5.o Y hY) (HU.o Y hY) (HR.o Y hY).tab
 have KE:Hid (∀Y,Bw w Y->Y.cell? ⟨w0.heap.size+1,0,none⟩=some (.slice ao L.length co)):=λY hY=>Z_ (hS.below hY).blk 0 _ rfl
 have o2:=KE.o w (Z6 _ _);clear Zf CY M1 hS hR P7 Yq VY hC hh;go_enter func152,ntmps152
 go_wp2_with fail
 go_region_held3 (λw'=>Bw w w'/\w'.cell? ⟨w0.heap.size,0,none⟩=some (.pointer (some ⟨r,0,none⟩))/\w'.cell? ⟨r,0,none⟩=some (.slice a1 (List.length vs) c1)/\w'.cell? ⟨r,1,none⟩=some (.slice (some ⟨b,off,none⟩) (List.length pt) c2)/\w'.cell? ⟨bc,0,none⟩=some (.int .i64 con)/\w'.cell? ⟨bg,0,none⟩=some (.int .u64 g0)/\w'.cell? ⟨b,off+con,none⟩=some (.slice a3 (List.length pts) c3))
  ((refine (λ(hB:Bw w _)=>⟨hB,(hB.cell (p:=⟨w0.heap.size,0,none⟩) (Nat.lt_of_succ_lt WS)).trans Z5,(hB.cell (p:=⟨r,0,none⟩) rl).trans r0,(hB.cell (p:=⟨r,1,none⟩) rl).trans r1,(hB.cell (p:=⟨bc,0,none⟩) Az).trans hc,(hB.cell (p:=⟨bg,0,none⟩) hlg).trans hg,(hB.cell (p:=⟨b,off+con,none⟩) hb).trans CT⟩:Bw w _->_) ?_;first | exact (Z6 _ _).drew | exact N7 (by assumption) Yu))
  (first
    | (go_at_call 153;refine (uR.o _ (show Bw w _/\_ by assumption).1).mono ?_;rintro e w3 ⟨xc,rfl,QM,Yu⟩;obtain⟨ac,cc,rfl⟩:=ZJ (show w3.ownsRow _ _ _ _ _ _ from QM);obtain⟨base,Ja,EJ⟩:∃base,Hid (base=_)/\Hid (LOwn base w3 (.slice ac (List.length C) cc) C):=⟨_,rfl,QM⟩;clear QM;have hB3:=N7 (by assumption) Yu))
 have Yv:w0.heap.size+2<=base:=by have e:base=w.heap.size:=Ja.o;omega
 have uL:Hid (LOwn (w0.heap.size+2) w3 (.slice ac (List.length C) cc) C):=Ri Yv EJ.o;have ZM:=hI hB3;have q1:=(hB3.cell (p:=⟨w0.heap.size,0,none⟩) (Nat.lt_of_succ_lt WS)).trans Z5;have q2:=(hB3.cell (p:=⟨r,0,none⟩) rl).trans r0;have q3:=(hB3.cell (p:=⟨bc,0,none⟩) Az).trans hc;have q4:=KE.o w3 hB3;have s3:=hB3.size;have l1:w0.heap.size+1<w3.heap.size:=by omega
 have l2:r<w3.heap.size:=by omega
 clear Yu hB3 Ja EJ Yv Z5 r0 r1 hc hg CT o2;go_upto_region 2 with (fail)
 have N1:Hid (Bw w3 (w3.alloc (.cells #[.int .i64 1,.int .i64 con,.slice ac (List.length C) cc] 39))):=Z4 _ _;have t0:(w3.alloc (.cells #[.int .i64 1,.int .i64 con,.slice ac (List.length C) cc] 39)).cell? ⟨w3.heap.size,0,none⟩=some (.int .i64 1):=Zu _ _ _ 0 (by simp)
 have t1:(w3.alloc (.cells #[.int .i64 1,.int .i64 con,.slice ac (List.length C) cc] 39)).cell? ⟨w3.heap.size,1,none⟩=some (.int .i64 con):=Zu _ _ _ 1 (by simp)
 have t2:(w3.alloc (.cells #[.int .i64 1,.int .i64 con,.slice ac (List.length C) cc] 39)).cell? ⟨w3.heap.size,2,none⟩=some (.slice ac (List.length C) cc):=Zu _ _ _ 2 (by simp)
 have tl:w3.heap.size<(w3.alloc (.cells #[.int .i64 1,.int .i64 con,.slice ac (List.length C) cc] 39)).heap.size:=by simp
 obtain⟨B,hB⟩:∃B,w3.heap.size=B:=⟨_,rfl⟩;rw[hB] at t0 t1 t2 tl ⊢;obtain⟨V,hV⟩:∃V,w3.alloc (.cells #[.int .i64 1,.int .i64 con,.slice ac (List.length C) cc] 39)=V:=⟨_,rfl⟩;rw[hV] at N1 t0 t1 t2 tl ⊢;have Wa:Hid (Bw w V):=ZM.o.trans (N1.o.mono ZM.o.size);have k1:=(N1.o.cell (p:=⟨w0.heap.size,0,none⟩) (Nat.lt_of_succ_lt l1)).trans q1;have k2:=(N1.o.cell (p:=⟨r,0,none⟩) l2).trans q2;have k4:=(N1.o.cell (p:=⟨w0.heap.size+1,0,none⟩) l1).trans q4;have WW:Hid (ReaS w0 r V (.slice ao L.length co) L):=HS.o.below Wa.o;have mY:Hid (LOwn (w0.heap.size+2) V (.slice ac (List.length C) cc) C):=YZ uL.o N1.o;have EN:Hid (∀Y,Bw V Y->Calls prog 85 #[.slice a1 (List.length vs) c1,.slice ac (List.length C) cc] Y λe w'=>e=.returned (.int .u64 (h:Int))/\Bw Y w'):=λY hY=>by
  rw[<-HH.o];exact Jp vs YQ.o C _ _ Y (HR.o Y (Wa.o.trans (hY.mono Wa.o.size))).hv (LArg.below hY mY.o.arg)
 have vl1:w0.heap.size+1<V.heap.size:=ZQ l1 N1.o.size;have vl2:r<V.heap.size:=ZQ l2 N1.o.size;have vlB:B<V.heap.size:=tl;clear hB hV q1 q2 q3 q4 s3 tl;go_region_law
  (first
    | (rw[if_pos (by rfl)];refine wp_append_own _ _ _ 142 rfl (w0.heap.size+2) 145 i0 _ 4 48 C2 WJ Ze Y_ Zb rfl (by decide) _ _ _ rfl (CR.alloc _) ⟨w5.heap.size,0,none⟩ 1 1 (S4 ((⟨1,(con:Int),C⟩,h),.slice ac (List.length C) cc)) rfl rfl (zOM w5 ((⟨1,(con:Int),C⟩,h),.slice ac (List.length C) cc)) (by intro u hu;simp[S4] at hu;rcases hu with rfl | rfl | rfl | rfl <;> rfl) ?_ ?_ ?_ ?_;(unfold maxLen;omega);omega;(have:=hB5.size;simp;omega);intro v6 w6 YS UM _;have hP:=ReaS.push (x:=((⟨1,(con:Int),C⟩,h),.slice ac (List.length C) cc)) WW.o (hB5.alloc hB5.size (.cells #[.int .i64 1,.int .i64 con,.slice ac (List.length C) cc,.int .u64 (h:Int)] 145)) (YZ mY.o (hB5.alloc hB5.size _)) UM rfl YS;have uK:=Sz (WW.o.below (hB5.alloc hB5.size (.cells #[.int .i64 1,.int .i64 con,.slice ac (List.length C) cc,.int .u64 (h:Int)] 145))).blk UM (CR.alloc _) (by decide);obtain⟨a9,b9,Rk⟩:=ZJ YS;subst Rk;have d2:w6.cell? ⟨w0.heap.size+1,0,none⟩=some (.slice ao L.length co):=Z_ uK 0 _ rfl;have z2:w6.frozen? ⟨w0.heap.size+1,0,none⟩=false:=Z0 uK 0)
    | (rw[if_pos (by rfl)];go_simp;go_at_call 85;refine (EN.o _ (Z6 _ _).drew).mono ?_;rintro e w5 ⟨rfl,Yd⟩;have hB5:Bw V w5:=(Z6 _ _).drew.trans Yd;have c5:w5.cell? ⟨w0.heap.size+1,0,none⟩=some (.slice ao L.length co):=(hB5.cell (p:=⟨w0.heap.size+1,0,none⟩) vl1).trans k4;have u0:=(hB5.cell (p:=⟨B,0,none⟩) vlB).trans t0;have u1:=(hB5.cell (p:=⟨B,1,none⟩) vlB).trans t1;have u2:=(hB5.cell (p:=⟨B,2,none⟩) vlB).trans t2;have CR:w5.ownsRow (w0.heap.size+2) 145 4 (.slice ao L.length co) L.length (L.map S4).flatten:=YZ WW.o.own hB5;have l5:w0.heap.size+1<w5.heap.size:=ZQ vl1 hB5.size;have lB5:B<w5.heap.size:=ZQ vlB hB5.size;dsimp only))
 all_goals
  have HF:Hid (Fr (λk=>k=w0.heap.size+1∨(Value.slice ao L.length co).ownBlock=some k) w _):=(Fr.below Wa.o).trans hP.2
  go_wp2
  go_end0
  exact⟨rfl,_,_,rfl,hP.1,HF.o⟩
theorem mX {X:Nat->Prop} {w w':World} {b:Nat} {cs:Array Value} {t:TypeId} (hf:Fr X w w') (hb:w.heap[b]? = some (.cells cs t)) (hx:¬X b):w'.heap[b]? = some (.cells cs t) :=
 (hf.block b (Z8.1 hb).1 hx).trans hb
theorem zJM (vs:List MVar) (pt:List (List Nat)) (con b:Nat) (pts:List Nat) (h:pt[con]? = some pts):Nb vs pt (con,b,0)=[KU vs con (whyP vs pts [] (Zg (zAN vs) b))]:=by
 unfold Nb;rw[if_pos rfl];simp only[ZO,h];rfl
theorem zMe (vs:List MVar) (pt:List (List Nat)) (con b a:Nat) (ha:a≠0) (pts:List Nat) (h:pt[con]? = some pts):Nb vs pt (con,b,a)=(VE vs (Zg b a)).map λl=>KU vs con (whyP vs pts [⟨l.var,4,l.n⟩] (Zg (zAN vs) b)):=by
 unfold Nb;rw[if_neg ha];simp only[ZO,h];rfl
theorem zSP (vs:List MVar) (Zf:Vb vs) (pt:List (List Nat)) (cs:List Nat) (r:Nat) (sv pv cv:Value) (w0:World) (hR:RulesAt w0 r sv pv cv vs pt cs) (con b a:Nat) (VY:con<pt.length) (Z3:∀i,b.testBit i=true->(zAN vs).testBit i=true) (V2:∀i,a.testBit i=true->b.testBit i=true)
 (ov:Value) (L:List RV) (hLL:L.length<=7000) (w:World) (hS:ReaS w0 r w ov L) :
 Calls prog 151 #[.int .i64 con,.int .u64 b,.int .u64 a,.pointer (some ⟨w0.heap.size,0,none⟩),.pointer (some ⟨w0.heap.size+1,0,none⟩)] w λe w'=>e=.returned (.tuple #[]) /\
  ∃ov' L',L'.map (·.1)=Nb vs pt (con,b,a)/\ReaS w0 r w' ov' (L++L'):=by
 obtain⟨pts,SD⟩:∃pts,pt[con]? = some pts:=⟨pt[con],by simp[VY]⟩
 have HP:=hI SD;have I_:=hI hR;have HS:=hI hS;have YQ:=hI Zf;have ZW:=hI Z3;have TZ:Hid (zAN vs<2 ^ 36):=Qh vs Zf.1 _;have G4:Hid (b<2 ^ 36):=UW (SP Z3) TZ.o;have KO:Hid (a<2 ^ 36):=UW (SP V2) G4.o;obtain⟨q,hq⟩:∃q,zAN vs=q:=⟨_,rfl⟩;have HQ:=hI hq;obtain⟨g0,Ua⟩:∃g0,Zg (zAN vs) b=g0:=⟨_,rfl⟩;have Wg:=N' (zAN vs) b (by have:=TZ.o;omega) (by have:=G4.o;omega)
 rw[Ua,hq] at Wg;have EK:Hid (∀i,g0.testBit i=true->(zAN vs).testBit i=true):=λi hi=>by
  rw[<-Ua,TJ,ZB] at hi;exact hi.1
 have HG:=hI Ua;have P7:=RulesAt.below hS.fr hR;have r0:=P7.c0;have rl:=P7.lt;have Z5:w.cell? ⟨w0.heap.size,0,none⟩=some (.pointer (some ⟨r,0,none⟩)):=Z_ hS.blk0 0 _ rfl;have Xm:w0.heap.size<w.heap.size:=(Z8.1 hS.blk0).1;obtain⟨a1,c1,rfl,_,_⟩:=P7.hv;obtain⟨RT,uJ⟩:∃RT,Nb vs pt (con,b,a)=RT:=⟨_,rfl⟩;have I':=hI uJ;rw[uJ];have zF:Hid (∀Y,Bw w Y->RulesAt Y r (.slice a1 (List.length vs) c1) pv cv vs pt cs):=λY hY=>RulesAt.below hY P7
 clear Zf Z3 V2 hS hR P7 SD hq Ua uJ;go_enter func151,ntmps151
 go_wp2_with fail
 refine (zY vs YQ.o _ _ (zF.o _ (Z4 _ _)).hv).mono ?_;rintro e w1 ⟨rfl,ZY⟩;rw[HQ.o];have ZU:Hid (Bw w w1):=(Z4 _ _).trans (ZY.mono (by simp))
 have U':Hid (w1.heap[w.heap.size]? = some (.cells #[.int .i64 (con:Int)] 3)):=(ZY.block w.heap.size (by simp)).trans (heap_alloc_new w _)
 clear ZY r0 rl Z5 Xm;by_cases zE:a=0
 ·subst zE
  have HE:Hid (RT=[KU vs con (whyP vs pts [] g0)]):=by show _=_;rw[<-I'.o,zJM vs pt con b pts HP.o,HG.o]
  go_wp2_with fail
  have ZM:Hid (Bw w (w1.alloc (.cells #[.int .u64 (g0:Int)] 136))):=ZU.o.alloc ZU.o.size _;refine (mZ vs YQ.o pt cs r _ pv cv w0 I_.o con pts HP.o g0 EK.o [] (by simp) (.slice none 0 0) w.heap.size w1.heap.size ov L (by omega) _ (HS.o.below ZM.o) (zV9 _) ?_ ?_ ?_ ?_).mono ?_
  ·exact Z_ (((Z4 w1 _).block w.heap.size (Z8.1 U'.o).1).trans U'.o) 0 _ rfl
  ·exact Zu _ _ _ 0 (by simp)
  ·have:=(Z8.1 U'.o).1
   simp;omega
  ·simp
  rintro e w4 ⟨rfl,ov',x,hx,G3,Vj⟩;have HF:=hI G3;have HX:Hid ([x].map (·.1)=RT):=by show _=_;rw[HE.o,<-hx];rfl
  clear G3 Vj hx;go_wp2
  refine bodyPost_ret (results_none rfl _ _ _) rfl ?_;exact⟨rfl,ov',[x],HX.o,HF.o⟩
 have HE:Hid (RT=(VE vs (Zg b a)).map λl=>KU vs con (whyP vs pts [⟨l.var,4,l.n⟩] g0)):=by show _=_;rw[<-I'.o,zMe vs pt con b a zE pts HP.o,HG.o]
 have uI:((a:Int)==0)=false:=by simpa using zE
 have Dj:=N' b a (by have:=G4.o;omega) (by have:=KO.o;omega)
 obtain⟨d,hd⟩:∃d,Zg b a=d:=⟨_,rfl⟩;have HDW:Hid (∀i,d.testBit i=true->(zAN vs).testBit i=true):=λi hi=>by
  rw[<-hd,TJ,ZB] at hi;exact ZW.o i hi.1
 rw[hd] at Dj HE;obtain⟨l,hl⟩:∃l,VE vs d=l:=⟨_,rfl⟩;have HLD:=hI hl;have Rn:l.length<=36:=by rw[<-hl];exact E3 vs d
 rw[hl] at HE;clear hd hl zE;have ZM:Hid (Bw w (w1.alloc (.cells #[.int .u64 (g0:Int)] 136))):=ZU.o.alloc ZU.o.size _;have MZ:Hid ((w1.alloc (.cells #[.int .u64 (g0:Int)] 136)).heap[w1.heap.size]? = some (.cells #[.int .u64 (g0:Int)] 136)):=heap_alloc_new w1 _;have G2:Hid ((w1.alloc (.cells #[.int .u64 (g0:Int)] 136)).heap[w.heap.size]? = some (.cells #[.int .i64 (con:Int)] 3)):=((Z4 w1 _).block w.heap.size (Z8.1 U'.o).1).trans U'.o;obtain⟨G,hG⟩:∃G,w1.heap.size=G:=⟨_,rfl⟩;obtain⟨V,hV⟩:∃V,w1.alloc (.cells #[.int .u64 (g0:Int)] 136)=V:=⟨_,rfl⟩;go_upto_region 5 with (fail)
 rw[hG] at MZ;rw[hV] at ZM MZ G2;have b1:V.cell? ⟨w0.heap.size,0,none⟩=some (.pointer (some ⟨r,0,none⟩)):=Z_ (HS.o.below ZM.o).blk0 0 _ rfl;have r0:=(zF.o _ ZM.o).c0;clear hG hV;go_wp2_with fail
 refine (va vs YQ.o d HDW.o _ _ (zF.o _ ZM.o).hv (zF.o _ ZM.o).tab).mono ?_;rintro e w5 ⟨y,rfl,hy,Yd⟩;rw[HLD.o] at hy;have HY:Hid (LArg w5 y l):=hy.arg;have HYO:=hI hy;have Xx:=hI Yd;obtain⟨ay,cy,rfl⟩:=ZJ (show w5.ownsRow _ _ _ _ _ _ from hy)
 have HYB:Hid (∀g,(Value.slice ay l.length cy).ownBlock=some g->w0.heap.size+2<=g):=λg hg=>by have h1:=((show w5.ownsRow _ _ _ _ _ _ from hy).lt g hg).1;have h2:=(Z8.1 (HS.o.below ZM.o).blk).1;omega
 clear hy Yd b1 r0;go_wp2_with fail
 go_loopw [33] (λi wr=>∃(k:Nat),k<=l.length/\i=.int .i64 k/\Hid (∃(ov2:Value) (L2:List RV),Hid (L2.map (·.1)=RT.take k)/\Hid (ReaS w0 r wr ov2 (L++L2))/\Hid (LOwn (w0.heap.size+2) wr (.slice ay l.length cy) l)/\Hid (wr.heap[w.heap.size]? = some (.cells #[.int .i64 (con:Int)] 3))/\Hid (wr.heap[G]? = some (.cells #[.int .u64 (g0:Int)] 136)))) (λi _=>l.length - (intOf i).toNat)
 case atStart =>
  refine⟨0,by omega,rfl,ov,[],rfl,?_,Ri ?_ HYO.o,(Xx.o.block _ (Z8.1 G2.o).1).trans G2.o,(Xx.o.block _ (Z8.1 MZ.o).1).trans MZ.o⟩
  ·rw[TA];exact (HS.o.below ZM.o).below Xx.o
  have:=(Z8.1 (HS.o.below ZM.o).blk).1;omega
 obtain⟨k,hk,rfl,VS⟩:=hrel;obtain⟨ov2,L2,LM,G1,Z9,UL,EI⟩:=VS.o;clear VS;have uH:Hid (L2.length=k):=by
  have h1:=congrArg List.length LM.o;rw[YU,X_,HE.o,YU] at h1;show _=_;omega
 by_cases Z7:k<l.length
 ·obtain⟨t,ht⟩:∃t,l[k]? = some t:=⟨l[k],by simp[Z7]⟩
  obtain⟨q2,c2,V3,_,Yq⟩:=Z9.o.arg
  injection V3 with V3 CQ MY
  clear CQ MY;obtain⟨b2,o2,YA,XX,t0,t1,t2⟩:=Yq k t ht;rw[YA] at V3;have uG:Hid (RT[k]? = some (KU vs con (whyP vs pts [⟨t.var,4,t.n⟩] g0))):=by show _=_;rw[HE.o,YN,ht];rfl
  subst V3;clear Yq ht;have Ws:Hid (Bw wr ((wr.alloc (.cells #[.int .i64 t.var,.int .i64 t.op,.int .i64 t.n] 76)).alloc (.cells #[.int .i64 t.var,.int .i64 4,.int .i64 t.n] 76))):=(Z4 _ _).alloc (by simp) _
  have LV:Hid (LArg ((wr.alloc (.cells #[.int .i64 t.var,.int .i64 t.op,.int .i64 t.n] 76)).alloc (.cells #[.int .i64 t.var,.int .i64 4,.int .i64 t.n] 76)) (.slice (some ⟨wr.heap.size+1,0,none⟩) 1 1) [⟨t.var,4,t.n⟩]):=by
   have h1:LOwn (wr.heap.size+1) ((wr.alloc (.cells #[.int .i64 t.var,.int .i64 t.op,.int .i64 t.n] 76)).alloc (.cells #[.int .i64 t.var,.int .i64 4,.int .i64 t.n] 76)) (.slice (some ⟨wr.heap.size+1,0,none⟩) 1 1) [⟨t.var,4,t.n⟩]:=by
    have h2:=World.ownsRow_lit (base:=wr.heap.size+1) (e:=76) (size:=3) (wr.alloc (.cells #[.int .i64 t.var,.int .i64 t.op,.int .i64 t.n] 76)) #[.int .i64 t.var,.int .i64 4,.int .i64 t.n] 1 (by simp) (by unfold maxLen;omega) rfl
    rw[World.size_alloc] at h2;exact h2
   exact h1.arg
  go_wp2_with fail
  have QL:=Ws.o.size;refine (mZ vs YQ.o pt cs r _ pv cv w0 I_.o con pts HP.o g0 EK.o [⟨t.var,4,t.n⟩] (by simp) _ w.heap.size G ov2 (L++L2) (by rw[ZC,uH.o];omega) _ (G1.o.below Ws.o) LV.o ?_ ?_ ?_ ?_).mono ?_
  ·exact Z_ ((Ws.o.block _ (Z8.1 UL.o).1).trans UL.o) 0 _ rfl
  ·exact Z_ ((Ws.o.block _ (Z8.1 EI.o).1).trans EI.o) 0 _ rfl
  ·exact ZQ (Z8.1 UL.o).1 Ws.o.size
  ·exact ZQ (Z8.1 EI.o).1 Ws.o.size
  rintro e w6 ⟨rfl,ov6,x6,mW,zD,Ih⟩;have uF:Hid (¬(λk=>k=w0.heap.size+1∨ov2.ownBlock=some k) w.heap.size):=λhq=>by
   rcases hq with hq | hq
   ·have h1:=G1.o.blk;rw[<-hq,UL.o] at h1;injection h1 with h1;injection h1 with _ h2;exact absurd h2 (by decide)
   exact G6 G1.o.own UL.o (by decide) hq
  have uE:Hid (¬(λk=>k=w0.heap.size+1∨ov2.ownBlock=some k) G):=λhq=>by
   rcases hq with hq | hq
   ·have h1:=G1.o.blk;rw[<-hq,EI.o] at h1;injection h1 with h1;injection h1 with _ h2;exact absurd h2 (by decide)
   exact G6 G1.o.own EI.o (by decide) hq
  have VA:Hid (Fr (λk=>k=w0.heap.size+1∨ov2.ownBlock=some k) wr w6):=(Fr.below Ws.o).trans Ih
  have Wr:Hid (ReaS w0 r w6 ov6 (L++(L2++[x6]))):=by rw[<-SO];exact zD
  have CP:Hid ((L2++[x6]).map (·.1)=RT.take (k+1)):=by show _=_;rw[YY,LM.o,Y1,uG.o,<-mW];rfl
  have Rh:Hid (LOwn (w0.heap.size+2) w6 (.slice (some ⟨b2,o2,none⟩) l.length cy) l):=EP Z9.o VA.o λg hg hX=>by
   rcases hX with hX | hX
   ·have:=((show wr.ownsRow _ _ _ _ _ _ from Z9.o).lt g hg).1;omega
   rcases C7 (show wr.ownsRow _ _ _ _ _ _ from Z9.o) G1.o.own (by decide) with h1 | h1
   ·rw[h1] at hg;cases hg
   exact h1 (by rw[hg,hX])
  have uD:Hid (w6.heap[w.heap.size]? = some (.cells #[.int .i64 (con:Int)] 3)):=mX VA.o UL.o uF.o;have zC:Hid (w6.heap[G]? = some (.cells #[.int .u64 (g0:Int)] 136)):=mX VA.o EI.o uE.o;clear zD Ih mW;go_wp2
  go_roundw
  case rel=>exact⟨k+1,by omega,by go_num,ov6,L2++[x6],CP,Wr,Rh,uD,zC⟩
  case measure=>simp[intOf];omega
 have LL:Hid (L2.map (·.1)=RT):=by
  have h1:=LM.o;rw[Zi (by rw[HE.o,YU];omega)] at h1
  exact h1
 go_wp2
 go_end0
 exact⟨rfl,ov2,L2,LL.o,G1.o⟩
theorem zMf (vs:List MVar) (pt:List (List Nat)) (t:Nat×Nat×Nat):(Nb vs pt t).length<=36:=by
 unfold Nb
 split
 ·simp
 rw[YU];exact E3 _ _
theorem zMg (args:Array Value) (w':World):Sem.run prog (callFunc 151 args) w'=.ok (.enter 151 args) w':=by
 simp[callFunc,go_sem,func151,Tryz.f151]
def ReaI (vs:List MVar) (pt:List (List Nat)) (w0:World) (r:Nat) (T:List (Nat×Nat×Nat)) (w:World):Prop :=
 ∃ov L,ReaS w0 r w ov L/\L.map (·.1)=T.flatMap (Nb vs pt)/\L.length<=36 * T.length/\T.length<=37
theorem zKB (vs:List MVar) (Zf:Vb vs) (pt:List (List Nat)) (cs:List Nat) (r:Nat) (sv pv cv:Value) (w0:World) (hR:RulesAt w0 r sv pv cv vs pt cs) :
 Teller 151 #[.pointer (some ⟨w0.heap.size,0,none⟩),.pointer (some ⟨w0.heap.size+1,0,none⟩)] vs pt (ReaI vs pt w0 r):=by
 refine⟨zMg,λT w w' h hb=>?_,λT con b a w h hT VY Z3 V2=>?_⟩
 ·obtain⟨ov,L,h1,h2⟩:=h
  exact⟨ov,L,h1.below hb,h2⟩
 obtain⟨ov,L,h1,h2,h3,h4⟩:=h;refine (zSP vs Zf pt cs r sv pv cv w0 hR con b a VY Z3 V2 ov L (by omega) w h1).mono ?_
 rintro e w' ⟨rfl,ov',L',h5,h6⟩;refine⟨rfl,ov',L++L',h6,?_,?_,?_⟩
 ·rw[YY,h2,h5,RW];simp
 ·have h7:=congrArg List.length h5
  rw[YU] at h7;have h8:=zMf vs pt (con,b,a);rw[ZC,ZC,V6];omega
 rw[ZC,V6];omega
theorem zON (vs:List MVar) (Zf:Vb vs) (XH:1<=vs.length) (pt:List (List Nat)) (cs:List Nat) (h:Nat) (hh:h<2 ^ 36) (r:Nat) (sv pv cv:Value) (w:World) (hR:RulesAt w r sv pv cv vs pt cs) :
 Calls prog 90 #[.pointer (some ⟨r,0,none⟩),.int .u64 h] w λe w'=>∃v L,e=.returned v/\L.map (·.1)=Jt vs cs pt h/\ROwn w.heap.size w' v L/\(∀x∈L,LOwn w.heap.size w' x.2 x.1.1.cla)/\L.length<=1400/\Bw w w':=by
 have HR:=hI hR;have YQ:=hI Zf;have H1:=hI XH;have HH:=hI hh;have HI:Hid (ReaI vs pt w r [] ((w.alloc (.cells #[.pointer (some ⟨r,0,none⟩)] 71)).alloc (.cells #[.slice none 0 0] 142))):=by
  refine⟨.slice none 0 0,[],⟨?_,?_,ZH _ _ _ _,(λx hx=>by cases hx),?_⟩,rfl,by simp,by simp⟩
  ·exact ((Z4 (w.alloc (.cells #[.pointer (some ⟨r,0,none⟩)] 71)) (.cells #[.slice none 0 0] 142)).block w.heap.size (by simp)).trans (heap_alloc_new w _)
  ·have h:=heap_alloc_new (w.alloc (.cells #[.pointer (some ⟨r,0,none⟩)] 71)) (.cells #[.slice none 0 0] 142)
   rw[World.size_alloc] at h;exact h
  exact (Z4 _ _).alloc (by simp) _
 clear hR Zf XH hh;go_enter func90,ntmps90
 go_wp2_with fail
 refine (nW vs YQ.o H1.o cs pt h HH.o r sv pv cv _ _ (ReaI vs pt w r) (zKB vs YQ.o pt cs r sv pv cv w HR.o) (λT Y hY=>by obtain⟨ov,L,h1,_⟩:=hY;exact RulesAt.below h1.fr HR.o) _ HI.o).mono ?_
 rintro e w2 ⟨rfl,ov,L,hS,LM,WS,Yn⟩;have HS:=hI hS;have uC:=hI LM
 have Um:Hid (L.length<=1400):=by show _<=_;omega
 have k0:w2.cell? ⟨w.heap.size+1,0,none⟩=some ov:=Z_ hS.blk 0 _ rfl;obtain⟨ao,co,rfl⟩:=ZJ (show w2.ownsRow _ _ _ _ _ _ from hS.own)
 clear hS LM WS Yn;go_wp2
 go_ret
 exact⟨_,L,rfl,uC.o,CZ (by omega) HS.o.own,λx hx=>Ri (by omega) (HS.o.cl x hx),Um.o,HS.o.fr⟩
theorem zOO (l:List Nat) (hl:l.length<=200000) (u:Value) (w:World) (hu:PArg w u l) :
 Calls prog 87 #[u] w λe w'=>∃x,e=.returned x/\w'.ownsRow w.heap.size 136 1 x l.length (u64s l)/\Bw w w':=by
 obtain⟨i0,WJ,Ze,Y_,Zb⟩:=info_parts Da;have HU:Hid (∀w',Bw w w'->PArg w' u l):=λw' h=>PArg.below h hu
 have q22:∀(w:World) (a:Option Addr) (n c n' c':Nat),(binOp .eql 139 (.slice a n c) (.slice none n' c')).run prog w=.ok (.bool a.isNone) w:=λw a n c n' c'=>Lib.run_eql_slice_nil w _ _ a n c n' c' zL
 obtain⟨a,c,rfl,hm,hr⟩:=hu;cases a with
 | none =>
   have:l=[]:=by
    cases l with
    | nil=>rfl
    | cons z r=>obtain⟨_,b,off,hq,_⟩:=hr 0 z rfl;cases hq
   subst this;clear HU;go_enter func87,ntmps87
   go_wp2
   go_ret
   exact⟨_,rfl,ZH _ _ _ _,Z6 _ _⟩
 | some ad =>
   have HL:=hI hl;have HC:Hid (∀(j:Nat) (u:Value),(u64s l)[j]? = some u->(w.alloc (.cells #[] 136)).cell? (ad.add j)=some u):=λj y hy=>by
    unfold u64s at hy;rw[YN] at hy;cases hz:l[j]? with
    | none=>rw[hz] at hy;cases hy
    | some z =>
      rw[hz] at hy;obtain⟨_,b,off,hq,Z7,hc⟩:=hr j z hz;cases hq
      rw[L7];have:y=.int .u64 (z:Int):=by simpa using hy.symm
      rw[this];exact ((Z4 w _).cell (p:=⟨b,off+j,none⟩) Z7).trans hc
   have H1:Hid (∀u∈u64s l,u.oneCell'=true):=λu hu=>by
    obtain⟨z,_,rfl⟩:=Zj.1 hu;rfl
   have EM:Hid ((u64s l).length=l.length * 1):=by show _=_;unfold u64s;simp
   have To:Hid ((w.alloc (.cells #[] 136)).ownsRow w.heap.size 136 1 (.slice (some ⟨w.heap.size,0,none⟩) 0 0) 0 []):=World.ownsRow_made w #[] 0 (Z2 _) (YI _) (by simp)
   clear hl hr hm;go_enter func87,ntmps87
   go_wp2_with (at_builtin;refine wpList_append_own _ rfl _ _ 139 rfl w.heap.size 136 i0 (.int .u64 0) 1 8 zL WJ Ze Y_ Zb rfl (by decide) _ _ _ rfl To.o ad l.length c (u64s l) rfl EM.o HC.o H1.o ?c1 ?c2 ?c3 ?_)
   case c1=>have:=HL.o;unfold maxLen;omega
   case c2=>have:=HL.o;omega
   case c3=>simp
   intro v3 w3 ZX Z1 _;have ZM:Hid (Bw w w3):=(Z4 _ _).grown Z1 (by simp) (by intro k hk;simp[Value.ownBlock] at hk;omega)
   have WL:Hid (w3.ownsRow w.heap.size 136 1 v3 l.length (u64s l)):=by show World.ownsRow _ _ _ _ _ _ _;simpa using ZX
   obtain⟨av,cv,rfl⟩:=ZJ ZX;clear ZX Z1;go_wp2
   go_ret
   exact⟨_,by simp,WL.o,ZM.o⟩
theorem mV {w:World} {v:Value} {c:List RV} (h:N3 w v c) (k:Nat) (x:RV) (hx:c[k]? = some x):∃a n cc b off,v=.slice a n cc/\n=c.length/\n<=cc/\cc<=maxLen/\a=some ⟨b,off,none⟩/\b<w.heap.size /\
 w.cell? ⟨b,off+k * 4,none⟩=some (.int .i64 x.1.1.kind)/\w.cell? ⟨b,off+k * 4+1,none⟩=some (.int .i64 x.1.1.con)/\w.cell? ⟨b,off+k * 4+2,none⟩=some x.2/\w.cell? ⟨b,off+k * 4+3,none⟩=some (.int .u64 (x.1.2:Int)):=by
 obtain⟨a,cc,hv,hm,hr⟩:=h;have hk:k<c.length:=(ZN.1 hx).1;have hw:=zG c;have get:∀(j:Nat) (u:Value),j<4->(S4 x)[j]? = some u->((c.map S4).flatten)[k * 4+j]? = some u:=by
  intro j u hj hu;have h1:(((c.map S4).flatten).drop (k * 4))[j]? = some u:=by
   rw[C3 4 k _ hw,<-List.map_drop,Yc hk];have e:c[k]=x:=by rw[ZA hk] at hx;exact Zl hx
   rw[VH,RR,e,V8 (by show j<4;exact hj)]
   exact hu
  rw[K'] at h1;exact h1
 obtain⟨b,off,ha,Z7,c0⟩:=hr _ _ (get 0 _ (by omega) rfl)
 obtain⟨b1,o1,uI,_,c1⟩:=hr _ _ (get 1 _ (by omega) rfl)
 obtain⟨b2,o2,PI,_,c2⟩:=hr _ _ (get 2 _ (by omega) rfl)
 obtain⟨b3,o3,EH,_,c3⟩:=hr _ _ (get 3 _ (by omega) rfl)
 rw[ha] at uI PI EH;cases uI;cases PI;cases EH
 rw[YU] at hv hm;exact⟨a,_,cc,b,off,hv,rfl,hm.1,hm.2,ha,Z7,c0,by rw[UU];exact c1,by rw[UU];exact c2,by rw[UU];exact c3⟩
end Go.Proofs.YtndcpnlaadikoaaGreatDoor
