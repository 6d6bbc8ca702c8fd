/- What the proof leans on, part 27. -/
import Derived.Test.YtndcpnlaadikoaaGreatDoorPartAy
import Derived.Test.YtndcpnlaadikoaaGreatDoorPartAz
import Derived.Test.YtndcpnlaadikoaaGreatDoorPartAx
set_option maxRecDepth 100000
set_option maxHeartbeats 6400000
namespace Go.Proofs.YtndcpnlaadikoaaGreatDoor
open Go.RowKit
structure ReaS (w0:World) (r:Nat) (w:World) (ov:Value) (L:List RV):Prop where
 blk0:w.heap[w0.heap.size]? = some (.cells #[.pointer (some ⟨r,0,none⟩)] 71)
 blk:w.heap[w0.heap.size+1]? = some (.cells #[ov] 142)
 own:ROwn (w0.heap.size+2) w ov L
 cl:∀x∈L,LOwn (w0.heap.size+2) w x.2 x.1.1.cla
 fr:Below w0.heap.size w0 w
theorem ReaS.below {w0 w w':World} {r:Nat} {ov:Value} {L:List RV} (h:ReaS w0 r w ov L) (hb:Below w.heap.size w w'):ReaS w0 r w' ov L :=
 ⟨(hb.block _ (Array.getElem?_eq_some_iff.1 h.blk0).1).trans h.blk0,(hb.block _ (Array.getElem?_eq_some_iff.1 h.blk).1).trans h.blk,zAB h.own hb,fun x hx=>zAB (h.cl x hx) hb,h.fr.trans (hb.mono h.fr.size)⟩
theorem zCC {w:World} {B b:Nat} {e t:TypeId} {s n:Nat} {v:Value} {xs:List Value} {cs:Array Value} (h:w.ownsRow B e s v n xs) (hb:w.heap[b]? = some (.cells cs t)) (hne:t≠e):v.ownBlock≠some b:=by
 intro he;rcases h.2 with ⟨rfl,_⟩ | ⟨g,cap,cur,rfl,_,hh,_⟩
 ·cases he
 ·have:g=b:=by injection he
  subst this;rw[hh] at hb
  injection hb with h1
  injection h1 with _ h2
  exact hne h2.symm
theorem zLx (w:World) (x:RV):∀(j:Nat) (u:Value),(zA8 x)[j]? = some u→(w.alloc (.cells #[.int .i64 x.1.1.kind,.int .i64 x.1.1.con,x.2,.int .u64 (x.1.2:Int)] 145)).cell? ((⟨w.heap.size,0,none⟩:Addr).add j)=some u:=by
 intro j u hj
 match j,hj with
 | 0,hj=>simp[zA8] at hj;subst hj;simp[Addr.add]
 | 1,hj=>simp[zA8] at hj;subst hj;simp[Addr.add]
 | 2,hj=>simp[zA8] at hj;subst hj;simp[Addr.add]
 | 3,hj=>simp[zA8] at hj;subst hj;simp[Addr.add]
theorem ReaS.push {w0 w w1 w2:World} {r:Nat} {ov v':Value} {L:List RV} {x:RV} {n:Nat} (h:ReaS w0 r w ov L) (hb:Below w.heap.size w w1) (hx:LOwn (w0.heap.size+2) w1 x.2 x.1.1.cla) (hg:w1.grownBy w2 ov.ownBlock) (hn:n=L.length+1) (ho:w2.ownsRow (w0.heap.size+2) 145 4 v' n ((L.map zA8).flatten++zA8 x)) :
 ReaS w0 r (w2.setCell ⟨w0.heap.size+1,0,none⟩ v') v' (L++[x])∧Fr (fun k=>k=w0.heap.size+1∨ov.ownBlock=some k) w (w2.setCell ⟨w0.heap.size+1,0,none⟩ v'):=by
 have h1:=h.below hb;have hb2:w2.heap[w0.heap.size+1]? = some (.cells #[ov] 142):=zBF h1.blk hg h1.own (by decide)
 have ho2:ROwn (w0.heap.size+2) w2 v' (L++[x]):=by
  show World.ownsRow _ _ _ _ _ _ _;rw[List.length_append,List.length_singleton,←hn,List.map_append,List.flatten_append];simpa using ho
 refine⟨⟨?_,?_,zAX ho2 hb2 (by decide) 0 _,fun y hy=>?_,?_⟩,?_⟩
 ·exact (Below.heap_setCell _ _ _ _ (by simp)).trans (zBF h1.blk0 hg h1.own (by decide))
 ·rw[heap_setCell_same w2 _ 0 _ _ v' hb2];rfl
 ·rcases List.mem_append.1 hy with h3 | h3
  ·exact zAX (zBE (h1.cl y h3) hg h1.own (by decide)) hb2 (by decide) 0 _
  ·rw[List.mem_singleton.1 h3]
   exact zAX (zBE hx hg h1.own (by decide)) hb2 (by decide) 0 _
 ·exact (h1.fr.grown hg h1.fr.size (fun k hk=>by have:=(h1.own.lt k hk).1;omega)).setCell (show w0.heap.size≤w0.heap.size+1 by omega) _
 ·exact Fr.setX (X:=fun k=>k=w0.heap.size+1∨ov.ownBlock=some k) ((Fr.below hb).grown hg (fun k hk=>Or.inl (Or.inr hk))) (p:=⟨w0.heap.size+1,0,none⟩) (Or.inl rfl) _
theorem zM8 (vs:List MVar) (hva:zAQ vs) (pt:List (List Nat)) (cs:List Nat) (r:Nat) (sv pv cv:Value) (w0:World) (hR:RulesAt w0 r sv pv cv vs pt cs) (con:Nat) (pts:List Nat) (hcon:pt[con]? = some pts) (g0:Nat) (hgw:∀i,g0.testBit i=true→(zAE vs).testBit i=true)
 (any:Cla) (hla:any.length≤100) (u:Value) (bc bg:Nat) (ov:Value) (L:List RV) (hLL:L.length≤8000) (w:World) (hS:ReaS w0 r w ov L) (hu:LArg w u any)
 (hc:w.cell? ⟨bc,0,none⟩=some (.int .i64 con)) (hg:w.cell? ⟨bg,0,none⟩=some (.int .u64 g0)) (hlc:bc<w.heap.size) (hlg:bg<w.heap.size) :
 Calls Tryz.prog 152 #[u,.pointer (some ⟨w0.heap.size,0,none⟩),.pointer (some ⟨bc,0,none⟩),.pointer (some ⟨bg,0,none⟩),.pointer (some ⟨w0.heap.size+1,0,none⟩)] w fun e w'=>e=.returned (.tuple #[]) ∧
  ∃ov' x,x.1=zCR vs con (whyP vs pts any g0)∧ReaS w0 r w' ov' (L++[x])∧Fr (fun k=>k=w0.heap.size+1∨ov.ownBlock=some k) w w':=by
 obtain⟨i0,hi0,hz0,hz1,hz2⟩:=info_parts Tryz.infoReason;have HS:Hid (ReaS w0 r w ov L):=hS;have hb1:w.cell? ⟨w0.heap.size,0,none⟩=some (.pointer (some ⟨r,0,none⟩)):=blk9 hS.blk0 0 _ rfl;have hl1:w0.heap.size+1<w.heap.size:=(Array.getElem?_eq_some_iff.1 hS.blk).1;have HR:Hid (∀Y,Below w.heap.size w Y→RulesAt Y r sv pv cv vs pt cs):=fun Y hY=>RulesAt.below (hS.fr.trans (hY.mono hS.fr.size)) hR
 have HU:Hid (∀Y,Below w.heap.size w Y→LArg Y u any):=fun Y hY=>LArg.below hY hu
 have HVO:Hid (zAQ vs):=hva;have HLA:Hid (any.length≤100):=hla;have HGW:Hid (∀i,g0.testBit i=true→(zAE vs).testBit i=true):=hgw;have hRW:=RulesAt.below hS.fr hR;have r0:=hRW.c0;have r1:=hRW.c1;have rl:=hRW.lt;obtain⟨a1,c1,rfl,_,_⟩:=hRW.hv;obtain⟨a2,c2,rfl,hm2,hr2⟩:=hRW.hp;have hct:con<pt.length:=(List.getElem?_eq_some_iff.1 hcon).1;obtain⟨b,off,x,rfl,hb,hcx,hpx⟩:=hr2 con pts hcon;have HPX:Hid (∀Y,Below w.heap.size w Y→PArg Y x pts):=fun Y hY=>PArg.below hY hpx
 obtain⟨a3,c3,rfl,_,_⟩:=hpx;obtain⟨ao,co,rfl⟩:=zAC (show w.ownsRow _ _ _ _ _ _ from hS.own)
 obtain⟨a4,c4,rfl,_,_⟩:=hu;unfold maxLen at hm2;obtain⟨hm21,hm22⟩:=hm2;obtain⟨C,hC⟩:∃C,whyP vs pts any g0=C:=⟨_,rfl⟩;have HC:Hid (whyP vs pts any g0=C):=hC;obtain⟨h,hh⟩:∃h,zAH vs C=h:=⟨_,rfl⟩;have HRO:Hid (zCR vs con (whyP vs pts any g0)=(⟨1,(con:Int),C⟩,h)):=by show _=_;rw[hC,←hh];rfl
 have HH:Hid (zAH vs C=h):=hh;rw[HRO.out];have HWY:Hid (∀Y,Below w.heap.size w Y→Calls Tryz.prog 153 #[.slice a1 (List.length vs) c1,.slice a3 (List.length pts) c3,.slice a4 (List.length any) c4,.int .u64 (g0:Int)] Y fun e w'=>∃x,e=.returned x∧LOwn Y.heap.size w' x C∧Below Y.heap.size Y w'):=fun Y hY=>by
  rw[←HC.out];exact zSb vs HVO.out pts any HLA.out g0 HGW.out _ _ _ Y (HR.out Y hY).hv (HPX.out Y hY) (HU.out Y hY) (HR.out Y hY).tab
 have HO2:Hid (∀Y,Below w.heap.size w Y→Y.cell? ⟨w0.heap.size+1,0,none⟩=some (.slice ao L.length co)):=fun Y hY=>blk9 (hS.below hY).blk 0 _ rfl
 have o2:=HO2.out w (Below.refl _ _);clear hva hla hgw hS hR hRW hr2 hcon hC hh;go_enter Tryz.func152,Tryz.ntmps152
 go_wp2_with fail
 go_region_held3 (fun w'=>Below w.heap.size w w'∧w'.cell? ⟨w0.heap.size,0,none⟩=some (.pointer (some ⟨r,0,none⟩))∧w'.cell? ⟨r,0,none⟩=some (.slice a1 (List.length vs) c1)∧w'.cell? ⟨r,1,none⟩=some (.slice (some ⟨b,off,none⟩) (List.length pt) c2)∧w'.cell? ⟨bc,0,none⟩=some (.int .i64 con)∧w'.cell? ⟨bg,0,none⟩=some (.int .u64 g0)∧w'.cell? ⟨b,off+con,none⟩=some (.slice a3 (List.length pts) c3))
  ((refine (fun (hB:Below w.heap.size w _)=>⟨hB,(hB.cell (p:=⟨w0.heap.size,0,none⟩) (Nat.lt_of_succ_lt hl1)).trans hb1,(hB.cell (p:=⟨r,0,none⟩) rl).trans r0,(hB.cell (p:=⟨r,1,none⟩) rl).trans r1,(hB.cell (p:=⟨bc,0,none⟩) hlc).trans hc,(hB.cell (p:=⟨bg,0,none⟩) hlg).trans hg,(hB.cell (p:=⟨b,off+con,none⟩) hb).trans hcx⟩:Below w.heap.size w _→_) ?_;first | exact (Below.refl _ _).drew | exact zA7 (by assumption) hbq))
  (first
    | (go_at_call 153;refine (HWY.out _ (show Below w.heap.size w _∧_ by assumption).1).mono ?_;rintro e w3 ⟨xc,rfl,hxc,hbq⟩;obtain⟨ac,cc,rfl⟩:=zAC (show w3.ownsRow _ _ _ _ _ _ from hxc);obtain⟨base,HBASE,HXC⟩:∃base,Hid (base=_)∧Hid (LOwn base w3 (.slice ac (List.length C) cc) C):=⟨_,rfl,hxc⟩;clear hxc;have hB3:=zA7 (by assumption) hbq))
 have hbase:w0.heap.size+2≤base:=by have e:base=w.heap.size:=HBASE.out;omega
 have HXC2:Hid (LOwn (w0.heap.size+2) w3 (.slice ac (List.length C) cc) C):=zBJ hbase HXC.out;have HB3:Hid (Below w.heap.size w w3):=hB3;have q1:=(hB3.cell (p:=⟨w0.heap.size,0,none⟩) (Nat.lt_of_succ_lt hl1)).trans hb1;have q2:=(hB3.cell (p:=⟨r,0,none⟩) rl).trans r0;have q3:=(hB3.cell (p:=⟨bc,0,none⟩) hlc).trans hc;have q4:=HO2.out w3 hB3;have s3:=hB3.size;have l1:w0.heap.size+1<w3.heap.size:=by omega
 have l2:r<w3.heap.size:=by omega
 clear hbq hB3 HBASE HXC hbase hb1 r0 r1 hc hg hcx o2;go_upto_region 2 with (fail)
 have HBS:Hid (Below w3.heap.size w3 (w3.alloc (.cells #[.int .i64 1,.int .i64 con,.slice ac (List.length C) cc] 39))):=zAA _ _;have t0:(w3.alloc (.cells #[.int .i64 1,.int .i64 con,.slice ac (List.length C) cc] 39)).cell? ⟨w3.heap.size,0,none⟩=some (.int .i64 1):=World.cell?_alloc_at _ _ _ 0 (by simp)
 have t1:(w3.alloc (.cells #[.int .i64 1,.int .i64 con,.slice ac (List.length C) cc] 39)).cell? ⟨w3.heap.size,1,none⟩=some (.int .i64 con):=World.cell?_alloc_at _ _ _ 1 (by simp)
 have t2:(w3.alloc (.cells #[.int .i64 1,.int .i64 con,.slice ac (List.length C) cc] 39)).cell? ⟨w3.heap.size,2,none⟩=some (.slice ac (List.length C) cc):=World.cell?_alloc_at _ _ _ 2 (by simp)
 have tl:w3.heap.size<(w3.alloc (.cells #[.int .i64 1,.int .i64 con,.slice ac (List.length C) cc] 39)).heap.size:=by simp
 obtain⟨B,hB⟩:∃B,w3.heap.size=B:=⟨_,rfl⟩;rw[hB] at t0 t1 t2 tl ⊢;obtain⟨V,hV⟩:∃V,w3.alloc (.cells #[.int .i64 1,.int .i64 con,.slice ac (List.length C) cc] 39)=V:=⟨_,rfl⟩;rw[hV] at HBS t0 t1 t2 tl ⊢;have HBV:Hid (Below w.heap.size w V):=HB3.out.trans (HBS.out.mono HB3.out.size);have k1:=(HBS.out.cell (p:=⟨w0.heap.size,0,none⟩) (Nat.lt_of_succ_lt l1)).trans q1;have k2:=(HBS.out.cell (p:=⟨r,0,none⟩) l2).trans q2;have k4:=(HBS.out.cell (p:=⟨w0.heap.size+1,0,none⟩) l1).trans q4;have HSV:Hid (ReaS w0 r V (.slice ao L.length co) L):=HS.out.below HBV.out;have HXV:Hid (LOwn (w0.heap.size+2) V (.slice ac (List.length C) cc) C):=zAB HXC2.out HBS.out;have HHE:Hid (∀Y,Below V.heap.size V Y→Calls Tryz.prog 85 #[.slice a1 (List.length vs) c1,.slice ac (List.length C) cc] Y fun e w'=>e=.returned (.int .u64 (h:Int))∧Below Y.heap.size Y w'):=fun Y hY=>by
  rw[←HH.out];exact zCm vs HVO.out C _ _ Y (HR.out Y (HBV.out.trans (hY.mono HBV.out.size))).hv (LArg.below hY HXV.out.arg)
 have vl1:w0.heap.size+1<V.heap.size:=Nat.lt_of_lt_of_le l1 HBS.out.size;have vl2:r<V.heap.size:=Nat.lt_of_lt_of_le l2 HBS.out.size;have vlB:B<V.heap.size:=tl;clear hB hV q1 q2 q3 q4 s3 tl;go_region_law
  (first
    | (rw[if_pos (by rfl)];refine wp_append_own _ _ _ 142 rfl (w0.heap.size+2) 145 i0 _ 4 48 zCS hi0 hz0 hz1 hz2 rfl (by decide) _ _ _ rfl (hw5.alloc _) ⟨w5.heap.size,0,none⟩ 1 1 (zA8 ((⟨1,(con:Int),C⟩,h),.slice ac (List.length C) cc)) rfl rfl (zLx w5 ((⟨1,(con:Int),C⟩,h),.slice ac (List.length C) cc)) (by intro u hu;simp[zA8] at hu;rcases hu with rfl | rfl | rfl | rfl <;> rfl) ?_ ?_ ?_ ?_;(unfold maxLen;omega);omega;(have:=hB5.size;simp;omega);intro v6 w6 hown6 hg6 _;have hP:=ReaS.push (x:=((⟨1,(con:Int),C⟩,h),.slice ac (List.length C) cc)) HSV.out (hB5.alloc hB5.size (.cells #[.int .i64 1,.int .i64 con,.slice ac (List.length C) cc,.int .u64 (h:Int)] 145)) (zAB HXV.out (hB5.alloc hB5.size _)) hg6 rfl hown6;have hk6:=zBF (HSV.out.below (hB5.alloc hB5.size (.cells #[.int .i64 1,.int .i64 con,.slice ac (List.length C) cc,.int .u64 (h:Int)] 145))).blk hg6 (hw5.alloc _) (by decide);obtain⟨a9,b9,hv9⟩:=zAC hown6;subst hv9;have d2:w6.cell? ⟨w0.heap.size+1,0,none⟩=some (.slice ao L.length co):=blk9 hk6 0 _ rfl;have z2:w6.frozen? ⟨w0.heap.size+1,0,none⟩=false:=frz9 hk6 0)
    | (rw[if_pos (by rfl)];go_simp;go_at_call 85;refine (HHE.out _ (Below.refl _ _).drew).mono ?_;rintro e w5 ⟨rfl,hb5⟩;have hB5:Below V.heap.size V w5:=(Below.refl _ _).drew.trans hb5;have c5:w5.cell? ⟨w0.heap.size+1,0,none⟩=some (.slice ao L.length co):=(hB5.cell (p:=⟨w0.heap.size+1,0,none⟩) vl1).trans k4;have u0:=(hB5.cell (p:=⟨B,0,none⟩) vlB).trans t0;have u1:=(hB5.cell (p:=⟨B,1,none⟩) vlB).trans t1;have u2:=(hB5.cell (p:=⟨B,2,none⟩) vlB).trans t2;have hw5:w5.ownsRow (w0.heap.size+2) 145 4 (.slice ao L.length co) L.length (L.map zA8).flatten:=zAB HSV.out.own hB5;have l5:w0.heap.size+1<w5.heap.size:=Nat.lt_of_lt_of_le vl1 hB5.size;have lB5:B<w5.heap.size:=Nat.lt_of_lt_of_le vlB hB5.size;dsimp only))
 all_goals
  have HF:Hid (Fr (fun k=>k=w0.heap.size+1∨(Value.slice ao L.length co).ownBlock=some k) w _):=(Fr.below HBV.out).trans hP.2
  go_wp2
  go_end0
  exact⟨rfl,_,_,rfl,hP.1,HF.out⟩
theorem zPh {X:Nat→Prop} {w w':World} {b:Nat} {cs:Array Value} {t:TypeId} (hf:Fr X w w') (hb:w.heap[b]? = some (.cells cs t)) (hx:¬X b):w'.heap[b]? = some (.cells cs t) :=
 (hf.block b (Array.getElem?_eq_some_iff.1 hb).1 hx).trans hb
theorem zHz (vs:List MVar) (pt:List (List Nat)) (con b:Nat) (pts:List Nat) (h:pt[con]? = some pts):zA3 vs pt (con,b,0)=[zCR vs con (whyP vs pts [] (zAL (zAE vs) b))]:=by
 unfold zA3;rw[if_pos rfl];simp only[List.getD_eq_getElem?_getD,h];rfl
theorem zKm (vs:List MVar) (pt:List (List Nat)) (con b a:Nat) (ha:a≠0) (pts:List Nat) (h:pt[con]? = some pts):zA3 vs pt (con,b,a)=(zBY vs (zAL b a)).map fun l=>zCR vs con (whyP vs pts [⟨l.var,4,l.n⟩] (zAL (zAE vs) b)):=by
 unfold zA3;rw[if_neg ha];simp only[List.getD_eq_getElem?_getD,h];rfl
theorem zPi (vs:List MVar) (hva:zAQ vs) (pt:List (List Nat)) (cs:List Nat) (r:Nat) (sv pv cv:Value) (w0:World) (hR:RulesAt w0 r sv pv cv vs pt cs) (con b a:Nat) (hcon:con<pt.length) (hbw:∀i,b.testBit i=true→(zAE vs).testBit i=true) (hab:∀i,a.testBit i=true→b.testBit i=true)
 (ov:Value) (L:List RV) (hLL:L.length≤7000) (w:World) (hS:ReaS w0 r w ov L) :
 Calls Tryz.prog 151 #[.int .i64 con,.int .u64 b,.int .u64 a,.pointer (some ⟨w0.heap.size,0,none⟩),.pointer (some ⟨w0.heap.size+1,0,none⟩)] w fun e w'=>e=.returned (.tuple #[]) ∧
  ∃ov' L',L'.map (·.1)=zA3 vs pt (con,b,a)∧ReaS w0 r w' ov' (L++L'):=by
 obtain⟨pts,hpts⟩:∃pts,pt[con]? = some pts:=⟨pt[con],by simp[hcon]⟩
 have HP:Hid (pt[con]? = some pts):=hpts;have HRL:Hid (RulesAt w0 r sv pv cv vs pt cs):=hR;have HS:Hid (ReaS w0 r w ov L):=hS;have HVO:Hid (zAQ vs):=hva;have HBW:Hid (∀i,b.testBit i=true→(zAE vs).testBit i=true):=hbw;have HW36:Hid (zAE vs<2 ^ 36):=zFi vs hva.1 _;have HB36:Hid (b<2 ^ 36):=Nat.lt_of_le_of_lt (Nat.le_of_testBit hbw) HW36.out;have HA36:Hid (a<2 ^ 36):=Nat.lt_of_le_of_lt (Nat.le_of_testBit hab) HB36.out;obtain⟨q,hq⟩:∃q,zAE vs=q:=⟨_,rfl⟩;have HQ:Hid (zAE vs=q):=hq;obtain⟨g0,hg0⟩:∃g0,zAL (zAE vs) b=g0:=⟨_,rfl⟩;have hbits:=zAg (zAE vs) b (by have:=HW36.out;omega) (by have:=HB36.out;omega)
 rw[hg0,hq] at hbits;have HGW:Hid (∀i,g0.testBit i=true→(zAE vs).testBit i=true):=fun i hi=>by
  rw[←hg0,zAO,Bool.and_eq_true] at hi;exact hi.1
 have HG:Hid (zAL (zAE vs) b=g0):=hg0;have hRW:=RulesAt.below hS.fr hR;have r0:=hRW.c0;have rl:=hRW.lt;have hb1:w.cell? ⟨w0.heap.size,0,none⟩=some (.pointer (some ⟨r,0,none⟩)):=blk9 hS.blk0 0 _ rfl;have hl0:w0.heap.size<w.heap.size:=(Array.getElem?_eq_some_iff.1 hS.blk0).1;obtain⟨a1,c1,rfl,_,_⟩:=hRW.hv;obtain⟨RT,hRT⟩:∃RT,zA3 vs pt (con,b,a)=RT:=⟨_,rfl⟩;have HRT:Hid (zA3 vs pt (con,b,a)=RT):=hRT;rw[hRT];have HRV:Hid (∀Y,Below w.heap.size w Y→RulesAt Y r (.slice a1 (List.length vs) c1) pv cv vs pt cs):=fun Y hY=>RulesAt.below hY hRW
 clear hva hbw hab hS hR hRW hpts hq hg0 hRT;go_enter Tryz.func151,Tryz.ntmps151
 go_wp2_with fail
 refine (zFj vs HVO.out _ _ (HRV.out _ (zAA _ _)).hv).mono ?_;rintro e w1 ⟨rfl,hb2⟩;rw[HQ.out];have HB1:Hid (Below w.heap.size w w1):=(zAA _ _).trans (hb2.mono (by simp))
 have HBC:Hid (w1.heap[w.heap.size]? = some (.cells #[.int .i64 (con:Int)] 3)):=(hb2.block w.heap.size (by simp)).trans (heap_alloc_new w _)
 clear hb2 r0 rl hb1 hl0;by_cases ha0:a=0
 ·subst ha0
  have HE:Hid (RT=[zCR vs con (whyP vs pts [] g0)]):=by show _=_;rw[←HRT.out,zHz vs pt con b pts HP.out,HG.out]
  go_wp2_with fail
  have HB3:Hid (Below w.heap.size w (w1.alloc (.cells #[.int .u64 (g0:Int)] 136))):=HB1.out.alloc HB1.out.size _;refine (zM8 vs HVO.out pt cs r _ pv cv w0 HRL.out con pts HP.out g0 HGW.out [] (by simp) (.slice none 0 0) w.heap.size w1.heap.size ov L (by omega) _ (HS.out.below HB3.out) (zSV _) ?_ ?_ ?_ ?_).mono ?_
  ·exact blk9 (((zAA w1 _).block w.heap.size (Array.getElem?_eq_some_iff.1 HBC.out).1).trans HBC.out) 0 _ rfl
  ·exact World.cell?_alloc_at _ _ _ 0 (by simp)
  ·have:=(Array.getElem?_eq_some_iff.1 HBC.out).1
   simp;omega
  ·simp
  rintro e w4 ⟨rfl,ov',x,hx,hS4,hf4⟩;have HF:Hid (ReaS w0 r w4 ov' (L++[x])):=hS4;have HX:Hid ([x].map (·.1)=RT):=by show _=_;rw[HE.out,←hx];rfl
  clear hS4 hf4 hx;go_wp2
  refine bodyPost_ret (results_none rfl _ _ _) rfl ?_;exact⟨rfl,ov',[x],HX.out,HF.out⟩
 ·have HE:Hid (RT=(zBY vs (zAL b a)).map fun l=>zCR vs con (whyP vs pts [⟨l.var,4,l.n⟩] g0)):=by show _=_;rw[←HRT.out,zKm vs pt con b a ha0 pts HP.out,HG.out]
  have ha1:((a:Int)==0)=false:=by simpa using ha0
  have hnt:=zAg b a (by have:=HB36.out;omega) (by have:=HA36.out;omega)
  obtain⟨d,hd⟩:∃d,zAL b a=d:=⟨_,rfl⟩;have HDW:Hid (∀i,d.testBit i=true→(zAE vs).testBit i=true):=fun i hi=>by
   rw[←hd,zAO,Bool.and_eq_true] at hi;exact HBW.out i hi.1
  rw[hd] at hnt HE;obtain⟨l,hl⟩:∃l,zBY vs d=l:=⟨_,rfl⟩;have HLD:Hid (zBY vs d=l):=hl;have hl36:l.length≤36:=by rw[←hl];exact zD7 vs d
  rw[hl] at HE;clear hd hl ha0;have HB3:Hid (Below w.heap.size w (w1.alloc (.cells #[.int .u64 (g0:Int)] 136))):=HB1.out.alloc HB1.out.size _;have HBG:Hid ((w1.alloc (.cells #[.int .u64 (g0:Int)] 136)).heap[w1.heap.size]? = some (.cells #[.int .u64 (g0:Int)] 136)):=heap_alloc_new w1 _;have HBC2:Hid ((w1.alloc (.cells #[.int .u64 (g0:Int)] 136)).heap[w.heap.size]? = some (.cells #[.int .i64 (con:Int)] 3)):=((zAA w1 _).block w.heap.size (Array.getElem?_eq_some_iff.1 HBC.out).1).trans HBC.out;obtain⟨G,hG⟩:∃G,w1.heap.size=G:=⟨_,rfl⟩;obtain⟨V,hV⟩:∃V,w1.alloc (.cells #[.int .u64 (g0:Int)] 136)=V:=⟨_,rfl⟩;go_upto_region 5 with (fail)
  rw[hG] at HBG;rw[hV] at HB3 HBG HBC2;have b1:V.cell? ⟨w0.heap.size,0,none⟩=some (.pointer (some ⟨r,0,none⟩)):=blk9 (HS.out.below HB3.out).blk0 0 _ rfl;have r0:=(HRV.out _ HB3.out).c0;clear hG hV;go_wp2_with fail
  refine (zHg vs HVO.out d HDW.out _ _ (HRV.out _ HB3.out).hv (HRV.out _ HB3.out).tab).mono ?_;rintro e w5 ⟨y,rfl,hy,hb5⟩;rw[HLD.out] at hy;have HY:Hid (LArg w5 y l):=hy.arg;have HYO:Hid (LOwn V.heap.size w5 y l):=hy;have HB5:Hid (Below V.heap.size V w5):=hb5;obtain⟨ay,cy,rfl⟩:=zAC (show w5.ownsRow _ _ _ _ _ _ from hy)
  have HYB:Hid (∀g,(Value.slice ay l.length cy).ownBlock=some g→w0.heap.size+2≤g):=fun g hg=>by have h1:=((show w5.ownsRow _ _ _ _ _ _ from hy).lt g hg).1;have h2:=(Array.getElem?_eq_some_iff.1 (HS.out.below HB3.out).blk).1;omega
  clear hy hb5 b1 r0;go_wp2_with fail
  go_loopw [33] (fun i wr=>∃(k:Nat),k≤l.length∧i=.int .i64 k∧Hid (∃(ov2:Value) (L2:List RV),Hid (L2.map (·.1)=RT.take k)∧Hid (ReaS w0 r wr ov2 (L++L2))∧Hid (LOwn (w0.heap.size+2) wr (.slice ay l.length cy) l)∧Hid (wr.heap[w.heap.size]? = some (.cells #[.int .i64 (con:Int)] 3))∧Hid (wr.heap[G]? = some (.cells #[.int .u64 (g0:Int)] 136)))) (fun i _=>l.length - (intOf i).toNat)
  case atStart =>
   refine⟨0,by omega,rfl,ov,[],rfl,?_,zBJ ?_ HYO.out,(HB5.out.block _ (Array.getElem?_eq_some_iff.1 HBC2.out).1).trans HBC2.out,(HB5.out.block _ (Array.getElem?_eq_some_iff.1 HBG.out).1).trans HBG.out⟩
   ·rw[List.append_nil];exact (HS.out.below HB3.out).below HB5.out
   ·have:=(Array.getElem?_eq_some_iff.1 (HS.out.below HB3.out).blk).1;omega
  case round =>
   obtain⟨k,hk,rfl,hrest⟩:=hrel;obtain⟨ov2,L2,hmp,hS2,hown,hbc,hbg⟩:=hrest.out;clear hrest;have HLL2:Hid (L2.length=k):=by
    have h1:=congrArg List.length hmp.out;rw[List.length_map,List.length_take,HE.out,List.length_map] at h1;show _=_;omega
   by_cases hlt:k<l.length
   ·obtain⟨t,ht⟩:∃t,l[k]? = some t:=⟨l[k],by simp[hlt]⟩
    obtain⟨q2,c2,he2,_,hr2⟩:=hown.out.arg
    injection he2 with he2 he3 he4
    clear he3 he4;obtain⟨b2,o2,hq2,hlt2,t0,t1,t2⟩:=hr2 k t ht;rw[hq2] at he2;have HRTK:Hid (RT[k]? = some (zCR vs con (whyP vs pts [⟨t.var,4,t.n⟩] g0))):=by show _=_;rw[HE.out,List.getElem?_map,ht];rfl
    subst he2;clear hr2 ht;have HBA:Hid (Below wr.heap.size wr ((wr.alloc (.cells #[.int .i64 t.var,.int .i64 t.op,.int .i64 t.n] 76)).alloc (.cells #[.int .i64 t.var,.int .i64 4,.int .i64 t.n] 76))):=(zAA _ _).alloc (by simp) _
    have HLA:Hid (LArg ((wr.alloc (.cells #[.int .i64 t.var,.int .i64 t.op,.int .i64 t.n] 76)).alloc (.cells #[.int .i64 t.var,.int .i64 4,.int .i64 t.n] 76)) (.slice (some ⟨wr.heap.size+1,0,none⟩) 1 1) [⟨t.var,4,t.n⟩]):=by
     have h1:LOwn (wr.heap.size+1) ((wr.alloc (.cells #[.int .i64 t.var,.int .i64 t.op,.int .i64 t.n] 76)).alloc (.cells #[.int .i64 t.var,.int .i64 4,.int .i64 t.n] 76)) (.slice (some ⟨wr.heap.size+1,0,none⟩) 1 1) [⟨t.var,4,t.n⟩]:=by
      have h2:=World.ownsRow_lit (base:=wr.heap.size+1) (e:=76) (size:=3) (wr.alloc (.cells #[.int .i64 t.var,.int .i64 t.op,.int .i64 t.n] 76)) #[.int .i64 t.var,.int .i64 4,.int .i64 t.n] 1 (by simp) (by unfold maxLen;omega) rfl
      rw[World.size_alloc] at h2;exact h2
     exact h1.arg
    go_wp2_with fail
    have HSA:=HBA.out.size;refine (zM8 vs HVO.out pt cs r _ pv cv w0 HRL.out con pts HP.out g0 HGW.out [⟨t.var,4,t.n⟩] (by simp) _ w.heap.size G ov2 (L++L2) (by rw[List.length_append,HLL2.out];omega) _ (hS2.out.below HBA.out) HLA.out ?_ ?_ ?_ ?_).mono ?_
    ·exact blk9 ((HBA.out.block _ (Array.getElem?_eq_some_iff.1 hbc.out).1).trans hbc.out) 0 _ rfl
    ·exact blk9 ((HBA.out.block _ (Array.getElem?_eq_some_iff.1 hbg.out).1).trans hbg.out) 0 _ rfl
    ·exact Nat.lt_of_lt_of_le (Array.getElem?_eq_some_iff.1 hbc.out).1 HBA.out.size
    ·exact Nat.lt_of_lt_of_le (Array.getElem?_eq_some_iff.1 hbg.out).1 HBA.out.size
    rintro e w6 ⟨rfl,ov6,x6,hx6,hS6,hf6⟩;have HNX1:Hid (¬(fun k=>k=w0.heap.size+1∨ov2.ownBlock=some k) w.heap.size):=fun hq=>by
     rcases hq with hq | hq
     ·have h1:=hS2.out.blk;rw[←hq,hbc.out] at h1;injection h1 with h1;injection h1 with _ h2;exact absurd h2 (by decide)
     ·exact zCC hS2.out.own hbc.out (by decide) hq
    have HNX2:Hid (¬(fun k=>k=w0.heap.size+1∨ov2.ownBlock=some k) G):=fun hq=>by
     rcases hq with hq | hq
     ·have h1:=hS2.out.blk;rw[←hq,hbg.out] at h1;injection h1 with h1;injection h1 with _ h2;exact absurd h2 (by decide)
     ·exact zCC hS2.out.own hbg.out (by decide) hq
    have HF6:Hid (Fr (fun k=>k=w0.heap.size+1∨ov2.ownBlock=some k) wr w6):=(Fr.below HBA.out).trans hf6
    have HS6:Hid (ReaS w0 r w6 ov6 (L++(L2++[x6]))):=by rw[←List.append_assoc];exact hS6
    have HM6:Hid ((L2++[x6]).map (·.1)=RT.take (k+1)):=by show _=_;rw[List.map_append,hmp.out,List.take_add_one,HRTK.out,←hx6];rfl
    have HO6:Hid (LOwn (w0.heap.size+2) w6 (.slice (some ⟨b2,o2,none⟩) l.length cy) l):=zEC hown.out HF6.out fun g hg hX=>by
     rcases hX with hX | hX
     ·have:=((show wr.ownsRow _ _ _ _ _ _ from hown.out).lt g hg).1;omega
     ·rcases zDG (show wr.ownsRow _ _ _ _ _ _ from hown.out) hS2.out.own (by decide) with h1 | h1
      ·rw[h1] at hg;cases hg
      ·exact h1 (by rw[hg,hX])
    have HC6:Hid (w6.heap[w.heap.size]? = some (.cells #[.int .i64 (con:Int)] 3)):=zPh HF6.out hbc.out HNX1.out;have HG6:Hid (w6.heap[G]? = some (.cells #[.int .u64 (g0:Int)] 136)):=zPh HF6.out hbg.out HNX2.out;clear hS6 hf6 hx6;go_wp2
    go_roundw
    case rel=>exact⟨k+1,by omega,by go_num,ov6,L2++[x6],HM6,HS6,HO6,HC6,HG6⟩
    case measure=>simp[intOf];omega
   ·have HFM:Hid (L2.map (·.1)=RT):=by
     have h1:=hmp.out;rw[List.take_of_length_le (by rw[HE.out,List.length_map];omega)] at h1
     exact h1
    go_wp2
    go_end0
    exact⟨rfl,ov2,L2,HFM.out,hS2.out⟩
theorem zKn (vs:List MVar) (pt:List (List Nat)) (t:Nat×Nat×Nat):(zA3 vs pt t).length≤36:=by
 unfold zA3
 split
 ·simp
 ·rw[List.length_map];exact zD7 _ _
theorem zKo (args:Array Value) (w':World):Sem.run Tryz.prog (callFunc 151 args) w'=.ok (.enter 151 args) w':=by
 simp[callFunc,go_sem,Tryz.func151,Tryz.f151]
def ReaI (vs:List MVar) (pt:List (List Nat)) (w0:World) (r:Nat) (T:List (Nat×Nat×Nat)) (w:World):Prop :=
 ∃ov L,ReaS w0 r w ov L∧L.map (·.1)=T.flatMap (zA3 vs pt)∧L.length≤36 * T.length∧T.length≤37
theorem zIN (vs:List MVar) (hva:zAQ vs) (pt:List (List Nat)) (cs:List Nat) (r:Nat) (sv pv cv:Value) (w0:World) (hR:RulesAt w0 r sv pv cv vs pt cs) :
 Teller 151 #[.pointer (some ⟨w0.heap.size,0,none⟩),.pointer (some ⟨w0.heap.size+1,0,none⟩)] vs pt (ReaI vs pt w0 r):=by
 refine⟨zKo,fun T w w' h hb=>?_,fun T con b a w h hT hcon hbw hab=>?_⟩
 ·obtain⟨ov,L,h1,h2⟩:=h
  exact⟨ov,L,h1.below hb,h2⟩
 ·obtain⟨ov,L,h1,h2,h3,h4⟩:=h
  refine (zPi vs hva pt cs r sv pv cv w0 hR con b a hcon hbw hab ov L (by omega) w h1).mono ?_
  rintro e w' ⟨rfl,ov',L',h5,h6⟩;refine⟨rfl,ov',L++L',h6,?_,?_,?_⟩
  ·rw[List.map_append,h2,h5,List.flatMap_append];simp
  ·have h7:=congrArg List.length h5
   rw[List.length_map] at h7;have h8:=zKn vs pt (con,b,a);rw[List.length_append,List.length_append,List.length_singleton];omega
  ·rw[List.length_append,List.length_singleton];omega
theorem zLy (vs:List MVar) (hva:zAQ vs) (hn1:1≤vs.length) (pt:List (List Nat)) (cs:List Nat) (h:Nat) (hh:h<2 ^ 36) (r:Nat) (sv pv cv:Value) (w:World) (hR:RulesAt w r sv pv cv vs pt cs) :
 Calls Tryz.prog 90 #[.pointer (some ⟨r,0,none⟩),.int .u64 h] w fun e w'=>∃v L,e=.returned v∧L.map (·.1)=zAu vs cs pt h∧ROwn w.heap.size w' v L∧(∀x∈L,LOwn w.heap.size w' x.2 x.1.1.cla)∧L.length≤1400∧Below w.heap.size w w':=by
 have HR:Hid (RulesAt w r sv pv cv vs pt cs):=hR;have HVO:Hid (zAQ vs):=hva;have H1:Hid (1≤vs.length):=hn1;have HH:Hid (h<2 ^ 36):=hh;have HI:Hid (ReaI vs pt w r [] ((w.alloc (.cells #[.pointer (some ⟨r,0,none⟩)] 71)).alloc (.cells #[.slice none 0 0] 142))):=by
  refine⟨.slice none 0 0,[],⟨?_,?_,World.ownsRow_nil _ _ _ _,(fun x hx=>by cases hx),?_⟩,rfl,by simp,by simp⟩
  ·exact ((zAA (w.alloc (.cells #[.pointer (some ⟨r,0,none⟩)] 71)) (.cells #[.slice none 0 0] 142)).block w.heap.size (by simp)).trans (heap_alloc_new w _)
  ·have h:=heap_alloc_new (w.alloc (.cells #[.pointer (some ⟨r,0,none⟩)] 71)) (.cells #[.slice none 0 0] 142)
   rw[World.size_alloc] at h;exact h
  ·exact (zAA _ _).alloc (by simp) _
 clear hR hva hn1 hh;go_enter Tryz.func90,Tryz.ntmps90
 go_wp2_with fail
 refine (zI2 vs HVO.out H1.out cs pt h HH.out r sv pv cv _ _ (ReaI vs pt w r) (zIN vs HVO.out pt cs r sv pv cv w HR.out) (fun T Y hY=>by obtain⟨ov,L,h1,_⟩:=hY;exact RulesAt.below h1.fr HR.out) _ HI.out).mono ?_
 rintro e w2 ⟨rfl,ov,L,hS,hmp,hl1,hl2⟩;have HS:Hid (ReaS w r w2 ov L):=hS;have HMP:Hid (L.map (·.1)=zAu vs cs pt h):=hmp
 have HLL:Hid (L.length≤1400):=by show _≤_;omega
 have k0:w2.cell? ⟨w.heap.size+1,0,none⟩=some ov:=blk9 hS.blk 0 _ rfl;obtain⟨ao,co,rfl⟩:=zAC (show w2.ownsRow _ _ _ _ _ _ from hS.own)
 clear hS hmp hl1 hl2;go_wp2
 go_ret
 exact⟨_,L,rfl,HMP.out,zDu (by omega) HS.out.own,fun x hx=>zBJ (by omega) (HS.out.cl x hx),HLL.out,HS.out.fr⟩
theorem zLz (l:List Nat) (hl:l.length≤200000) (u:Value) (w:World) (hu:PArg w u l) :
 Calls Tryz.prog 87 #[u] w fun e w'=>∃x,e=.returned x∧w'.ownsRow w.heap.size 136 1 x l.length (u64s l)∧Below w.heap.size w w':=by
 obtain⟨i0,hi0,hz0,hz1,hz2⟩:=info_parts Tryz.infoPart;have HU:Hid (∀w',Below w.heap.size w w'→PArg w' u l):=fun w' h=>PArg.below h hu
 have q22:∀(w:World) (a:Option Addr) (n c n' c':Nat),(binOp .eql 139 (.slice a n c) (.slice none n' c')).run Tryz.prog w=.ok (.bool a.isNone) w:=fun w a n c n' c'=>Lib.run_eql_slice_nil w _ _ a n c n' c' Tryz.underPart
 obtain⟨a,c,rfl,hm,hr⟩:=hu;cases a with
 | none =>
   have:l=[]:=by
    cases l with
    | nil=>rfl
    | cons z r=>obtain⟨_,b,off,hq,_⟩:=hr 0 z rfl;cases hq
   subst this;clear HU;go_enter Tryz.func87,Tryz.ntmps87
   go_wp2
   go_ret
   exact⟨_,rfl,World.ownsRow_nil _ _ _ _,Below.refl _ _⟩
 | some ad =>
   have HL:Hid (l.length≤200000):=hl;have HC:Hid (∀(j:Nat) (u:Value),(u64s l)[j]? = some u→(w.alloc (.cells #[] 136)).cell? (ad.add j)=some u):=fun j y hy=>by
    unfold u64s at hy;rw[List.getElem?_map] at hy;cases hz:l[j]? with
    | none=>rw[hz] at hy;cases hy
    | some z =>
      rw[hz] at hy;obtain⟨_,b,off,hq,hlt,hc⟩:=hr j z hz;cases hq
      rw[zEZ];have:y=.int .u64 (z:Int):=by simpa using hy.symm
      rw[this];exact ((zAA w _).cell (p:=⟨b,off+j,none⟩) hlt).trans hc
   have H1:Hid (∀u∈u64s l,u.oneCell'=true):=fun u hu=>by
    obtain⟨z,_,rfl⟩:=List.mem_map.1 hu;rfl
   have HFL:Hid ((u64s l).length=l.length * 1):=by show _=_;unfold u64s;simp
   have HM0:Hid ((w.alloc (.cells #[] 136)).ownsRow w.heap.size 136 1 (.slice (some ⟨w.heap.size,0,none⟩) 0 0) 0 []):=World.ownsRow_made w #[] 0 (Nat.le_refl _) (Nat.zero_le _) (by simp)
   clear hl hr hm;go_enter Tryz.func87,Tryz.ntmps87
   go_wp2_with (at_builtin;refine wpList_append_own _ rfl _ _ 139 rfl w.heap.size 136 i0 (.int .u64 0) 1 8 Tryz.underPart hi0 hz0 hz1 hz2 rfl (by decide) _ _ _ rfl HM0.out ad l.length c (u64s l) rfl HFL.out HC.out H1.out ?c1 ?c2 ?c3 ?_)
   case c1=>have:=HL.out;unfold maxLen;omega
   case c2=>have:=HL.out;omega
   case c3=>simp
   intro v3 w3 hown3 hgrow _;have HB3:Hid (Below w.heap.size w w3):=(zAA _ _).grown hgrow (by simp) (by intro k hk;simp[Value.ownBlock] at hk;omega)
   have HO3:Hid (w3.ownsRow w.heap.size 136 1 v3 l.length (u64s l)):=by show World.ownsRow _ _ _ _ _ _ _;simpa using hown3
   obtain⟨av,cv,rfl⟩:=zAC hown3;clear hown3 hgrow;go_wp2
   go_ret
   exact⟨_,by simp,HO3.out,HB3.out⟩
theorem zGn {w:World} {v:Value} {c:List RV} (h:zGN w v c) (k:Nat) (x:RV) (hx:c[k]? = some x):∃a n cc b off,v=.slice a n cc∧n=c.length∧n≤cc∧cc≤maxLen∧a=some ⟨b,off,none⟩∧b<w.heap.size ∧
 w.cell? ⟨b,off+k * 4,none⟩=some (.int .i64 x.1.1.kind)∧w.cell? ⟨b,off+k * 4+1,none⟩=some (.int .i64 x.1.1.con)∧w.cell? ⟨b,off+k * 4+2,none⟩=some x.2∧w.cell? ⟨b,off+k * 4+3,none⟩=some (.int .u64 (x.1.2:Int)):=by
 obtain⟨a,cc,hv,hm,hr⟩:=h;have hk:k<c.length:=(List.getElem?_eq_some_iff.1 hx).1;have hw:=zDd c;have get:∀(j:Nat) (u:Value),j<4→(zA8 x)[j]? = some u→((c.map zA8).flatten)[k * 4+j]? = some u:=by
  intro j u hj hu;have h1:(((c.map zA8).flatten).drop (k * 4))[j]? = some u:=by
   rw[zEi 4 k _ hw,←List.map_drop,List.drop_eq_getElem_cons hk];have e:c[k]=x:=by rw[List.getElem?_eq_getElem hk] at hx;exact Option.some.inj hx
   rw[List.map_cons,List.flatten_cons,e,List.getElem?_append_left (by show j<4;exact hj)]
   exact hu
  rw[List.getElem?_drop] at h1;exact h1
 obtain⟨b,off,ha,hlt,c0⟩:=hr _ _ (get 0 _ (by omega) rfl)
 obtain⟨b1,o1,ha1,_,c1⟩:=hr _ _ (get 1 _ (by omega) rfl)
 obtain⟨b2,o2,ha2,_,c2⟩:=hr _ _ (get 2 _ (by omega) rfl)
 obtain⟨b3,o3,ha3,_,c3⟩:=hr _ _ (get 3 _ (by omega) rfl)
 rw[ha] at ha1 ha2 ha3;cases ha1;cases ha2;cases ha3
 rw[List.length_map] at hv hm;exact⟨a,_,cc,b,off,hv,rfl,hm.1,hm.2,ha,hlt,c0,by rw[Nat.add_assoc];exact c1,by rw[Nat.add_assoc];exact c2,by rw[Nat.add_assoc];exact c3⟩
theorem zKp (x y z:Value) (w:World):Calls Tryz.prog 198 #[x,y,z] w fun e w'=>e=.returned (.tuple #[])∧w'=w:=by
 go_enter Tryz.func198,Tryz.ntmps198
 go_wp2
 go_end0
 exact⟨rfl,rfl⟩
theorem zH0 (args:Array Value) (w':World):Sem.run Tryz.prog (callFunc 198 args) w'=.ok (.enter 198 args) w':=by
 simp[callFunc,go_sem,Tryz.func198,Tryz.f198]
theorem zL0 (vs:List MVar) (pt:List (List Nat)) (W:World):Teller 198 #[] vs pt (fun _ w=>Below W.heap.size W w) :=
 ⟨zH0,fun _ _ _ h hb=>h.trans (hb.mono h.size),fun _ _ _ _ w h _ _ _ _=>(zKp _ _ _ w).mono fun _ _ ⟨h1,h2⟩=>⟨h1,by rw[h2];exact h⟩⟩
theorem zKq (vs:List MVar) (hva:zAQ vs) (hn1:1≤vs.length) (cs:List Nat) (pt:List (List Nat)) (cl:Cla) (r:Nat) (sv pv cv u:Value) (w:World) (hR:RulesAt w r sv pv cv vs pt cs) (hu:LArg w u cl) :
 Calls Tryz.prog 123 #[.pointer (some ⟨r,0,none⟩),u] w fun e w'=>e=.returned (.int .u64 ((zBU vs cs pt (zAH vs cl):Nat):Int))∧Below w.heap.size w w':=by
 have HR:Hid (RulesAt w r sv pv cv vs pt cs):=hR;have HU:Hid (LArg w u cl):=hu;have HVO:Hid (zAQ vs):=hva;have H1:Hid (1≤vs.length):=hn1;have g0:=hR.c0;obtain⟨h,hh⟩:∃h,zAH vs cl=h:=⟨_,rfl⟩;have HH:Hid (zAH vs cl=h):=hh;have HH36:Hid (h<2 ^ 36):=by rw[←hh];exact zFi vs hva.1 _
 rw[hh];obtain⟨a,c,rfl,_,_⟩:=hR.hv;obtain⟨a2,c2,rfl,_,_⟩:=hu;clear hR hva hn1 hh;go_enter Tryz.func123,Tryz.ntmps123
 go_wp2_with fail
 refine (zCm vs HVO.out cl _ _ _ HR.out.hv HU.out).mono ?_;rintro e w1 ⟨rfl,hb1⟩;rw[HH.out];have HB1:Hid (Below w.heap.size w w1):=hb1;clear hb1 g0;go_wp2_with fail
 refine (zI2 vs HVO.out H1.out cs pt h HH36.out r _ pv cv _ #[] _ (zL0 vs pt w) (fun T Y hY=>RulesAt.below hY HR.out) _ HB1.out).mono ?_
 rintro e w2 ⟨rfl,hb2⟩;have HB2:Hid (Below w.heap.size w w2):=hb2;clear hb2;go_wp2
 go_ret
 exact⟨rfl,HB2.out⟩
theorem zH1 (vs:List MVar) (hva:zAQ vs) (hn1:1≤vs.length) (cs:List Nat) (pt:List (List Nat)) (cl:Cla) (r bx:Nat) (sv pv cv u:Value) (w:World) (hR:RulesAt w r sv pv cv vs pt cs) (hu:LArg w u cl) (hx:w.cell? ⟨bx,0,none⟩=some (.pointer (some ⟨r,0,none⟩))) :
 Calls Tryz.prog 141 #[u,.pointer (some ⟨bx,0,none⟩)] w fun e w'=>e=.returned (.bool (zBB vs cs pt cl))∧Below w.heap.size w w':=by
 have HR:Hid (RulesAt w r sv pv cv vs pt cs):=hR;have HU:Hid (LArg w u cl):=hu;have HVO:Hid (zAQ vs):=hva;have H1:Hid (1≤vs.length):=hn1;obtain⟨B,hB⟩:∃B,zBB vs cs pt cl=B:=⟨_,rfl⟩;obtain⟨N,hN⟩:∃N:Nat,zBU vs cs pt (zAH vs cl)=N:=⟨_,rfl⟩;have HN:Hid (zBU vs cs pt (zAH vs cl)=N):=hN;have HB:Hid (B=((N:Int)==0)):=by
  show _=_;rw[←hB];unfold zBB;rw[hN];by_cases h0:N=0
  ·rw[h0];rfl
  ·have h1:((N:Int)==0)=false:=by simpa using h0
   rw[h1];simpa using h0
 rw[hB];obtain⟨a2,c2,rfl,_,_⟩:=hu;clear hR hva hn1 hB hN;go_enter Tryz.func141,Tryz.ntmps141
 go_wp2_with fail
 refine (zKq vs HVO.out H1.out cs pt cl r sv pv cv _ _ HR.out HU.out).mono ?_;rintro e w1 ⟨rfl,hb1⟩;rw[HN.out];have HB1:Hid (Below w.heap.size w w1):=hb1;clear hb1 hx;go_wp2
 go_ret
 exact⟨zAD HB.out.symm,HB1.out⟩
theorem zIO (args:Array Value) (w':World):Sem.run Tryz.prog (callFunc 141 args) w'=.ok (.enter 141 args) w':=by
 simp[callFunc,go_sem,Tryz.func141,Tryz.f141]
def zKr (vs:List MVar) (cs:List Nat) (pt:List (List Nat)) (c:Cla):Cla×Bool:=if zBB vs cs pt c then (zBz vs cs pt c,true) else ([],false)
theorem zN8 (vs:List MVar) (hva:zAQ vs) (hn1:1≤vs.length) (cs:List Nat) (pt:List (List Nat)) (cl:Cla) (hcl:cl.length≤900) (r:Nat) (sv pv cv u:Value) (w:World) (hR:RulesAt w r sv pv cv vs pt cs) (hu:LArg w u cl) :
 Calls Tryz.prog 84 #[.pointer (some ⟨r,0,none⟩),u] w fun e w'=>∃x,e=.returned (.tuple #[x,.bool (zKr vs cs pt cl).2])∧LOwn w.heap.size w' x (zKr vs cs pt cl).1∧Below w.heap.size w w':=by
 have HR:Hid (∀Y,Below w.heap.size w Y→RulesAt Y r sv pv cv vs pt cs):=fun Y hY=>RulesAt.below hY hR
 have HU:Hid (∀Y,Below w.heap.size w Y→LArg Y u cl):=fun Y hY=>LArg.below hY hu
 have HVO:Hid (zAQ vs):=hva;have H1:Hid (1≤vs.length):=hn1;have HCL:Hid (cl.length≤900):=hcl;obtain⟨R,hRR⟩:∃R,zKr vs cs pt cl=R:=⟨_,rfl⟩;obtain⟨B,hB⟩:∃B,zBB vs cs pt cl=B:=⟨_,rfl⟩;have HE:Hid (R=if B then (zBz vs cs pt cl,true) else ([],false)):=by show _=_;rw[←hRR,←hB];rfl
 have HBE:Hid (zBB vs cs pt cl=B):=hB;rw[hRR];obtain⟨a2,c2,rfl,_,_⟩:=hu;have HX:Hid (∀Y,Below (w.alloc (.cells #[.pointer (some ⟨r,0,none⟩)] 71)).heap.size (w.alloc (.cells #[.pointer (some ⟨r,0,none⟩)] 71)) Y→Y.cell? ⟨w.heap.size,0,none⟩=some (.pointer (some ⟨r,0,none⟩))):=fun Y hY=>(hY.cell (by simp)).trans (World.cell?_alloc_at _ _ _ 0 (by simp))
 clear hR hva hn1 hB hRR hcl;go_enter Tryz.func84,Tryz.ntmps84
 go_wp2_with fail
 refine (zH1 vs HVO.out H1.out cs pt cl r w.heap.size sv pv cv _ _ (HR.out _ (zAA _ _)) (HU.out _ (zAA _ _)) (HX.out _ (Below.refl _ _))).mono ?_;rintro e w1 ⟨rfl,hb1⟩;rw[HBE.out];have HBA:Hid (Below (w.alloc (.cells #[.pointer (some ⟨r,0,none⟩)] 71)).heap.size (w.alloc (.cells #[.pointer (some ⟨r,0,none⟩)] 71)) w1):=hb1;have HB1:Hid (Below w.heap.size w w1):=(zAA _ _).trans (hb1.mono (by simp))
 clear hb1;cases B
 ·have HE2:Hid (R=([],false)):=HE.out
  go_wp2
  go_ret2
  exact⟨_,by rw[HE2.out];rfl,by rw[HE2.out];exact World.ownsRow_nil _ _ _ _,HB1.out⟩
 ·have HE2:Hid (R=(zBz vs cs pt cl,true)):=HE.out
  go_wp2_with fail
  refine (zN6 141 #[.pointer (some ⟨w.heap.size,0,none⟩)] (zBB vs cs pt) cl HCL.out _ _ (HU.out _ HB1.out) ⟨zIO,fun c v Y hc hY hv=>?_⟩).mono ?_
  ·have hYA:=HBA.out.trans (hY.mono HBA.out.size)
   have hYW:=HB1.out.trans (hY.mono HB1.out.size);exact zH1 vs HVO.out H1.out cs pt c r w.heap.size sv pv cv _ _ (HR.out _ hYW) hv (HX.out _ hYA)
  rintro e w2 ⟨x,rfl,hx,hb2⟩;have HO:Hid (LOwn w.heap.size w2 x (zBz vs cs pt cl)):=zBJ HB1.out.size hx;have HB2:Hid (Below w.heap.size w w2):=HB1.out.trans (hb2.mono HB1.out.size);obtain⟨ax,cx,rfl⟩:=zAC (show w2.ownsRow _ _ _ _ _ _ from hx)
  clear hx hb2;go_wp2
  go_ret2
  exact⟨_,by rw[HE2.out];rfl,by rw[HE2.out];exact HO.out,HB2.out⟩
end Go.Proofs.YtndcpnlaadikoaaGreatDoor
