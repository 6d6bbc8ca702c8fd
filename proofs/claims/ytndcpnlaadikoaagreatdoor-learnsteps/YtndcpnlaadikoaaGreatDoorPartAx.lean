/- What the proof leans on, part 24. -/
import Derived.Test.YtndcpnlaadikoaaGreatDoorPartAu
import Derived.Test.YtndcpnlaadikoaaGreatDoorPartAw
namespace Go.Proofs.YtndcpnlaadikoaaGreatDoor
open Go.RowKit
structure ReaS (w0:World) (r:Nat) (w:World) (ov:Value) (L:List RV):Prop where
 blk0:w.heap[w0.heap.size]? = some (.cells #[.pointer (some ⟨r,0,none⟩)] 71)
 blk:w.heap[w0.heap.size+1]? = some (.cells #[ov] 142)
 own:ROwn (w0.heap.size+2) w ov L
 cl:∀x∈L,LOwn (w0.heap.size+2) w x.2 x.1.1.cla
 fr:Below w0.heap.size w0 w
theorem ReaS.below {w0 w w':World} {r:Nat} {ov:Value} {L:List RV} (h:ReaS w0 r w ov L) (hb:Below w.heap.size w w'):ReaS w0 r w' ov L :=
 ⟨(hb.block _ (Array.getElem?_eq_some_iff.1 h.blk0).1).trans h.blk0,(hb.block _ (Array.getElem?_eq_some_iff.1 h.blk).1).trans h.blk,zAD h.own hb,fun x hx=>zAD (h.cl x hx) hb,h.fr.trans (hb.mono h.fr.size)⟩
theorem zFW {w:World} {B b:Nat} {e t:TypeId} {s n:Nat} {v:Value} {xs:List Value} {cs:Array Value} (h:w.ownsRow B e s v n xs) (hb:w.heap[b]? = some (.cells cs t)) (hne:t≠e):v.ownBlock≠some b:=by
 intro he
 rcases h.2 with ⟨rfl,_⟩ | ⟨g,cap,cur,rfl,_,hh,_⟩
 ·cases he
 ·have:g=b:=by injection he
  subst this
  rw[hh] at hb
  injection hb with h1
  injection h1 with _ h2
  exact hne h2.symm
theorem zIt (w:World) (x:RV):∀(j:Nat) (u:Value),(zAj x)[j]? = some u→(w.alloc (.cells #[.int .i64 x.1.1.kind,.int .i64 x.1.1.con,x.2,.int .u64 (x.1.2:Int)] 145)).cell? ((⟨w.heap.size,0,none⟩:Addr).add j)=some u:=by
 intro j u hj
 match j,hj with
 | 0,hj=>simp[zAj] at hj;subst hj;simp[Addr.add]
 | 1,hj=>simp[zAj] at hj;subst hj;simp[Addr.add]
 | 2,hj=>simp[zAj] at hj;subst hj;simp[Addr.add]
 | 3,hj=>simp[zAj] at hj;subst hj;simp[Addr.add]
theorem ReaS.push {w0 w w1 w2:World} {r:Nat} {ov v':Value} {L:List RV} {x:RV} {n:Nat} (h:ReaS w0 r w ov L) (hb:Below w.heap.size w w1) (hx:LOwn (w0.heap.size+2) w1 x.2 x.1.1.cla) (hg:w1.grownBy w2 ov.ownBlock) (hn:n=L.length+1) (ho:w2.ownsRow (w0.heap.size+2) 145 4 v' n ((L.map zAj).flatten++zAj x)) :
 ReaS w0 r (w2.setCell ⟨w0.heap.size+1,0,none⟩ v') v' (L++[x])∧Fr (fun k=>k=w0.heap.size+1∨ov.ownBlock=some k) w (w2.setCell ⟨w0.heap.size+1,0,none⟩ v'):=by
 have h1:=h.below hb
 have hb2:w2.heap[w0.heap.size+1]? = some (.cells #[ov] 142):=zB0 h1.blk hg h1.own (by decide)
 have ho2:ROwn (w0.heap.size+2) w2 v' (L++[x]):=by
  show World.ownsRow _ _ _ _ _ _ _
  rw[List.length_append,List.length_singleton,←hn,List.map_append,List.flatten_append]
  simpa using ho
 refine⟨⟨?_,?_,zGz ho2 hb2 (by decide) 0 _,fun y hy=>?_,?_⟩,?_⟩
 ·exact (Below.heap_setCell _ _ _ _ (by simp)).trans (zB0 h1.blk0 hg h1.own (by decide))
 ·rw[heap_setCell_same w2 _ 0 _ _ v' hb2];rfl
 ·rcases List.mem_append.1 hy with h3 | h3
  ·exact zGz (zBe (h1.cl y h3) hg h1.own (by decide)) hb2 (by decide) 0 _
  ·rw[List.mem_singleton.1 h3]
   exact zGz (zBe hx hg h1.own (by decide)) hb2 (by decide) 0 _
 ·exact (h1.fr.grown hg h1.fr.size (fun k hk=>by have:=(h1.own.lt k hk).1;omega)).setCell (show w0.heap.size≤w0.heap.size+1 by omega) _
 ·exact Fr.setX (X:=fun k=>k=w0.heap.size+1∨ov.ownBlock=some k) ((Fr.below hb).grown hg (fun k hk=>Or.inl (Or.inr hk))) (p:=⟨w0.heap.size+1,0,none⟩) (Or.inl rfl) _
set_option maxHeartbeats 6400000 in
set_option maxRecDepth 100000 in
theorem zJe (vs:List MVar) (hva:zAU vs) (pt:List (List Nat)) (cs:List Nat) (r:Nat) (sv pv cv:Value) (w0:World) (hR:RulesAt w0 r sv pv cv vs pt cs) (con:Nat) (pts:List Nat) (hcon:pt[con]? = some pts) (g0:Nat) (hgw:∀i,g0.testBit i=true→(zAC vs).testBit i=true)
 (any:Cla) (hla:any.length≤100) (u:Value) (bc bg:Nat) (ov:Value) (L:List RV) (hLL:L.length≤8000) (w:World) (hS:ReaS w0 r w ov L) (hu:LArg w u any)
 (hc:w.cell? ⟨bc,0,none⟩=some (.int .i64 con)) (hg:w.cell? ⟨bg,0,none⟩=some (.int .u64 g0)) (hlc:bc<w.heap.size) (hlg:bg<w.heap.size) :
 Calls Tryz.prog 152 #[u,.pointer (some ⟨w0.heap.size,0,none⟩),.pointer (some ⟨bc,0,none⟩),.pointer (some ⟨bg,0,none⟩),.pointer (some ⟨w0.heap.size+1,0,none⟩)] w fun e w'=>e=.returned (.tuple #[]) ∧
  ∃ov' x,x.1=zBd vs con (whyP vs pts any g0)∧ReaS w0 r w' ov' (L++[x])∧Fr (fun k=>k=w0.heap.size+1∨ov.ownBlock=some k) w w':=by
 obtain⟨i0,hi0,hz0,hz1,hz2⟩:=info_parts Tryz.infoReason
 have HS:Hid (ReaS w0 r w ov L):=hS
 have hb1:w.cell? ⟨w0.heap.size,0,none⟩=some (.pointer (some ⟨r,0,none⟩)):=blk9 hS.blk0 0 _ rfl
 have hl1:w0.heap.size+1<w.heap.size:=(Array.getElem?_eq_some_iff.1 hS.blk).1
 have HR:Hid (∀Y,Below w.heap.size w Y→RulesAt Y r sv pv cv vs pt cs):=fun Y hY=>RulesAt.below (hS.fr.trans (hY.mono hS.fr.size)) hR
 have HU:Hid (∀Y,Below w.heap.size w Y→LArg Y u any):=fun Y hY=>LArg.below hY hu
 have HVO:Hid (zAU vs):=hva
 have HLA:Hid (any.length≤100):=hla
 have HGW:Hid (∀i,g0.testBit i=true→(zAC vs).testBit i=true):=hgw
 have hRW:=RulesAt.below hS.fr hR
 have r0:=hRW.c0
 have r1:=hRW.c1
 have rl:=hRW.lt
 obtain⟨a1,c1,rfl,_,_⟩:=hRW.hv
 obtain⟨a2,c2,rfl,hm2,hr2⟩:=hRW.hp
 have hct:con<pt.length:=(List.getElem?_eq_some_iff.1 hcon).1
 obtain⟨b,off,x,rfl,hb,hcx,hpx⟩:=hr2 con pts hcon
 have HPX:Hid (∀Y,Below w.heap.size w Y→PArg Y x pts):=fun Y hY=>PArg.below hY hpx
 obtain⟨a3,c3,rfl,_,_⟩:=hpx
 obtain⟨ao,co,rfl⟩:=zAE (show w.ownsRow _ _ _ _ _ _ from hS.own)
 obtain⟨a4,c4,rfl,_,_⟩:=hu
 unfold maxLen at hm2
 obtain⟨hm21,hm22⟩:=hm2
 obtain⟨C,hC⟩:∃C,whyP vs pts any g0=C:=⟨_,rfl⟩
 have HC:Hid (whyP vs pts any g0=C):=hC
 obtain⟨h,hh⟩:∃h,zAF vs C=h:=⟨_,rfl⟩
 have HRO:Hid (zBd vs con (whyP vs pts any g0)=(⟨1,(con:Int),C⟩,h)):=by show _=_;rw[hC,←hh];rfl
 have HH:Hid (zAF vs C=h):=hh
 rw[HRO.out]
 have HWY:Hid (∀Y,Below w.heap.size w Y→Calls Tryz.prog 153 #[.slice a1 (List.length vs) c1,.slice a3 (List.length pts) c3,.slice a4 (List.length any) c4,.int .u64 (g0:Int)] Y fun e w'=>∃x,e=.returned x∧LOwn Y.heap.size w' x C∧Below Y.heap.size Y w'):=fun Y hY=>by
  rw[←HC.out]
  exact zNg vs HVO.out pts any HLA.out g0 HGW.out _ _ _ Y (HR.out Y hY).hv (HPX.out Y hY) (HU.out Y hY) (HR.out Y hY).tab
 have HO2:Hid (∀Y,Below w.heap.size w Y→Y.cell? ⟨w0.heap.size+1,0,none⟩=some (.slice ao L.length co)):=fun Y hY=>blk9 (hS.below hY).blk 0 _ rfl
 have o2:=HO2.out w (Below.refl _ _)
 clear hva hla hgw hS hR hRW hr2 hcon hC hh
 go_enter Tryz.func152,Tryz.ntmps152
 go_wp2_with fail
 go_region_held3 (fun w'=>Below w.heap.size w w'∧w'.cell? ⟨w0.heap.size,0,none⟩=some (.pointer (some ⟨r,0,none⟩))∧w'.cell? ⟨r,0,none⟩=some (.slice a1 (List.length vs) c1)∧w'.cell? ⟨r,1,none⟩=some (.slice (some ⟨b,off,none⟩) (List.length pt) c2)∧w'.cell? ⟨bc,0,none⟩=some (.int .i64 con)∧w'.cell? ⟨bg,0,none⟩=some (.int .u64 g0)∧w'.cell? ⟨b,off+con,none⟩=some (.slice a3 (List.length pts) c3))
  ((refine (fun (hB:Below w.heap.size w _)=>⟨hB,(hB.cell (p:=⟨w0.heap.size,0,none⟩) (Nat.lt_of_succ_lt hl1)).trans hb1,(hB.cell (p:=⟨r,0,none⟩) rl).trans r0,(hB.cell (p:=⟨r,1,none⟩) rl).trans r1,(hB.cell (p:=⟨bc,0,none⟩) hlc).trans hc,(hB.cell (p:=⟨bg,0,none⟩) hlg).trans hg,(hB.cell (p:=⟨b,off+con,none⟩) hb).trans hcx⟩:Below w.heap.size w _→_) ?_;first | exact (Below.refl _ _).drew | exact zBv (by assumption) hbq))
  (first
    | (go_at_call 153;refine (HWY.out _ (show Below w.heap.size w _∧_ by assumption).1).mono ?_;rintro e w3 ⟨xc,rfl,hxc,hbq⟩;obtain⟨ac,cc,rfl⟩:=zAE (show w3.ownsRow _ _ _ _ _ _ from hxc);obtain⟨base,HBASE,HXC⟩:∃base,Hid (base=_)∧Hid (LOwn base w3 (.slice ac (List.length C) cc) C):=⟨_,rfl,hxc⟩;clear hxc;have hB3:=zBv (by assumption) hbq))
 have hbase:w0.heap.size+2≤base:=by have e:base=w.heap.size:=HBASE.out;omega
 have HXC2:Hid (LOwn (w0.heap.size+2) w3 (.slice ac (List.length C) cc) C):=zAw hbase HXC.out
 have HB3:Hid (Below w.heap.size w w3):=hB3
 have q1:=(hB3.cell (p:=⟨w0.heap.size,0,none⟩) (Nat.lt_of_succ_lt hl1)).trans hb1
 have q2:=(hB3.cell (p:=⟨r,0,none⟩) rl).trans r0
 have q3:=(hB3.cell (p:=⟨bc,0,none⟩) hlc).trans hc
 have q4:=HO2.out w3 hB3
 have s3:=hB3.size
 have l1:w0.heap.size+1<w3.heap.size:=by omega
 have l2:r<w3.heap.size:=by omega
 clear hbq hB3 HBASE HXC hbase hb1 r0 r1 hc hg hcx o2
 go_upto_region 2 with (fail)
 have HBS:Hid (Below w3.heap.size w3 (w3.alloc (.cells #[.int .i64 1,.int .i64 con,.slice ac (List.length C) cc] 39))):=zAA _ _
 have t0:(w3.alloc (.cells #[.int .i64 1,.int .i64 con,.slice ac (List.length C) cc] 39)).cell? ⟨w3.heap.size,0,none⟩=some (.int .i64 1):=World.cell?_alloc_at _ _ _ 0 (by simp)
 have t1:(w3.alloc (.cells #[.int .i64 1,.int .i64 con,.slice ac (List.length C) cc] 39)).cell? ⟨w3.heap.size,1,none⟩=some (.int .i64 con):=World.cell?_alloc_at _ _ _ 1 (by simp)
 have t2:(w3.alloc (.cells #[.int .i64 1,.int .i64 con,.slice ac (List.length C) cc] 39)).cell? ⟨w3.heap.size,2,none⟩=some (.slice ac (List.length C) cc):=World.cell?_alloc_at _ _ _ 2 (by simp)
 have tl:w3.heap.size<(w3.alloc (.cells #[.int .i64 1,.int .i64 con,.slice ac (List.length C) cc] 39)).heap.size:=by simp
 obtain⟨B,hB⟩:∃B,w3.heap.size=B:=⟨_,rfl⟩
 rw[hB] at t0 t1 t2 tl ⊢
 obtain⟨V,hV⟩:∃V,w3.alloc (.cells #[.int .i64 1,.int .i64 con,.slice ac (List.length C) cc] 39)=V:=⟨_,rfl⟩
 rw[hV] at HBS t0 t1 t2 tl ⊢
 have HBV:Hid (Below w.heap.size w V):=HB3.out.trans (HBS.out.mono HB3.out.size)
 have k1:=(HBS.out.cell (p:=⟨w0.heap.size,0,none⟩) (Nat.lt_of_succ_lt l1)).trans q1
 have k2:=(HBS.out.cell (p:=⟨r,0,none⟩) l2).trans q2
 have k4:=(HBS.out.cell (p:=⟨w0.heap.size+1,0,none⟩) l1).trans q4
 have HSV:Hid (ReaS w0 r V (.slice ao L.length co) L):=HS.out.below HBV.out
 have HXV:Hid (LOwn (w0.heap.size+2) V (.slice ac (List.length C) cc) C):=zAD HXC2.out HBS.out
 have HHE:Hid (∀Y,Below V.heap.size V Y→Calls Tryz.prog 85 #[.slice a1 (List.length vs) c1,.slice ac (List.length C) cc] Y fun e w'=>e=.returned (.int .u64 (h:Int))∧Below Y.heap.size Y w'):=fun Y hY=>by
  rw[←HH.out];exact zD8 vs HVO.out C _ _ Y (HR.out Y (HBV.out.trans (hY.mono HBV.out.size))).hv (LArg.below hY HXV.out.arg)
 have vl1:w0.heap.size+1<V.heap.size:=Nat.lt_of_lt_of_le l1 HBS.out.size
 have vl2:r<V.heap.size:=Nat.lt_of_lt_of_le l2 HBS.out.size
 have vlB:B<V.heap.size:=tl
 clear hB hV q1 q2 q3 q4 s3 tl
 go_region_law
  (first
    | (rw[if_pos (by rfl)];refine wp_append_own _ _ _ 142 rfl (w0.heap.size+2) 145 i0 _ 4 48 zBh hi0 hz0 hz1 hz2 rfl (by decide) _ _ _ rfl (hw5.alloc _) ⟨w5.heap.size,0,none⟩ 1 1 (zAj ((⟨1,(con:Int),C⟩,h),.slice ac (List.length C) cc)) rfl rfl (zIt w5 ((⟨1,(con:Int),C⟩,h),.slice ac (List.length C) cc)) (by intro u hu;simp[zAj] at hu;rcases hu with rfl | rfl | rfl | rfl <;> rfl) ?_ ?_ ?_ ?_;(unfold maxLen;omega);omega;(have:=hB5.size;simp;omega);intro v6 w6 hown6 hg6 _;have hP:=ReaS.push (x:=((⟨1,(con:Int),C⟩,h),.slice ac (List.length C) cc)) HSV.out (hB5.alloc hB5.size (.cells #[.int .i64 1,.int .i64 con,.slice ac (List.length C) cc,.int .u64 (h:Int)] 145)) (zAD HXV.out (hB5.alloc hB5.size _)) hg6 rfl hown6;have hk6:=zB0 (HSV.out.below (hB5.alloc hB5.size (.cells #[.int .i64 1,.int .i64 con,.slice ac (List.length C) cc,.int .u64 (h:Int)] 145))).blk hg6 (hw5.alloc _) (by decide);obtain⟨a9,b9,hv9⟩:=zAE hown6;subst hv9;have d2:w6.cell? ⟨w0.heap.size+1,0,none⟩=some (.slice ao L.length co):=blk9 hk6 0 _ rfl;have z2:w6.frozen? ⟨w0.heap.size+1,0,none⟩=false:=frz9 hk6 0)
    | (rw[if_pos (by rfl)];go_simp;go_at_call 85;refine (HHE.out _ (Below.refl _ _).drew).mono ?_;rintro e w5 ⟨rfl,hb5⟩;have hB5:Below V.heap.size V w5:=(Below.refl _ _).drew.trans hb5;have c5:w5.cell? ⟨w0.heap.size+1,0,none⟩=some (.slice ao L.length co):=(hB5.cell (p:=⟨w0.heap.size+1,0,none⟩) vl1).trans k4;have u0:=(hB5.cell (p:=⟨B,0,none⟩) vlB).trans t0;have u1:=(hB5.cell (p:=⟨B,1,none⟩) vlB).trans t1;have u2:=(hB5.cell (p:=⟨B,2,none⟩) vlB).trans t2;have hw5:w5.ownsRow (w0.heap.size+2) 145 4 (.slice ao L.length co) L.length (L.map zAj).flatten:=zAD HSV.out.own hB5;have l5:w0.heap.size+1<w5.heap.size:=Nat.lt_of_lt_of_le vl1 hB5.size;have lB5:B<w5.heap.size:=Nat.lt_of_lt_of_le vlB hB5.size;dsimp only))
 all_goals
  have HF:Hid (Fr (fun k=>k=w0.heap.size+1∨(Value.slice ao L.length co).ownBlock=some k) w _):=(Fr.below HBV.out).trans hP.2
  go_wp2
  go_end0
  exact⟨rfl,_,_,rfl,hP.1,HF.out⟩
theorem zLd {X:Nat→Prop} {w w':World} {b:Nat} {cs:Array Value} {t:TypeId} (hf:Fr X w w') (hb:w.heap[b]? = some (.cells cs t)) (hx:¬X b):w'.heap[b]? = some (.cells cs t) :=
 (hf.block b (Array.getElem?_eq_some_iff.1 hb).1 hx).trans hb
theorem zFX (vs:List MVar) (pt:List (List Nat)) (con b:Nat) (pts:List Nat) (h:pt[con]? = some pts):zAi vs pt (con,b,0)=[zBd vs con (whyP vs pts [] (zAJ (zAC vs) b))]:=by
 unfold zAi
 rw[if_pos rfl]
 simp only[List.getD_eq_getElem?_getD,h];rfl
theorem zHr (vs:List MVar) (pt:List (List Nat)) (con b a:Nat) (ha:a≠0) (pts:List Nat) (h:pt[con]? = some pts):zAi vs pt (con,b,a)=(zBP vs (zAJ b a)).map fun l=>zBd vs con (whyP vs pts [⟨l.var,4,l.n⟩] (zAJ (zAC vs) b)):=by
 unfold zAi
 rw[if_neg ha]
 simp only[List.getD_eq_getElem?_getD,h];rfl
set_option maxHeartbeats 6400000 in
set_option maxRecDepth 100000 in
theorem zLe (vs:List MVar) (hva:zAU vs) (pt:List (List Nat)) (cs:List Nat) (r:Nat) (sv pv cv:Value) (w0:World) (hR:RulesAt w0 r sv pv cv vs pt cs) (con b a:Nat) (hcon:con<pt.length) (hbw:∀i,b.testBit i=true→(zAC vs).testBit i=true) (hab:∀i,a.testBit i=true→b.testBit i=true)
 (ov:Value) (L:List RV) (hLL:L.length≤7000) (w:World) (hS:ReaS w0 r w ov L) :
 Calls Tryz.prog 151 #[.int .i64 con,.int .u64 b,.int .u64 a,.pointer (some ⟨w0.heap.size,0,none⟩),.pointer (some ⟨w0.heap.size+1,0,none⟩)] w fun e w'=>e=.returned (.tuple #[]) ∧
  ∃ov' L',L'.map (·.1)=zAi vs pt (con,b,a)∧ReaS w0 r w' ov' (L++L'):=by
 obtain⟨pts,hpts⟩:∃pts,pt[con]? = some pts:=⟨pt[con],by simp[hcon]⟩
 have HP:Hid (pt[con]? = some pts):=hpts
 have HRL:Hid (RulesAt w0 r sv pv cv vs pt cs):=hR
 have HS:Hid (ReaS w0 r w ov L):=hS
 have HVO:Hid (zAU vs):=hva
 have HBW:Hid (∀i,b.testBit i=true→(zAC vs).testBit i=true):=hbw
 have HW36:Hid (zAC vs<2 ^ 36):=zEV vs hva.1 _
 have HB36:Hid (b<2 ^ 36):=Nat.lt_of_le_of_lt (Nat.le_of_testBit hbw) HW36.out
 have HA36:Hid (a<2 ^ 36):=Nat.lt_of_le_of_lt (Nat.le_of_testBit hab) HB36.out
 obtain⟨q,hq⟩:∃q,zAC vs=q:=⟨_,rfl⟩
 have HQ:Hid (zAC vs=q):=hq
 obtain⟨g0,hg0⟩:∃g0,zAJ (zAC vs) b=g0:=⟨_,rfl⟩
 have hbits:=zAY (zAC vs) b (by have:=HW36.out;omega) (by have:=HB36.out;omega)
 rw[hg0,hq] at hbits
 have HGW:Hid (∀i,g0.testBit i=true→(zAC vs).testBit i=true):=fun i hi=>by
  rw[←hg0,zAW,Bool.and_eq_true] at hi
  exact hi.1
 have HG:Hid (zAJ (zAC vs) b=g0):=hg0
 have hRW:=RulesAt.below hS.fr hR
 have r0:=hRW.c0
 have rl:=hRW.lt
 have hb1:w.cell? ⟨w0.heap.size,0,none⟩=some (.pointer (some ⟨r,0,none⟩)):=blk9 hS.blk0 0 _ rfl
 have hl0:w0.heap.size<w.heap.size:=(Array.getElem?_eq_some_iff.1 hS.blk0).1
 obtain⟨a1,c1,rfl,_,_⟩:=hRW.hv
 obtain⟨RT,hRT⟩:∃RT,zAi vs pt (con,b,a)=RT:=⟨_,rfl⟩
 have HRT:Hid (zAi vs pt (con,b,a)=RT):=hRT
 rw[hRT]
 have HRV:Hid (∀Y,Below w.heap.size w Y→RulesAt Y r (.slice a1 (List.length vs) c1) pv cv vs pt cs):=fun Y hY=>RulesAt.below hY hRW
 clear hva hbw hab hS hR hRW hpts hq hg0 hRT
 go_enter Tryz.func151,Tryz.ntmps151
 go_wp2_with fail
 refine (zD7 vs HVO.out _ _ (HRV.out _ (zAA _ _)).hv).mono ?_
 rintro e w1 ⟨rfl,hb2⟩
 rw[HQ.out]
 have HB1:Hid (Below w.heap.size w w1):=(zAA _ _).trans (hb2.mono (by simp))
 have HBC:Hid (w1.heap[w.heap.size]? = some (.cells #[.int .i64 (con:Int)] 3)):=(hb2.block w.heap.size (by simp)).trans (heap_alloc_new w _)
 clear hb2 r0 rl hb1 hl0
 by_cases ha0:a=0
 ·subst ha0
  have HE:Hid (RT=[zBd vs con (whyP vs pts [] g0)]):=by show _=_;rw[←HRT.out,zFX vs pt con b pts HP.out,HG.out]
  go_wp2_with fail
  have HB3:Hid (Below w.heap.size w (w1.alloc (.cells #[.int .u64 (g0:Int)] 136))):=HB1.out.alloc HB1.out.size _
  refine (zJe vs HVO.out pt cs r _ pv cv w0 HRL.out con pts HP.out g0 HGW.out [] (by simp) (.slice none 0 0) w.heap.size w1.heap.size ov L (by omega) _ (HS.out.below HB3.out) (zLZ _) ?_ ?_ ?_ ?_).mono ?_
  ·exact blk9 (((zAA w1 _).block w.heap.size (Array.getElem?_eq_some_iff.1 HBC.out).1).trans HBC.out) 0 _ rfl
  ·exact World.cell?_alloc_at _ _ _ 0 (by simp)
  ·have:=(Array.getElem?_eq_some_iff.1 HBC.out).1
   simp;omega
  ·simp
  rintro e w4 ⟨rfl,ov',x,hx,hS4,hf4⟩
  have HF:Hid (ReaS w0 r w4 ov' (L++[x])):=hS4
  have HX:Hid ([x].map (·.1)=RT):=by show _=_;rw[HE.out,←hx];rfl
  clear hS4 hf4 hx
  go_wp2
  refine bodyPost_ret (results_none rfl _ _ _) rfl ?_
  exact⟨rfl,ov',[x],HX.out,HF.out⟩
 ·have HE:Hid (RT=(zBP vs (zAJ b a)).map fun l=>zBd vs con (whyP vs pts [⟨l.var,4,l.n⟩] g0)):=by show _=_;rw[←HRT.out,zHr vs pt con b a ha0 pts HP.out,HG.out]
  have ha1:((a:Int)==0)=false:=by simpa using ha0
  have hnt:=zAY b a (by have:=HB36.out;omega) (by have:=HA36.out;omega)
  obtain⟨d,hd⟩:∃d,zAJ b a=d:=⟨_,rfl⟩
  have HDW:Hid (∀i,d.testBit i=true→(zAC vs).testBit i=true):=fun i hi=>by
   rw[←hd,zAW,Bool.and_eq_true] at hi
   exact HBW.out i hi.1
  rw[hd] at hnt HE
  obtain⟨l,hl⟩:∃l,zBP vs d=l:=⟨_,rfl⟩
  have HLD:Hid (zBP vs d=l):=hl
  have hl36:l.length≤36:=by rw[←hl];exact zD9 vs d
  rw[hl] at HE
  clear hd hl ha0
  have HB3:Hid (Below w.heap.size w (w1.alloc (.cells #[.int .u64 (g0:Int)] 136))):=HB1.out.alloc HB1.out.size _
  have HBG:Hid ((w1.alloc (.cells #[.int .u64 (g0:Int)] 136)).heap[w1.heap.size]? = some (.cells #[.int .u64 (g0:Int)] 136)):=heap_alloc_new w1 _
  have HBC2:Hid ((w1.alloc (.cells #[.int .u64 (g0:Int)] 136)).heap[w.heap.size]? = some (.cells #[.int .i64 (con:Int)] 3)):=((zAA w1 _).block w.heap.size (Array.getElem?_eq_some_iff.1 HBC.out).1).trans HBC.out
  obtain⟨G,hG⟩:∃G,w1.heap.size=G:=⟨_,rfl⟩
  obtain⟨V,hV⟩:∃V,w1.alloc (.cells #[.int .u64 (g0:Int)] 136)=V:=⟨_,rfl⟩
  go_upto_region 5 with (fail)
  rw[hG] at HBG
  rw[hV] at HB3 HBG HBC2
  have b1:V.cell? ⟨w0.heap.size,0,none⟩=some (.pointer (some ⟨r,0,none⟩)):=blk9 (HS.out.below HB3.out).blk0 0 _ rfl
  have r0:=(HRV.out _ HB3.out).c0
  clear hG hV
  go_wp2_with fail
  refine (zHn vs HVO.out d HDW.out _ _ (HRV.out _ HB3.out).hv (HRV.out _ HB3.out).tab).mono ?_
  rintro e w5 ⟨y,rfl,hy,hb5⟩
  rw[HLD.out] at hy
  have HY:Hid (LArg w5 y l):=hy.arg
  have HYO:Hid (LOwn V.heap.size w5 y l):=hy
  have HB5:Hid (Below V.heap.size V w5):=hb5
  obtain⟨ay,cy,rfl⟩:=zAE (show w5.ownsRow _ _ _ _ _ _ from hy)
  have HYB:Hid (∀g,(Value.slice ay l.length cy).ownBlock=some g→w0.heap.size+2≤g):=fun g hg=>by have h1:=((show w5.ownsRow _ _ _ _ _ _ from hy).lt g hg).1;have h2:=(Array.getElem?_eq_some_iff.1 (HS.out.below HB3.out).blk).1;omega
  clear hy hb5 b1 r0
  go_wp2_with fail
  go_loopw [33] (fun i wr=>∃(k:Nat),k≤l.length∧i=.int .i64 k∧Hid (∃(ov2:Value) (L2:List RV),Hid (L2.map (·.1)=RT.take k)∧Hid (ReaS w0 r wr ov2 (L++L2))∧Hid (LOwn (w0.heap.size+2) wr (.slice ay l.length cy) l)∧Hid (wr.heap[w.heap.size]? = some (.cells #[.int .i64 (con:Int)] 3))∧Hid (wr.heap[G]? = some (.cells #[.int .u64 (g0:Int)] 136)))) (fun i _=>l.length - (intOf i).toNat)
  case atStart =>
   refine⟨0,by omega,rfl,ov,[],rfl,?_,zAw ?_ HYO.out,(HB5.out.block _ (Array.getElem?_eq_some_iff.1 HBC2.out).1).trans HBC2.out,(HB5.out.block _ (Array.getElem?_eq_some_iff.1 HBG.out).1).trans HBG.out⟩
   ·rw[List.append_nil];exact (HS.out.below HB3.out).below HB5.out
   ·have:=(Array.getElem?_eq_some_iff.1 (HS.out.below HB3.out).blk).1;omega
  case round =>
   obtain⟨k,hk,rfl,hrest⟩:=hrel
   obtain⟨ov2,L2,hmp,hS2,hown,hbc,hbg⟩:=hrest.out
   clear hrest
   have HLL2:Hid (L2.length=k):=by
    have h1:=congrArg List.length hmp.out
    rw[List.length_map,List.length_take,HE.out,List.length_map] at h1
    show _=_
    omega
   by_cases hlt:k<l.length
   ·obtain⟨t,ht⟩:∃t,l[k]? = some t:=⟨l[k],by simp[hlt]⟩
    obtain⟨q2,c2,he2,_,hr2⟩:=hown.out.arg
    injection he2 with he2 he3 he4
    clear he3 he4
    obtain⟨b2,o2,hq2,hlt2,t0,t1,t2⟩:=hr2 k t ht
    rw[hq2] at he2
    have HRTK:Hid (RT[k]? = some (zBd vs con (whyP vs pts [⟨t.var,4,t.n⟩] g0))):=by show _=_;rw[HE.out,List.getElem?_map,ht];rfl
    subst he2
    clear hr2 ht
    have HBA:Hid (Below wr.heap.size wr ((wr.alloc (.cells #[.int .i64 t.var,.int .i64 t.op,.int .i64 t.n] 76)).alloc (.cells #[.int .i64 t.var,.int .i64 4,.int .i64 t.n] 76))):=(zAA _ _).alloc (by simp) _
    have HLA:Hid (LArg ((wr.alloc (.cells #[.int .i64 t.var,.int .i64 t.op,.int .i64 t.n] 76)).alloc (.cells #[.int .i64 t.var,.int .i64 4,.int .i64 t.n] 76)) (.slice (some ⟨wr.heap.size+1,0,none⟩) 1 1) [⟨t.var,4,t.n⟩]):=by
     have h1:LOwn (wr.heap.size+1) ((wr.alloc (.cells #[.int .i64 t.var,.int .i64 t.op,.int .i64 t.n] 76)).alloc (.cells #[.int .i64 t.var,.int .i64 4,.int .i64 t.n] 76)) (.slice (some ⟨wr.heap.size+1,0,none⟩) 1 1) [⟨t.var,4,t.n⟩]:=by
      have h2:=World.ownsRow_lit (base:=wr.heap.size+1) (e:=76) (size:=3) (wr.alloc (.cells #[.int .i64 t.var,.int .i64 t.op,.int .i64 t.n] 76)) #[.int .i64 t.var,.int .i64 4,.int .i64 t.n] 1 (by simp) (by unfold maxLen;omega) rfl
      rw[World.size_alloc] at h2
      exact h2
     exact h1.arg
    go_wp2_with fail
    have HSA:=HBA.out.size
    refine (zJe vs HVO.out pt cs r _ pv cv w0 HRL.out con pts HP.out g0 HGW.out [⟨t.var,4,t.n⟩] (by simp) _ w.heap.size G ov2 (L++L2) (by rw[List.length_append,HLL2.out];omega) _ (hS2.out.below HBA.out) HLA.out ?_ ?_ ?_ ?_).mono ?_
    ·exact blk9 ((HBA.out.block _ (Array.getElem?_eq_some_iff.1 hbc.out).1).trans hbc.out) 0 _ rfl
    ·exact blk9 ((HBA.out.block _ (Array.getElem?_eq_some_iff.1 hbg.out).1).trans hbg.out) 0 _ rfl
    ·exact Nat.lt_of_lt_of_le (Array.getElem?_eq_some_iff.1 hbc.out).1 HBA.out.size
    ·exact Nat.lt_of_lt_of_le (Array.getElem?_eq_some_iff.1 hbg.out).1 HBA.out.size
    rintro e w6 ⟨rfl,ov6,x6,hx6,hS6,hf6⟩
    have HNX1:Hid (¬(fun k=>k=w0.heap.size+1∨ov2.ownBlock=some k) w.heap.size):=fun hq=>by
     rcases hq with hq | hq
     ·have h1:=hS2.out.blk;rw[←hq,hbc.out] at h1;injection h1 with h1;injection h1 with _ h2;exact absurd h2 (by decide)
     ·exact zFW hS2.out.own hbc.out (by decide) hq
    have HNX2:Hid (¬(fun k=>k=w0.heap.size+1∨ov2.ownBlock=some k) G):=fun hq=>by
     rcases hq with hq | hq
     ·have h1:=hS2.out.blk;rw[←hq,hbg.out] at h1;injection h1 with h1;injection h1 with _ h2;exact absurd h2 (by decide)
     ·exact zFW hS2.out.own hbg.out (by decide) hq
    have HF6:Hid (Fr (fun k=>k=w0.heap.size+1∨ov2.ownBlock=some k) wr w6):=(Fr.below HBA.out).trans hf6
    have HS6:Hid (ReaS w0 r w6 ov6 (L++(L2++[x6]))):=by rw[←List.append_assoc];exact hS6
    have HM6:Hid ((L2++[x6]).map (·.1)=RT.take (k+1)):=by show _=_;rw[List.map_append,hmp.out,List.take_add_one,HRTK.out,←hx6];rfl
    have HO6:Hid (LOwn (w0.heap.size+2) w6 (.slice (some ⟨b2,o2,none⟩) l.length cy) l):=zIp hown.out HF6.out fun g hg hX=>by
     rcases hX with hX | hX
     ·have:=((show wr.ownsRow _ _ _ _ _ _ from hown.out).lt g hg).1;omega
     ·rcases zHm (show wr.ownsRow _ _ _ _ _ _ from hown.out) hS2.out.own (by decide) with h1 | h1
      ·rw[h1] at hg;cases hg
      ·exact h1 (by rw[hg,hX])
    have HC6:Hid (w6.heap[w.heap.size]? = some (.cells #[.int .i64 (con:Int)] 3)):=zLd HF6.out hbc.out HNX1.out
    have HG6:Hid (w6.heap[G]? = some (.cells #[.int .u64 (g0:Int)] 136)):=zLd HF6.out hbg.out HNX2.out
    clear hS6 hf6 hx6
    go_wp2
    go_roundw
    case rel=>exact⟨k+1,by omega,by go_num,ov6,L2++[x6],HM6,HS6,HO6,HC6,HG6⟩
    case measure=>simp[intOf];omega
   ·have HFM:Hid (L2.map (·.1)=RT):=by
     have h1:=hmp.out
     rw[List.take_of_length_le (by rw[HE.out,List.length_map];omega)] at h1
     exact h1
    go_wp2
    go_end0
    exact⟨rfl,ov2,L2,HFM.out,hS2.out⟩
end Go.Proofs.YtndcpnlaadikoaaGreatDoor
