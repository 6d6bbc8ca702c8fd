/- What the proof leans on, part 33. -/
import Derived.Test.YtdjbejlbmaiocafGreatDoorPartBc
import Derived.Test.YtdjbejlbmaiocafGreatDoorPartBf
namespace Go.Proofs.YtdjbejlbmaiocafGreatDoor
open Go.RowKit
structure ReaS (w0:World) (r:Nat) (w:World) (ov:Value) (L:List RV):Prop where
 blk0:w.heap[w0.heap.size]? = some (.cells #[.pointer (some ⟨r,0,none⟩)] 90)
 blk:w.heap[w0.heap.size+1]? = some (.cells #[ov] 204)
 own:ROwn (w0.heap.size+2) w ov L
 cl:∀x∈L,LOwn (w0.heap.size+2) w x.2 x.1.1.cla
 fr:Below w0.heap.size w0 w
theorem ReaS.below {w0 w w':World} {r:Nat} {ov:Value} {L:List RV} (h:ReaS w0 r w ov L) (hb:Below w.heap.size w w'):ReaS w0 r w' ov L :=
 ⟨(hb.block _ (Array.getElem?_eq_some_iff.1 h.blk0).1).trans h.blk0,(hb.block _ (Array.getElem?_eq_some_iff.1 h.blk).1).trans h.blk,zAD h.own hb,fun x hx=>zAD (h.cl x hx) hb,h.fr.trans (hb.mono h.fr.size)⟩
theorem zBD {w:World} {B b:Nat} {e t:TypeId} {s n:Nat} {v:Value} {xs:List Value} {cs:Array Value} (h:w.ownsRow B e s v n xs) (hb:w.heap[b]? = some (.cells cs t)) (hne:t≠e):v.ownBlock≠some b:=by
 intro he
 rcases h.2 with ⟨rfl,_⟩ | ⟨g,cap,cur,rfl,_,hh,_⟩
 ·cases he
 ·have:g=b:=by injection he
  subst this
  rw[hh] at hb
  injection hb with h1
  injection h1 with _ h2
  exact hne h2.symm
theorem zHA (w:World) (x:RV):∀(j:Nat) (u:Value),(zAZ x)[j]? = some u→(w.alloc (.cells #[.int .i64 x.1.1.kind,.int .i64 x.1.1.con,x.2,.int .u64 (x.1.2:Int)] 207)).cell? ((⟨w.heap.size,0,none⟩:Addr).add j)=some u:=by
 intro j u hj
 match j,hj with
 | 0,hj=>simp[zAZ] at hj;subst hj;simp[Addr.add]
 | 1,hj=>simp[zAZ] at hj;subst hj;simp[Addr.add]
 | 2,hj=>simp[zAZ] at hj;subst hj;simp[Addr.add]
 | 3,hj=>simp[zAZ] at hj;subst hj;simp[Addr.add]
theorem ReaS.push {w0 w w1 w2:World} {r:Nat} {ov v':Value} {L:List RV} {x:RV} {n:Nat} (h:ReaS w0 r w ov L) (hb:Below w.heap.size w w1) (hx:LOwn (w0.heap.size+2) w1 x.2 x.1.1.cla) (hg:w1.grownBy w2 ov.ownBlock) (hn:n=L.length+1) (ho:w2.ownsRow (w0.heap.size+2) 207 4 v' n ((L.map zAZ).flatten++zAZ x)) :
 ReaS w0 r (w2.setCell ⟨w0.heap.size+1,0,none⟩ v') v' (L++[x])∧Fr (fun k=>k=w0.heap.size+1∨ov.ownBlock=some k) w (w2.setCell ⟨w0.heap.size+1,0,none⟩ v'):=by
 have h1:=h.below hb
 have hb2:w2.heap[w0.heap.size+1]? = some (.cells #[ov] 204):=zAq h1.blk hg h1.own (by decide)
 have ho2:ROwn (w0.heap.size+2) w2 v' (L++[x]):=by
  show World.ownsRow _ _ _ _ _ _ _
  rw[List.length_append,List.length_singleton,←hn,List.map_append,List.flatten_append]
  simpa using ho
 refine⟨⟨?_,?_,zB1 ho2 hb2 (by decide) 0 _,fun y hy=>?_,?_⟩,?_⟩
 ·exact (Below.heap_setCell _ _ _ _ (by simp)).trans (zAq h1.blk0 hg h1.own (by decide))
 ·rw[heap_setCell_same w2 _ 0 _ _ v' hb2];rfl
 ·rcases List.mem_append.1 hy with h3 | h3
  ·exact zB1 (zAi (h1.cl y h3) hg h1.own (by decide)) hb2 (by decide) 0 _
  ·rw[List.mem_singleton.1 h3]
   exact zB1 (zAi hx hg h1.own (by decide)) hb2 (by decide) 0 _
 ·exact (h1.fr.grown hg h1.fr.size (fun k hk=>by have:=(h1.own.lt k hk).1;omega)).setCell (show w0.heap.size≤w0.heap.size+1 by omega) _
 ·exact Fr.setX (X:=fun k=>k=w0.heap.size+1∨ov.ownBlock=some k) ((Fr.below hb).grown hg (fun k hk=>Or.inl (Or.inr hk))) (p:=⟨w0.heap.size+1,0,none⟩) (Or.inl rfl) _
set_option maxHeartbeats 6400000 in
set_option maxRecDepth 100000 in
theorem zHg (vs:List MVar) (hva:zAH vs) (pt:List (List Nat)) (cs:List Nat) (r:Nat) (sv pv cv:Value) (w0:World) (hR:RulesAt w0 r sv pv cv vs pt cs) (con:Nat) (pts:List Nat) (hcon:pt[con]? = some pts) (g0:Nat) (hgw:∀i,g0.testBit i=true→(zAG vs).testBit i=true)
 (any:Cla) (hla:any.length≤100) (u:Value) (bc bg:Nat) (ov:Value) (L:List RV) (hLL:L.length≤8000) (w:World) (hS:ReaS w0 r w ov L) (hu:LArg w u any)
 (hc:w.cell? ⟨bc,0,none⟩=some (.int .i64 con)) (hg:w.cell? ⟨bg,0,none⟩=some (.int .u64 g0)) (hlc:bc<w.heap.size) (hlg:bg<w.heap.size) :
 Calls Tryz.prog 228 #[u,.pointer (some ⟨w0.heap.size,0,none⟩),.pointer (some ⟨bc,0,none⟩),.pointer (some ⟨bg,0,none⟩),.pointer (some ⟨w0.heap.size+1,0,none⟩)] w fun e w'=>e=.returned (.tuple #[]) ∧
  ∃ov' x,x.1=zBh vs con (whyP vs pts any g0)∧ReaS w0 r w' ov' (L++[x])∧Fr (fun k=>k=w0.heap.size+1∨ov.ownBlock=some k) w w':=by
 obtain⟨i0,hi0,hz0,hz1,hz2⟩:=info_parts Tryz.infoReason
 have HS:Hid (ReaS w0 r w ov L):=hS
 have hb1:w.cell? ⟨w0.heap.size,0,none⟩=some (.pointer (some ⟨r,0,none⟩)):=blk9 hS.blk0 0 _ rfl
 have hl1:w0.heap.size+1<w.heap.size:=(Array.getElem?_eq_some_iff.1 hS.blk).1
 have HR:Hid (∀Y,Below w.heap.size w Y→RulesAt Y r sv pv cv vs pt cs):=fun Y hY=>RulesAt.below (hS.fr.trans (hY.mono hS.fr.size)) hR
 have HU:Hid (∀Y,Below w.heap.size w Y→LArg Y u any):=fun Y hY=>LArg.below hY hu
 have HVO:Hid (zAH vs):=hva
 have HLA:Hid (any.length≤100):=hla
 have HGW:Hid (∀i,g0.testBit i=true→(zAG vs).testBit i=true):=hgw
 have hRW:=RulesAt.below hS.fr hR
 have r0:=hRW.c0
 have r1:=hRW.c1
 have rl:=hRW.lt
 obtain⟨a1,c1,rfl,_,_⟩:=hRW.hv
 obtain⟨a2,c2,rfl,hm2,hr2⟩:=hRW.hp
 have hct:con<pt.length:=(List.getElem?_eq_some_iff.1 hcon).1
 obtain⟨b,off,x,rfl,hb,hcx,hpx⟩:=hr2 con pts hcon
 have HPX:Hid (∀Y,Below w.heap.size w Y→PArg Y x pts):=fun Y hY=>PArg.below hY hpx
 obtain⟨a3,c3,rfl,_,_⟩:=hpx
 obtain⟨ao,co,rfl⟩:=zAC (show w.ownsRow _ _ _ _ _ _ from hS.own)
 obtain⟨a4,c4,rfl,_,_⟩:=hu
 unfold maxLen at hm2
 obtain⟨hm21,hm22⟩:=hm2
 obtain⟨C,hC⟩:∃C,whyP vs pts any g0=C:=⟨_,rfl⟩
 have HC:Hid (whyP vs pts any g0=C):=hC
 obtain⟨h,hh⟩:∃h,zAR vs C=h:=⟨_,rfl⟩
 have HRO:Hid (zBh vs con (whyP vs pts any g0)=(⟨1,(con:Int),C⟩,h)):=by show _=_;rw[hC,←hh];rfl
 have HH:Hid (zAR vs C=h):=hh
 rw[HRO.out]
 have HWY:Hid (∀Y,Below w.heap.size w Y→Calls Tryz.prog 172 #[.slice a1 (List.length vs) c1,.slice a3 (List.length pts) c3,.slice a4 (List.length any) c4,.int .u64 (g0:Int)] Y fun e w'=>∃x,e=.returned x∧LOwn Y.heap.size w' x C∧Below Y.heap.size Y w'):=fun Y hY=>by
  rw[←HC.out]
  exact zLQ vs HVO.out pts any HLA.out g0 HGW.out _ _ _ Y (HR.out Y hY).hv (HPX.out Y hY) (HU.out Y hY) (HR.out Y hY).tab
 have HO2:Hid (∀Y,Below w.heap.size w Y→Y.cell? ⟨w0.heap.size+1,0,none⟩=some (.slice ao L.length co)):=fun Y hY=>blk9 (hS.below hY).blk 0 _ rfl
 have o2:=HO2.out w (Below.refl _ _)
 clear hva hla hgw hS hR hRW hr2 hcon hC hh
 go_enter Tryz.func228,Tryz.ntmps228
 go_wp2_with fail
 go_region_held3 (fun w'=>Below w.heap.size w w'∧w'.cell? ⟨w0.heap.size,0,none⟩=some (.pointer (some ⟨r,0,none⟩))∧w'.cell? ⟨r,0,none⟩=some (.slice a1 (List.length vs) c1)∧w'.cell? ⟨r,1,none⟩=some (.slice (some ⟨b,off,none⟩) (List.length pt) c2)∧w'.cell? ⟨bc,0,none⟩=some (.int .i64 con)∧w'.cell? ⟨bg,0,none⟩=some (.int .u64 g0)∧w'.cell? ⟨b,off+con,none⟩=some (.slice a3 (List.length pts) c3))
  ((refine (fun (hB:Below w.heap.size w _)=>⟨hB,(hB.cell (p:=⟨w0.heap.size,0,none⟩) (Nat.lt_of_succ_lt hl1)).trans hb1,(hB.cell (p:=⟨r,0,none⟩) rl).trans r0,(hB.cell (p:=⟨r,1,none⟩) rl).trans r1,(hB.cell (p:=⟨bc,0,none⟩) hlc).trans hc,(hB.cell (p:=⟨bg,0,none⟩) hlg).trans hg,(hB.cell (p:=⟨b,off+con,none⟩) hb).trans hcx⟩:Below w.heap.size w _→_) ?_;first | exact (Below.refl _ _).drew | exact zBV (by assumption) hbq))
  (first
   | (go_at_call 172;refine (HWY.out _ (show Below w.heap.size w _∧_ by assumption).1).mono ?_;rintro e w3 ⟨xc,rfl,hxc,hbq⟩;obtain⟨ac,cc,rfl⟩:=zAC (show w3.ownsRow _ _ _ _ _ _ from hxc);obtain⟨base,HBASE,HXC⟩:∃base,Hid (base=_)∧Hid (LOwn base w3 (.slice ac (List.length C) cc) C):=⟨_,rfl,hxc⟩;clear hxc;have hB3:=zBV (by assumption) hbq))
 have hbase:w0.heap.size+2≤base:=by have e:base=w.heap.size:=HBASE.out;omega
 have HXC2:Hid (LOwn (w0.heap.size+2) w3 (.slice ac (List.length C) cc) C):=zA2 hbase HXC.out
 have HB3:Hid (Below w.heap.size w w3):=hB3
 have q1:=(hB3.cell (p:=⟨w0.heap.size,0,none⟩) (Nat.lt_of_succ_lt hl1)).trans hb1
 have q2:=(hB3.cell (p:=⟨r,0,none⟩) rl).trans r0
 have q3:=(hB3.cell (p:=⟨bc,0,none⟩) hlc).trans hc
 have q4:=HO2.out w3 hB3
 have s3:=hB3.size
 have l1:w0.heap.size+1<w3.heap.size:=by omega
 have l2:r<w3.heap.size:=by omega
 clear hbq hB3 HBASE HXC hbase hb1 r0 r1 hc hg hcx o2
 go_upto_region 2 with (fail)
 have HBS:Hid (Below w3.heap.size w3 (w3.alloc (.cells #[.int .i64 1,.int .i64 con,.slice ac (List.length C) cc] 110))):=zAA _ _
 have t0:(w3.alloc (.cells #[.int .i64 1,.int .i64 con,.slice ac (List.length C) cc] 110)).cell? ⟨w3.heap.size,0,none⟩=some (.int .i64 1):=World.cell?_alloc_at _ _ _ 0 (by simp)
 have t1:(w3.alloc (.cells #[.int .i64 1,.int .i64 con,.slice ac (List.length C) cc] 110)).cell? ⟨w3.heap.size,1,none⟩=some (.int .i64 con):=World.cell?_alloc_at _ _ _ 1 (by simp)
 have t2:(w3.alloc (.cells #[.int .i64 1,.int .i64 con,.slice ac (List.length C) cc] 110)).cell? ⟨w3.heap.size,2,none⟩=some (.slice ac (List.length C) cc):=World.cell?_alloc_at _ _ _ 2 (by simp)
 have tl:w3.heap.size<(w3.alloc (.cells #[.int .i64 1,.int .i64 con,.slice ac (List.length C) cc] 110)).heap.size:=by simp
 obtain⟨B,hB⟩:∃B,w3.heap.size=B:=⟨_,rfl⟩
 rw[hB] at t0 t1 t2 tl ⊢
 obtain⟨V,hV⟩:∃V,w3.alloc (.cells #[.int .i64 1,.int .i64 con,.slice ac (List.length C) cc] 110)=V:=⟨_,rfl⟩
 rw[hV] at HBS t0 t1 t2 tl ⊢
 have HBV:Hid (Below w.heap.size w V):=HB3.out.trans (HBS.out.mono HB3.out.size)
 have k1:=(HBS.out.cell (p:=⟨w0.heap.size,0,none⟩) (Nat.lt_of_succ_lt l1)).trans q1
 have k2:=(HBS.out.cell (p:=⟨r,0,none⟩) l2).trans q2
 have k4:=(HBS.out.cell (p:=⟨w0.heap.size+1,0,none⟩) l1).trans q4
 have HSV:Hid (ReaS w0 r V (.slice ao L.length co) L):=HS.out.below HBV.out
 have HXV:Hid (LOwn (w0.heap.size+2) V (.slice ac (List.length C) cc) C):=zAD HXC2.out HBS.out
 have HHE:Hid (∀Y,Below V.heap.size V Y→Calls Tryz.prog 178 #[.slice a1 (List.length vs) c1,.slice ac (List.length C) cc] Y fun e w'=>e=.returned (.int .u64 (h:Int))∧Below Y.heap.size Y w'):=fun Y hY=>by
  rw[←HH.out];exact zCk vs HVO.out C _ _ Y (HR.out Y (HBV.out.trans (hY.mono HBV.out.size))).hv (LArg.below hY HXV.out.arg)
 have vl1:w0.heap.size+1<V.heap.size:=Nat.lt_of_lt_of_le l1 HBS.out.size
 have vl2:r<V.heap.size:=Nat.lt_of_lt_of_le l2 HBS.out.size
 have vlB:B<V.heap.size:=tl
 clear hB hV q1 q2 q3 q4 s3 tl
 go_region_law
  (first
   | (rw[if_pos (by rfl)];refine wp_append_own _ _ _ 204 rfl (w0.heap.size+2) 207 i0 _ 4 48 zBJ hi0 hz0 hz1 hz2 rfl (by decide) _ _ _ rfl (hw5.alloc _) ⟨w5.heap.size,0,none⟩ 1 1 (zAZ ((⟨1,(con:Int),C⟩,h),.slice ac (List.length C) cc)) rfl rfl (zHA w5 ((⟨1,(con:Int),C⟩,h),.slice ac (List.length C) cc)) (by intro u hu;simp[zAZ] at hu;rcases hu with rfl | rfl | rfl | rfl <;> rfl) ?_ ?_ ?_ ?_;(unfold maxLen;omega);omega;(have:=hB5.size;simp;omega);intro v6 w6 hown6 hg6 _;have hP:=ReaS.push (x:=((⟨1,(con:Int),C⟩,h),.slice ac (List.length C) cc)) HSV.out (hB5.alloc hB5.size (.cells #[.int .i64 1,.int .i64 con,.slice ac (List.length C) cc,.int .u64 (h:Int)] 207)) (zAD HXV.out (hB5.alloc hB5.size _)) hg6 rfl hown6;have hk6:=zAq (HSV.out.below (hB5.alloc hB5.size (.cells #[.int .i64 1,.int .i64 con,.slice ac (List.length C) cc,.int .u64 (h:Int)] 207))).blk hg6 (hw5.alloc _) (by decide);obtain⟨a9,b9,hv9⟩:=zAC hown6;subst hv9;have d2:w6.cell? ⟨w0.heap.size+1,0,none⟩=some (.slice ao L.length co):=blk9 hk6 0 _ rfl;have z2:w6.frozen? ⟨w0.heap.size+1,0,none⟩=false:=frz9 hk6 0)
   | (rw[if_pos (by rfl)];go_simp;go_at_call 178;refine (HHE.out _ (Below.refl _ _).drew).mono ?_;rintro e w5 ⟨rfl,hb5⟩;have hB5:Below V.heap.size V w5:=(Below.refl _ _).drew.trans hb5;have c5:w5.cell? ⟨w0.heap.size+1,0,none⟩=some (.slice ao L.length co):=(hB5.cell (p:=⟨w0.heap.size+1,0,none⟩) vl1).trans k4;have u0:=(hB5.cell (p:=⟨B,0,none⟩) vlB).trans t0;have u1:=(hB5.cell (p:=⟨B,1,none⟩) vlB).trans t1;have u2:=(hB5.cell (p:=⟨B,2,none⟩) vlB).trans t2;have hw5:w5.ownsRow (w0.heap.size+2) 207 4 (.slice ao L.length co) L.length (L.map zAZ).flatten:=zAD HSV.out.own hB5;have l5:w0.heap.size+1<w5.heap.size:=Nat.lt_of_lt_of_le vl1 hB5.size;have lB5:B<w5.heap.size:=Nat.lt_of_lt_of_le vlB hB5.size;dsimp only))
 all_goals
  have HF:Hid (Fr (fun k=>k=w0.heap.size+1∨(Value.slice ao L.length co).ownBlock=some k) w _):=(Fr.below HBV.out).trans hP.2
  go_wp2
  go_end0
  exact⟨rfl,_,_,rfl,hP.1,HF.out⟩
end Go.Proofs.YtdjbejlbmaiocafGreatDoor
