/- What the proof leans on, part 29. -/
import Derived.Test.YtdjbejlbmaiocafGreatDoorPartBb
import Derived.Deep.OwnRows
import Derived.Deep.Onto
import Derived.Laws.EntriesVeiled
import Derived.Test.YtdjbejlbmaiocafGreatDoorPartBa
import Derived.Test.YtdjbejlbmaiocafGreatDoorPartAv
import Derived.Deep.RegionLaw
import Derived.Deep.CutBlock
namespace Go.Proofs.YtdjbejlbmaiocafGreatDoor
open Go.RowKit
theorem zDP {w:World} {base:Nat} {v:Value} {l:List Nat} (h:w.ownsRow base 152 1 v l.length (u64s l)) (hl:∀z∈l,z<2 ^ 36):PArg w v l:=by
 rcases h.2 with ⟨rfl,hn⟩ | ⟨g,cap,cur,rfl,hg,hh,hc1,hc2,_,_⟩
 ·have:l=[]:=List.eq_nil_of_length_eq_zero hn
  subst this
  exact⟨none,0,rfl,⟨Nat.le_refl _,Nat.zero_le _⟩,fun i z hz=>by simp at hz⟩
 ·refine⟨_,cap,rfl,⟨hc1,hc2⟩,fun i z hz=>⟨hl z (List.mem_of_getElem? hz),g,0,rfl,(Array.getElem?_eq_some_iff.1 hh).1,?_⟩⟩
  have hi:i<l.length:=(List.getElem?_eq_some_iff.1 hz).1
  rw[Nat.zero_add,h.cellAt i (by omega)]
  unfold u64s
  rw[List.getElem?_map,hz];rfl
theorem zG5 (m:Mod) (hm:zAI m=0) (j:Nat) (c:MCon) (hc:m.cons[j]? = some c):(zAQ c).length≤8:=by
 obtain⟨hn4,hl4,_,_⟩:=zD3 c (zCR _ _ (zFx m hm j c hc)).2.1
 have h1:=zEH (zCS (zA6 c))
 rw[zCT] at h1
 show (zDW (zCS (zA6 c))).length≤8
 have h2:(zA6 c).length=c.vars.length+c.lits.length:=by simp[zA6]
 omega
theorem Tryz.infoIntF:(Tryz.prog.info? 3).map (fun i=>(i.zero,i.size,i.bytes))=some (some (.int .i64 0),1,8):=by kernel_rfl
theorem Tryz.underIntsF:Tryz.prog.underlying 26=some (.slice 3):=by kernel_rfl
theorem zGI (w:World) (n base:Nat) (hn:n≤6) (hb:base≤w.heap.size):(w.alloc (.cells (madeCells #[.int .i64 0] n) 3)).ownsRow base 3 1 (.slice (some ⟨w.heap.size,0,none⟩) n n) n ((zAn n).map (Value.int .i64)):=by
 refine⟨by simp[zAn],Or.inr ⟨w.heap.size,n,_,rfl,hb,heap_alloc_new w _,Nat.le_refl _,by unfold maxLen;omega,?_,?_⟩⟩
 ·have h:=congrArg List.length (toList_madeCells_one (.int .i64 0) n)
  simp at h
  simpa using h
 ·rw[toList_madeCells_one]
  simp[zAn]
def zB2 (N bs bm bc n:Nat) (W:World):World:=(((W.alloc (.cells (madeCells #[.int .i64 0] n) 3)).alloc (.cells #[.slice (some ⟨N,0,none⟩) n n] 26)).alloc (.cells #[.slice none 0 0] 193)).alloc (.cells #[.func (.func 218) #[] (zFh N bs bm bc)] 239)
theorem zLM {W:World} {N bs bm bc con n:Nat} {m:Mod} {vs cs sv:Value} {scope:List Int} (hN:W.heap.size=N) (hn:n≤6)
 (hW:MArg W vs cs m∧IArg W sv scope∧W.cell? ⟨bs,0,none⟩=some sv∧W.cell? ⟨bm,0,none⟩=some vs∧W.cell? ⟨bm,1,none⟩=some cs∧W.cell? ⟨bc,0,none⟩=some (.int .i64 con)) :
 PtsS N bs bm bc m con vs cs sv scope (zAn n) [] (zB2 N bs bm bc n W)∧Below N W (zB2 N bs bm bc n W):=by
 subst hN
 have hzl:(zAn n).length=n:=by simp[zAn]
 have r1:=zGI W n W.heap.size hn (Nat.le_refl _)
 have r3:=World.ownsRow_lit (base:=W.heap.size) (e:=193) (size:=1) ((W.alloc (.cells (madeCells #[.int .i64 0] n) 3)).alloc (.cells #[.slice (some ⟨W.heap.size,0,none⟩) n n] 26)) #[.slice none 0 0] 1 (by simp;omega) (by unfold maxLen;omega) rfl
 have e3:((W.alloc (.cells (madeCells #[.int .i64 0] n) 3)).alloc (.cells #[.slice (some ⟨W.heap.size,0,none⟩) n n] 26)).heap.size=W.heap.size+2:=by simp
 rw[e3] at r3
 have hsz:(zB2 W.heap.size bs bm bc n W).heap.size=W.heap.size+4:=by unfold zB2;simp
 have hb:Below W.heap.size W (zB2 W.heap.size bs bm bc n W):=(((zAA _ _).alloc (by simp) _).alloc (by simp;omega) _).alloc (by simp;omega) _
 have q1:(zB2 W.heap.size bs bm bc n W).ownsRow W.heap.size 3 1 (.slice (some ⟨W.heap.size,0,none⟩) n n) n ((zAn n).map (Value.int .i64)):=((r1.alloc _).alloc _).alloc _
 refine⟨⟨by omega,⟨W,Nat.le_refl _,hW,hb⟩,by rw[hzl];exact q1,?_,?_,.slice none 0 0,r3.alloc _,World.ownsRow_nil _ _ _ _⟩,hb⟩
 ·rw[hzl]
  unfold zB2
  rw[World.cell?_alloc_past _ _ _ (by simp),World.cell?_alloc_past _ _ _ (by simp)]
  exact World.cell?_alloc_at _ _ _ 0 (by simp)
 ·unfold zB2
  exact World.cell?_alloc_at _ _ _ 0 (by simp)
set_option maxHeartbeats 1600000 in
set_option maxRecDepth 100000 in
theorem zIK (m:Mod) (con:Nat) (c:MCon) (vs cs:Value) (w:World) (hm:zAI m=0) (hc:m.cons[con]? = some c) (hma:MArg w vs cs m) :
 Calls Tryz.prog 173 #[modV vs cs m,.int .i64 con] w fun e w'=>∃x,e=.returned x∧w'.ownsRow w.heap.size 152 1 x (zAj m.vars c).length (u64s (zAj m.vars c))∧Below w.heap.size w w':=by
 have HMA:Hid (∀w',Below w.heap.size w w'→MArg w' vs cs m):=fun w' h=>MArg.below h hma
 have HM:Hid (zAI m=0):=hm
 have HC:Hid (m.cons[con]? = some c):=hc
 have H6:m.vars.length≤6:=(zAc m hm).2.1
 have hcon:con<m.cons.length:=(List.getElem?_eq_some_iff.1 hc).1
 have HSC:Hid (zEI m (con:Int)=(zAQ c,0)):=by
  show _=_
  have h1:zA9 m (con:Int)=0:=by unfold zA9;rw[if_pos hm,if_neg (by omega)]
  unfold zEI
  rw[if_pos h1,Int.toNat_natCast,List.getD_eq_getElem?_getD,hc];rfl
 have hmk:=run_make_row' (P:=Tryz.prog) 26 3 (.int .i64 0) 8 Tryz.underIntsF Tryz.infoIntF rfl .i64 .i64 m.vars.length (by omega) (by omega)
 obtain⟨⟨a1,c1,rfl,hm1,_⟩,⟨a2,c2,rfl,_,_⟩⟩:=hma
 unfold maxLen at hm1
 obtain⟨hm11,hm1⟩:=hm1
 unfold modV
 clear hm hc
 go_enter Tryz.func173,Tryz.ntmps173
 go_wp2_with fail
 refine (zE8 m (con:Int) _ _ _ (HMA.out _ ((zAA _ _).alloc (by simp) _))).mono ?_
 rw[HSC.out]
 rintro e w1 ⟨x,rfl,hx,hb1⟩
 have hbw:Below w.heap.size w w1:=((zAA _ _).alloc (by simp) _).trans (hb1.mono (by simp;omega))
 have hq0:w1.cell? ⟨w.heap.size,0,none⟩=some (.slice a1 m.vars.length c1):=(hb1.cell (by simp;omega)).trans ((World.cell?_alloc_past _ _ _ (by simp)).trans (World.cell?_alloc_at _ _ _ 0 (by simp)))
 have hq1:w1.cell? ⟨w.heap.size,1,none⟩=some (.slice a2 m.cons.length c2):=(hb1.cell (by simp;omega)).trans ((World.cell?_alloc_past _ _ _ (by simp)).trans (World.cell?_alloc_at _ _ _ 1 (by simp)))
 have hq2:w1.cell? ⟨w.heap.size+1,0,none⟩=some (.int .i64 con):=(hb1.cell (by simp)).trans (World.cell?_alloc_at _ _ _ 0 (by simp))
 have hl0:w.heap.size+1<w1.heap.size:=by have:=hb1.size;simp at this;omega
 have hl1:w.heap.size<w1.heap.size:=by omega
 have HX:Hid (IArg w1 x (zAQ c)):=hx
 obtain⟨ax,cx,rfl,_,_⟩:=hx
 have HBW:Hid (Below w.heap.size w w1):=hbw
 have HSCI:Hid (∀v∈zAQ c,0≤v∧v<(m.vars.length:Int)):=(zBu m HM.out con c HC.out).1
 have HS8:Hid ((zAQ c).length≤8):=zG5 m HM.out con c HC.out
 have HPN:Hid (_):=zLM (W:=w1.alloc (.cells #[.slice ax (zAQ c).length cx] 26)) (N:=w1.heap.size+1) (bs:=w1.heap.size) (bm:=w.heap.size) (bc:=w.heap.size+1) (con:=con) (n:=m.vars.length) (m:=m) (scope:=zAQ c) (by simp) H6
  ⟨HMA.out _ (HBW.out.alloc HBW.out.size _),IArg.below (zAA _ _) HX.out,World.cell?_alloc_at _ _ _ 0 (by simp),(World.cell?_alloc_past _ _ _ hl1).trans hq0,(World.cell?_alloc_past _ _ _ hl1).trans hq1,(World.cell?_alloc_past _ _ _ hl0).trans hq2⟩
 clear hb1 hbw
 go_wp2_with fail
 have HB5:Hid (Below w.heap.size w (zB2 (w1.heap.size+1) w1.heap.size w.heap.size (w.heap.size+1) m.vars.length (w1.alloc (.cells #[.slice ax (zAQ c).length cx] 26)))):=(HBW.out.alloc HBW.out.size _).trans (HPN.out.2.mono (by have:=HBW.out.size;omega))
 have HZL:Hid ((zAn m.vars.length).length=m.vars.length):=by show _=_;simp[zAn]
 refine (zLL (w1.heap.size+1) w1.heap.size w.heap.size (w.heap.size+1) m con c _ _ _ (zAQ c) HM.out HC.out HSCI.out HS8.out (zAQ c) 0 (zAn m.vars.length) 0 [] (zB2 (w1.heap.size+1) w1.heap.size w.heap.size (w.heap.size+1) m.vars.length (w1.alloc (.cells #[.slice ax (zAQ c).length cx] 26))) rfl (Nat.zero_le _) HZL.out (fun x hx=>by have:=List.eq_of_mem_replicate hx;omega) (by omega) ?_ HPN.out.1).mono ?_
 ·have h2:6 ^ (zAQ c).length≤6 ^ 8:=Nat.pow_le_pow_right (by omega) HS8.out
  simp only[List.length_nil]
  omega
 rintro e w2 ⟨rfl,vals',hT2,_,_,_,hb2⟩
 have HB6:Hid (Below w.heap.size w w2):=HB5.out.trans (hb2.mono (by have:=HBW.out.size;omega))
 obtain⟨hsz,_,_,_,_,ov,ho,hr⟩:=hT2
 have HPA:Hid (w2.ownsRow w.heap.size 152 1 ov (zAj m.vars c).length (u64s (zAj m.vars c))):=World.ownsRow.mono hr (by have:=HBW.out.size;omega)
 obtain⟨ao,co,rfl⟩:=zAC hr
 have hco:w2.cell? ⟨w1.heap.size+1+1+1,0,none⟩=some (.slice ao ([]++zAS m.vars c (zAQ c) (zAn m.vars.length) 0).length co):=ho.cellAt 0 (by omega)
 have hlo:w1.heap.size+1+1+1<w2.heap.size:=by omega
 clear hr ho hb2 HPN
 go_wp2
 go_ret
 exact⟨_,rfl,HPA.out,HB6.out⟩
theorem zIL (m:Mod) (hm:zAI m=0) (j:Nat) (c:MCon) (hc:m.cons[j]? = some c):∀z∈zAj m.vars c,z<2 ^ 36:=zGD m.vars (zFf m hm) c _ _ _ (zBu m hm j c hc).1 (by omega)
theorem Tryz.infoPts:(Tryz.prog.info? 193).map (fun i=>(i.zero,i.size,i.bytes))=some (some (.slice none 0 0),1,24):=by kernel_rfl
theorem Tryz.underPts:Tryz.prog.underlying 201=some (.slice 193):=by kernel_rfl
theorem Tryz.underPart:Tryz.prog.underlying 193=some (.slice 152):=by kernel_rfl
def PRow (B:Nat) (w:World) (pv:Value) (L:List (List Nat)):Prop :=
 ∃cells,w.ownsRow B 193 1 pv L.length cells∧∀(i:Nat) (pts:List Nat),L[i]? = some pts→∃x,cells[i]? = some x∧w.ownsRow B 152 1 x pts.length (u64s pts)
theorem PRow.below {B:Nat} {w w':World} {pv:Value} {L:List (List Nat)} (h:PRow B w pv L) (hb:Below w.heap.size w w'):PRow B w' pv L:=by
 obtain⟨cells,h1,h2⟩:=h
 refine⟨cells,zAD h1 hb,fun i pts hi=>?_⟩
 obtain⟨x,h3,h4⟩:=h2 i pts hi
 exact⟨x,h3,zAD h4 hb⟩
theorem zCI {X:Nat→Prop} {w w':World} {B:Nat} {e:TypeId} {s n:Nat} {v:Value} {xs:List Value} (h:w.ownsRow B e s v n xs) (hf:Fr X w w') (hx:∀g,v.ownBlock=some g→¬X g):w'.ownsRow B e s v n xs:=by
 refine⟨h.1,?_⟩
 rcases h.2 with hn | ⟨g,cap,cur,hv,hg,hh,r⟩
 ·exact .inl hn
 ·exact .inr ⟨g,cap,cur,hv,hg,(hf.block g (Array.getElem?_eq_some_iff.1 hh).1 (hx g (by rw[hv];rfl))).trans hh,r⟩
theorem PRow.fr {X:Nat→Prop} {B:Nat} {w w':World} {pv:Value} {L:List (List Nat)} (h:PRow B w pv L) (hf:Fr X w w') (hx:∀g,X g→g<B):PRow B w' pv L:=by
 obtain⟨cells,h1,h2⟩:=h
 refine⟨cells,zCI h1 hf (fun g hg hX=>?_),fun i pts hi=>?_⟩
 ·have:=(h1.lt g hg).1
  have:=hx g hX
  omega
 ·obtain⟨x,h3,h4⟩:=h2 i pts hi
  refine⟨x,h3,zCI h4 hf (fun g hg hX=>?_)⟩
  have:=(h4.lt g hg).1
  have:=hx g hX
  omega
theorem PRow.arg {B:Nat} {w:World} {pv:Value} {L:List (List Nat)} (h:PRow B w pv L) (hl:∀pts∈L,∀z∈pts,z<2 ^ 36):zGG w pv L:=by
 obtain⟨cells,h1,h2⟩:=h
 rcases h1.2 with ⟨rfl,hn⟩ | ⟨g,cap,cur,rfl,hg,hh,hc1,hc2,_,_⟩
 ·have:L=[]:=List.eq_nil_of_length_eq_zero hn
  subst this
  exact⟨none,0,rfl,⟨Nat.le_refl _,Nat.zero_le _⟩,fun i z hz=>by simp at hz⟩
 ·refine⟨_,cap,rfl,⟨hc1,hc2⟩,fun i pts hi=>?_⟩
  obtain⟨x,h3,h4⟩:=h2 i pts hi
  have hil:i<L.length:=(List.getElem?_eq_some_iff.1 hi).1
  exact⟨g,0,x,rfl,(Array.getElem?_eq_some_iff.1 hh).1,by rw[Nat.zero_add,h1.cellAt i (by omega)];exact h3,zDP h4 (hl pts (List.mem_of_getElem? hi))⟩
theorem PRow.push {B:Nat} {w w':World} {pv v' x:Value} {L:List (List Nat)} {cells:List Value} {pts:List Nat} {n:Nat} (hc:w.ownsRow B 193 1 pv L.length cells) (h2:∀(i:Nat) (p:List Nat),L[i]? = some p→∃x,cells[i]? = some x∧w.ownsRow B 152 1 x p.length (u64s p))
 (hx:w.ownsRow B 152 1 x pts.length (u64s pts)) (hg:w.grownBy w' pv.ownBlock) (hn:n=L.length+1) (ho:w'.ownsRow B 193 1 v' n (cells++[x])):PRow B w' v' (L++[pts]):=by
 have hcl:cells.length=L.length:=by have:=hc.1;omega
 refine⟨cells++[x],by rw[List.length_append];rw[hn] at ho;exact ho,fun i p hi=>?_⟩
 by_cases hil:i<L.length
 ·rw[List.getElem?_append_left hil] at hi
  obtain⟨y,h3,h4⟩:=h2 i p hi
  exact⟨y,by rw[List.getElem?_append_left (by omega)];exact h3,zAi h4 hg hc (by decide)⟩
 ·have hlen:=(List.getElem?_eq_some_iff.1 hi).1
  rw[List.length_append] at hlen
  have:i=L.length:=by simp at hlen;omega
  subst this
  rw[List.getElem?_append_right (Nat.le_refl _),Nat.sub_self] at hi
  have:pts=p:=by simpa using hi
  subst this
  exact⟨x,by rw[List.getElem?_append_right (by omega),hcl,Nat.sub_self];rfl,zAi hx hg hc (by decide)⟩
structure Rul (W:World) (r:Nat) (sv pv:Value) (vs:List MVar) (pt:List (List Nat)):Prop where
 lt:r<W.heap.size
 keep:∀w',Fr (fun k=>k=r) W w'→VArg w' sv vs∧zGG w' pv pt∧TabT w'
structure RulD (W w:World) (r:Nat) (sv pv cv:Value) (cs:List Nat):Prop where
 blk:w.heap[r]? = some (.cells #[sv,pv,cv] 203)
 own:w.ownsRow W.heap.size 152 1 cv cs.length (u64s cs)
 lt36:∀z∈cs,z<2 ^ 36
 fr:Fr (fun k=>k=r) W w
theorem RulD.at {W w:World} {r:Nat} {sv pv cv:Value} {vs:List MVar} {pt:List (List Nat)} {cs:List Nat} (h:RulD W w r sv pv cv cs) (hr:Rul W r sv pv vs pt):RulesAt w r sv pv cv vs pt cs :=
 ⟨(Array.getElem?_eq_some_iff.1 h.blk).1,blk9 h.blk 0 _ rfl,blk9 h.blk 1 _ rfl,blk9 h.blk 2 _ rfl,(hr.keep w h.fr).1,(hr.keep w h.fr).2.1,zDP h.own h.lt36,(hr.keep w h.fr).2.2⟩
theorem RulD.below {W w w':World} {r:Nat} {sv pv cv:Value} {cs:List Nat} (h:RulD W w r sv pv cv cs) (hb:Below w.heap.size w w'):RulD W w' r sv pv cv cs :=
 ⟨(hb.block r (Array.getElem?_eq_some_iff.1 h.blk).1).trans h.blk,zAD h.own hb,h.lt36,h.fr.trans (Fr.below hb)⟩
theorem zFM (w:World) (z:Nat):∀(j:Nat) (u:Value),([Value.int .u64 (z:Int)]:List Value)[j]? = some u→(w.alloc (.cells #[.int .u64 (z:Int)] 152)).cell? ((⟨w.heap.size,0,none⟩:Addr).add j)=some u:=by
 intro j u hj
 match j,hj with
 | 0,hj=>simp at hj;subst hj;simp[Addr.add]
theorem zKd (w:World) (x:Value):∀(j:Nat) (u:Value),([x]:List Value)[j]? = some u→(w.alloc (.cells #[x] 193)).cell? ((⟨w.heap.size,0,none⟩:Addr).add j)=some u:=by
 intro j u hj
 match j,hj with
 | 0,hj=>simp at hj;subst hj;simp[Addr.add]
theorem RulD.push {W w w1 w2:World} {r:Nat} {sv pv cv v':Value} {cs:List Nat} {z n:Nat} (h:RulD W w r sv pv cv cs) (hz:z<2 ^ 36) (hb:Below w.heap.size w w1) (hg:w1.grownBy w2 cv.ownBlock) (hn:n=cs.length+1) (ho:w2.ownsRow W.heap.size 152 1 v' n (u64s cs++[.int .u64 (z:Int)])) :
 RulD W (w2.setCell ⟨r,2,none⟩ v') r sv pv v' (cs++[z])∧Fr (fun k=>k=r∨cv.ownBlock=some k) w (w2.setCell ⟨r,2,none⟩ v'):=by
 have h1:=h.below hb
 have hb2:w2.heap[r]? = some (.cells #[sv,pv,cv] 203):=zAq h1.blk hg h1.own (by decide)
 have ho2:w2.ownsRow W.heap.size 152 1 v' (cs++[z]).length (u64s (cs++[z])):=by
  rw[List.length_append,List.length_singleton,←hn]
  unfold u64s at *
  rw[List.map_append];exact ho
 refine⟨⟨?_,zB1 ho2 hb2 (by decide) 2 _,fun y hy=>?_,?_⟩,?_⟩
 ·rw[heap_setCell_same w2 r 2 _ _ v' hb2];rfl
 ·rcases List.mem_append.1 hy with h3 | h3
  ·exact h.lt36 y h3
  ·rw[List.mem_singleton.1 h3];exact hz
 ·exact (h1.fr.grown hg (fun k hk=>Or.inr ((h1.own.lt k hk).1))).setX (p:=⟨r,2,none⟩) rfl _
 ·exact Fr.setX (X:=fun k=>k=r∨cv.ownBlock=some k) ((Fr.below hb).grown hg (fun k hk=>Or.inl (Or.inr hk))) (p:=⟨r,2,none⟩) (Or.inl rfl) _
set_option maxHeartbeats 3200000 in
set_option maxRecDepth 100000 in
theorem zLN (vs:List MVar) (hva:zAH vs) (pt:List (List Nat)) (cs:List Nat) (hcs:cs.length≤100000) (cl:Cla) (W:World) (r:Nat) (sv pv cv u:Value) (w:World) (hR:Rul W r sv pv vs pt) (hD:RulD W w r sv pv cv cs) (hu:LArg w u cl) :
 Calls Tryz.prog 176 #[.pointer (some ⟨r,0,none⟩),u] w fun e w'=>e=.returned (.tuple #[])∧∃cv',RulD W w' r sv pv cv' (cs++[zAR vs cl])∧Fr (fun k=>k=r∨cv.ownBlock=some k) w w':=by
 obtain⟨i0,hi0,hz0,hz1,hz2⟩:=info_parts Tryz.infoPart
 have HD:Hid (RulD W w r sv pv cv cs):=hD
 have hRA:=hD.at hR
 have HU:Hid (∀Y,Below w.heap.size w Y→LArg Y u cl):=fun Y hY=>LArg.below hY hu
 have HV:Hid (∀Y,Below w.heap.size w Y→VArg Y sv vs):=fun Y hY=>VArg.below hY hRA.hv
 have HVO:Hid (zAH vs):=hva
 have hcv:Hid (∃a c,cv=.slice a cs.length c):=zAC hD.own
 obtain⟨ac,cc,rfl⟩:=hcv.out
 have g0:=hRA.c0
 have g2:=hRA.c2
 have gl:=hRA.lt
 have gz:w.frozen? ⟨r,2,none⟩=false:=frz9 hD.blk 2
 obtain⟨h,hh⟩:∃h,zAR vs cl=h:=⟨_,rfl⟩
 have HH:Hid (zAR vs cl=h):=hh
 have HH36:Hid (h<2 ^ 36):=by rw[←hh];exact zDY vs hva.1 _
 rw[hh]
 obtain⟨a,c,rfl,_,_⟩:=hRA.hv
 obtain⟨a2,c2,rfl,_,_⟩:=hu
 have HHE:Hid (∀Y,Below w.heap.size w Y→Calls Tryz.prog 178 #[.slice a (List.length vs) c,.slice a2 (List.length cl) c2] Y fun e w'=>e=.returned (.int .u64 (h:Int))∧Below Y.heap.size Y w'):=fun Y hY=>by
  rw[←HH.out];exact zCk vs HVO.out cl _ _ Y (HV.out _ hY) (HU.out _ hY)
 have HDR:Hid (W.heap.size≤w.heap.size):=hD.fr.size
 clear hD hva hh hRA hR hcv
 go_enter Tryz.func176,Tryz.ntmps176
 go_wp2_with fail
 go_region_law
  (first
   | (rw[if_pos (by rfl)];refine wp_append_own _ _ _ 193 rfl W.heap.size 152 i0 _ 1 8 Tryz.underPart hi0 hz0 hz1 hz2 rfl (by decide) _ _ _ rfl (hw3.alloc _) ⟨w3.heap.size,0,none⟩ 1 1 [.int .u64 (h:Int)] rfl rfl (zFM w3 h) (by intro u hu;simp at hu;subst hu;rfl) ?_ ?_ ?_ ?_;(unfold maxLen;omega);omega;(have:=hB3.size;have:=HDR.out;simp;omega);intro v4 w4 hown4 hg4 _;have hP:=RulD.push HD.out HH36.out (hB3.alloc hB3.size (.cells #[.int .u64 (h:Int)] 152)) hg4 rfl hown4;obtain⟨a9,b9,hv9⟩:=zAC hown4;subst hv9;have d2:w4.cell? ⟨r,2,none⟩=some (.slice ac cs.length cc):=blk9 (zAq (HD.out.below (hB3.alloc hB3.size (.cells #[.int .u64 (h:Int)] 152))).blk hg4 (hw3.alloc _) (by decide)) 2 _ rfl;have z2:w4.frozen? ⟨r,2,none⟩=false:=frz9 (zAq (HD.out.below (hB3.alloc hB3.size (.cells #[.int .u64 (h:Int)] 152))).blk hg4 (hw3.alloc _) (by decide)) 2)
   | (rw[if_pos (by rfl)];go_simp;go_at_call 178;refine (HHE.out _ (Below.refl _ _).drew).mono ?_;rintro e w3 ⟨rfl,hb3⟩;have hB3:Below w.heap.size w w3:=(Below.refl _ _).drew.trans hb3;have c3:w3.cell? ⟨r,2,none⟩=some (.slice ac cs.length cc):=(hB3.cell (p:=⟨r,2,none⟩) gl).trans g2;have hw3:w3.ownsRow W.heap.size 152 1 (.slice ac cs.length cc) cs.length (u64s cs):=zAD HD.out.own hB3;have l3:r<w3.heap.size:=Nat.lt_of_lt_of_le gl hB3.size;dsimp only))
 all_goals
  go_wp2
  go_end0
  exact⟨rfl,_,hP.1,hP.2⟩
end Go.Proofs.YtdjbejlbmaiocafGreatDoor
