/- What the proof leans on, part 21. -/
import Derived.Test.YtndcpnlaadikoaaGreatDoorPartAr
import Derived.Test.YtndcpnlaadikoaaGreatDoorPartAt
import Derived.Deep.RegionLaw
import Derived.Deep.CutBlock
import Derived.Test.YtndcpnlaadikoaaGreatDoorPartAs
import Derived.Test.YtndcpnlaadikoaaGreatDoorPartAp
import Derived.Lib.SliceRun
import Derived.Deep.Onto
namespace Go.Proofs.YtndcpnlaadikoaaGreatDoor
open Go.RowKit
theorem Tryz.infoPts:(Tryz.prog.info? 139).map (fun i=>(i.zero,i.size,i.bytes))=some (some (.slice none 0 0),1,24):=by kernel_rfl
theorem Tryz.underPts:Tryz.prog.underlying 138=some (.slice 139):=by kernel_rfl
theorem Tryz.underPart:Tryz.prog.underlying 139=some (.slice 136):=by kernel_rfl
def PRow (B:Nat) (w:World) (pv:Value) (L:List (List Nat)):Prop :=
 ∃cells,w.ownsRow B 139 1 pv L.length cells∧∀(i:Nat) (pts:List Nat),L[i]? = some pts→∃x,cells[i]? = some x∧w.ownsRow B 136 1 x pts.length (u64s pts)
theorem PRow.below {B:Nat} {w w':World} {pv:Value} {L:List (List Nat)} (h:PRow B w pv L) (hb:Below w.heap.size w w'):PRow B w' pv L:=by
 obtain⟨cells,h1,h2⟩:=h
 refine⟨cells,zAD h1 hb,fun i pts hi=>?_⟩
 obtain⟨x,h3,h4⟩:=h2 i pts hi
 exact⟨x,h3,zAD h4 hb⟩
theorem zIp {X:Nat→Prop} {w w':World} {B:Nat} {e:TypeId} {s n:Nat} {v:Value} {xs:List Value} (h:w.ownsRow B e s v n xs) (hf:Fr X w w') (hx:∀g,v.ownBlock=some g→¬X g):w'.ownsRow B e s v n xs:=by
 refine⟨h.1,?_⟩
 rcases h.2 with hn | ⟨g,cap,cur,hv,hg,hh,r⟩
 ·exact .inl hn
 ·exact .inr ⟨g,cap,cur,hv,hg,(hf.block g (Array.getElem?_eq_some_iff.1 hh).1 (hx g (by rw[hv];rfl))).trans hh,r⟩
theorem PRow.fr {X:Nat→Prop} {B:Nat} {w w':World} {pv:Value} {L:List (List Nat)} (h:PRow B w pv L) (hf:Fr X w w') (hx:∀g,X g→g<B):PRow B w' pv L:=by
 obtain⟨cells,h1,h2⟩:=h
 refine⟨cells,zIp h1 hf (fun g hg hX=>?_),fun i pts hi=>?_⟩
 ·have:=(h1.lt g hg).1
  have:=hx g hX
  omega
 ·obtain⟨x,h3,h4⟩:=h2 i pts hi
  refine⟨x,h3,zIp h4 hf (fun g hg hX=>?_)⟩
  have:=(h4.lt g hg).1
  have:=hx g hX
  omega
theorem PRow.arg {B:Nat} {w:World} {pv:Value} {L:List (List Nat)} (h:PRow B w pv L) (hl:∀pts∈L,∀z∈pts,z<2 ^ 36):zFS w pv L:=by
 obtain⟨cells,h1,h2⟩:=h
 rcases h1.2 with ⟨rfl,hn⟩ | ⟨g,cap,cur,rfl,hg,hh,hc1,hc2,_,_⟩
 ·have:L=[]:=List.eq_nil_of_length_eq_zero hn
  subst this
  exact⟨none,0,rfl,⟨Nat.le_refl _,Nat.zero_le _⟩,fun i z hz=>by simp at hz⟩
 ·refine⟨_,cap,rfl,⟨hc1,hc2⟩,fun i pts hi=>?_⟩
  obtain⟨x,h3,h4⟩:=h2 i pts hi
  have hil:i<L.length:=(List.getElem?_eq_some_iff.1 hi).1
  exact⟨g,0,x,rfl,(Array.getElem?_eq_some_iff.1 hh).1,by rw[Nat.zero_add,h1.cellAt i (by omega)];exact h3,zEE h4 (hl pts (List.mem_of_getElem? hi))⟩
theorem PRow.push {B:Nat} {w w':World} {pv v' x:Value} {L:List (List Nat)} {cells:List Value} {pts:List Nat} {n:Nat} (hc:w.ownsRow B 139 1 pv L.length cells) (h2:∀(i:Nat) (p:List Nat),L[i]? = some p→∃x,cells[i]? = some x∧w.ownsRow B 136 1 x p.length (u64s p))
 (hx:w.ownsRow B 136 1 x pts.length (u64s pts)) (hg:w.grownBy w' pv.ownBlock) (hn:n=L.length+1) (ho:w'.ownsRow B 139 1 v' n (cells++[x])):PRow B w' v' (L++[pts]):=by
 have hcl:cells.length=L.length:=by have:=hc.1;omega
 refine⟨cells++[x],by rw[List.length_append];rw[hn] at ho;exact ho,fun i p hi=>?_⟩
 by_cases hil:i<L.length
 ·rw[List.getElem?_append_left hil] at hi
  obtain⟨y,h3,h4⟩:=h2 i p hi
  exact⟨y,by rw[List.getElem?_append_left (by omega)];exact h3,zBe h4 hg hc (by decide)⟩
 ·have hlen:=(List.getElem?_eq_some_iff.1 hi).1
  rw[List.length_append] at hlen
  have:i=L.length:=by simp at hlen;omega
  subst this
  rw[List.getElem?_append_right (Nat.le_refl _),Nat.sub_self] at hi
  have:pts=p:=by simpa using hi
  subst this
  exact⟨x,by rw[List.getElem?_append_right (by omega),hcl,Nat.sub_self];rfl,zBe hx hg hc (by decide)⟩
structure Rul (W:World) (r:Nat) (sv pv:Value) (vs:List MVar) (pt:List (List Nat)):Prop where
 lt:r<W.heap.size
 keep:∀w',Fr (fun k=>k=r) W w'→VArg w' sv vs∧zFS w' pv pt∧TabT w'
structure RulD (W w:World) (r:Nat) (sv pv cv:Value) (cs:List Nat):Prop where
 blk:w.heap[r]? = some (.cells #[sv,pv,cv] 141)
 own:w.ownsRow W.heap.size 136 1 cv cs.length (u64s cs)
 lt36:∀z∈cs,z<2 ^ 36
 fr:Fr (fun k=>k=r) W w
theorem RulD.at {W w:World} {r:Nat} {sv pv cv:Value} {vs:List MVar} {pt:List (List Nat)} {cs:List Nat} (h:RulD W w r sv pv cv cs) (hr:Rul W r sv pv vs pt):RulesAt w r sv pv cv vs pt cs :=
 ⟨(Array.getElem?_eq_some_iff.1 h.blk).1,blk9 h.blk 0 _ rfl,blk9 h.blk 1 _ rfl,blk9 h.blk 2 _ rfl,(hr.keep w h.fr).1,(hr.keep w h.fr).2.1,zEE h.own h.lt36,(hr.keep w h.fr).2.2⟩
theorem RulD.below {W w w':World} {r:Nat} {sv pv cv:Value} {cs:List Nat} (h:RulD W w r sv pv cv cs) (hb:Below w.heap.size w w'):RulD W w' r sv pv cv cs :=
 ⟨(hb.block r (Array.getElem?_eq_some_iff.1 h.blk).1).trans h.blk,zAD h.own hb,h.lt36,h.fr.trans (Fr.below hb)⟩
theorem zGJ (w:World) (z:Nat):∀(j:Nat) (u:Value),([Value.int .u64 (z:Int)]:List Value)[j]? = some u→(w.alloc (.cells #[.int .u64 (z:Int)] 136)).cell? ((⟨w.heap.size,0,none⟩:Addr).add j)=some u:=by
 intro j u hj
 match j,hj with
 | 0,hj=>simp at hj;subst hj;simp[Addr.add]
theorem zMk (w:World) (x:Value):∀(j:Nat) (u:Value),([x]:List Value)[j]? = some u→(w.alloc (.cells #[x] 139)).cell? ((⟨w.heap.size,0,none⟩:Addr).add j)=some u:=by
 intro j u hj
 match j,hj with
 | 0,hj=>simp at hj;subst hj;simp[Addr.add]
theorem RulD.push {W w w1 w2:World} {r:Nat} {sv pv cv v':Value} {cs:List Nat} {z n:Nat} (h:RulD W w r sv pv cv cs) (hz:z<2 ^ 36) (hb:Below w.heap.size w w1) (hg:w1.grownBy w2 cv.ownBlock) (hn:n=cs.length+1) (ho:w2.ownsRow W.heap.size 136 1 v' n (u64s cs++[.int .u64 (z:Int)])) :
 RulD W (w2.setCell ⟨r,2,none⟩ v') r sv pv v' (cs++[z])∧Fr (fun k=>k=r∨cv.ownBlock=some k) w (w2.setCell ⟨r,2,none⟩ v'):=by
 have h1:=h.below hb
 have hb2:w2.heap[r]? = some (.cells #[sv,pv,cv] 141):=zB0 h1.blk hg h1.own (by decide)
 have ho2:w2.ownsRow W.heap.size 136 1 v' (cs++[z]).length (u64s (cs++[z])):=by
  rw[List.length_append,List.length_singleton,←hn]
  unfold u64s at *
  rw[List.map_append];exact ho
 refine⟨⟨?_,zGz ho2 hb2 (by decide) 2 _,fun y hy=>?_,?_⟩,?_⟩
 ·rw[heap_setCell_same w2 r 2 _ _ v' hb2];rfl
 ·rcases List.mem_append.1 hy with h3 | h3
  ·exact h.lt36 y h3
  ·rw[List.mem_singleton.1 h3];exact hz
 ·exact (h1.fr.grown hg (fun k hk=>Or.inr ((h1.own.lt k hk).1))).setX (p:=⟨r,2,none⟩) rfl _
 ·exact Fr.setX (X:=fun k=>k=r∨cv.ownBlock=some k) ((Fr.below hb).grown hg (fun k hk=>Or.inl (Or.inr hk))) (p:=⟨r,2,none⟩) (Or.inl rfl) _
set_option maxHeartbeats 3200000 in
set_option maxRecDepth 100000 in
theorem zNe (vs:List MVar) (hva:zAU vs) (pt:List (List Nat)) (cs:List Nat) (hcs:cs.length≤100000) (cl:Cla) (W:World) (r:Nat) (sv pv cv u:Value) (w:World) (hR:Rul W r sv pv vs pt) (hD:RulD W w r sv pv cv cs) (hu:LArg w u cl) :
 Calls Tryz.prog 83 #[.pointer (some ⟨r,0,none⟩),u] w fun e w'=>e=.returned (.tuple #[])∧∃cv',RulD W w' r sv pv cv' (cs++[zAF vs cl])∧Fr (fun k=>k=r∨cv.ownBlock=some k) w w':=by
 obtain⟨i0,hi0,hz0,hz1,hz2⟩:=info_parts Tryz.infoPart
 have HD:Hid (RulD W w r sv pv cv cs):=hD
 have hRA:=hD.at hR
 have HU:Hid (∀Y,Below w.heap.size w Y→LArg Y u cl):=fun Y hY=>LArg.below hY hu
 have HV:Hid (∀Y,Below w.heap.size w Y→VArg Y sv vs):=fun Y hY=>VArg.below hY hRA.hv
 have HVO:Hid (zAU vs):=hva
 have hcv:Hid (∃a c,cv=.slice a cs.length c):=zAE hD.own
 obtain⟨ac,cc,rfl⟩:=hcv.out
 have g0:=hRA.c0
 have g2:=hRA.c2
 have gl:=hRA.lt
 have gz:w.frozen? ⟨r,2,none⟩=false:=frz9 hD.blk 2
 obtain⟨h,hh⟩:∃h,zAF vs cl=h:=⟨_,rfl⟩
 have HH:Hid (zAF vs cl=h):=hh
 have HH36:Hid (h<2 ^ 36):=by rw[←hh];exact zEV vs hva.1 _
 rw[hh]
 obtain⟨a,c,rfl,_,_⟩:=hRA.hv
 obtain⟨a2,c2,rfl,_,_⟩:=hu
 have HHE:Hid (∀Y,Below w.heap.size w Y→Calls Tryz.prog 85 #[.slice a (List.length vs) c,.slice a2 (List.length cl) c2] Y fun e w'=>e=.returned (.int .u64 (h:Int))∧Below Y.heap.size Y w'):=fun Y hY=>by
  rw[←HH.out];exact zD8 vs HVO.out cl _ _ Y (HV.out _ hY) (HU.out _ hY)
 have HDR:Hid (W.heap.size≤w.heap.size):=hD.fr.size
 clear hD hva hh hRA hR hcv
 go_enter Tryz.func83,Tryz.ntmps83
 go_wp2_with fail
 go_region_law
  (first
    | (rw[if_pos (by rfl)];refine wp_append_own _ _ _ 139 rfl W.heap.size 136 i0 _ 1 8 Tryz.underPart hi0 hz0 hz1 hz2 rfl (by decide) _ _ _ rfl (hw3.alloc _) ⟨w3.heap.size,0,none⟩ 1 1 [.int .u64 (h:Int)] rfl rfl (zGJ w3 h) (by intro u hu;simp at hu;subst hu;rfl) ?_ ?_ ?_ ?_;(unfold maxLen;omega);omega;(have:=hB3.size;have:=HDR.out;simp;omega);intro v4 w4 hown4 hg4 _;have hP:=RulD.push HD.out HH36.out (hB3.alloc hB3.size (.cells #[.int .u64 (h:Int)] 136)) hg4 rfl hown4;obtain⟨a9,b9,hv9⟩:=zAE hown4;subst hv9;have d2:w4.cell? ⟨r,2,none⟩=some (.slice ac cs.length cc):=blk9 (zB0 (HD.out.below (hB3.alloc hB3.size (.cells #[.int .u64 (h:Int)] 136))).blk hg4 (hw3.alloc _) (by decide)) 2 _ rfl;have z2:w4.frozen? ⟨r,2,none⟩=false:=frz9 (zB0 (HD.out.below (hB3.alloc hB3.size (.cells #[.int .u64 (h:Int)] 136))).blk hg4 (hw3.alloc _) (by decide)) 2)
    | (rw[if_pos (by rfl)];go_simp;go_at_call 85;refine (HHE.out _ (Below.refl _ _).drew).mono ?_;rintro e w3 ⟨rfl,hb3⟩;have hB3:Below w.heap.size w w3:=(Below.refl _ _).drew.trans hb3;have c3:w3.cell? ⟨r,2,none⟩=some (.slice ac cs.length cc):=(hB3.cell (p:=⟨r,2,none⟩) gl).trans g2;have hw3:w3.ownsRow W.heap.size 136 1 (.slice ac cs.length cc) cs.length (u64s cs):=zAD HD.out.own hB3;have l3:r<w3.heap.size:=Nat.lt_of_lt_of_le gl hB3.size;dsimp only))
 all_goals
  go_wp2
  go_end0
  exact⟨rfl,_,hP.1,hP.2⟩
theorem Tryz.infoLit:(Tryz.prog.info? 76).map (fun i=>(i.zero,i.size,i.bytes))=some (some (.agg #[.int .i64 0,.int .i64 0,.int .i64 0]),3,24):=by kernel_rfl
theorem Tryz.underClauseE:Tryz.prog.underlying 28=some (.slice 76):=by kernel_rfl
def zCh (t:MLit):List Value:=[.int .i64 t.var,.int .i64 t.op,.int .i64 t.n]
def zA1 (l:Cla):List Value:=l.flatMap zCh
theorem zEX (l:Cla):(zA1 l).length=l.length * 3:=by
 induction l with
 | nil=>rfl
 | cons t r ih=>unfold zA1 at *;rw[List.flatMap_cons,List.length_append,ih,List.length_cons];simp[zCh];omega
theorem zGK (l:Cla) (i:Nat) (t:MLit) (h:l[i]? = some t):(zA1 l)[i * 3]? = some (.int .i64 t.var)∧(zA1 l)[i * 3+1]? = some (.int .i64 t.op)∧(zA1 l)[i * 3+2]? = some (.int .i64 t.n):=by
 induction l generalizing i with
 | nil=>cases h
 | cons a r ih =>
   unfold zA1 at *
   rw[List.flatMap_cons]
   have hl:(zCh a).length=3:=rfl
   cases i with
   | zero=>cases h;exact⟨rfl,rfl,rfl⟩
   | succ i =>
     obtain⟨h1,h2,h3⟩:=ih i (by simpa using h)
     refine⟨?_,?_,?_⟩
     ·rw[List.getElem?_append_right (by rw[hl];omega),hl,show (i+1) * 3 - 3=i * 3 by omega];exact h1
     ·rw[List.getElem?_append_right (by rw[hl];omega),hl,show (i+1) * 3+1 - 3=i * 3+1 by omega];exact h2
     ·rw[List.getElem?_append_right (by rw[hl];omega),hl,show (i+1) * 3+2 - 3=i * 3+2 by omega];exact h3
def LOwn (base:Nat) (w:World) (v:Value) (l:Cla):Prop:=w.ownsRow base 76 3 v l.length (zA1 l)
theorem LOwn.arg {base:Nat} {w:World} {v:Value} {l:Cla} (h:LOwn base w v l):LArg w v l:=by
 have h':w.ownsRow base 76 3 v l.length (zA1 l):=h
 rcases h'.2 with ⟨rfl,hn⟩ | ⟨g,cap,cur,rfl,hg,hh,hc1,hc2,_,_⟩
 ·have:l=[]:=List.eq_nil_of_length_eq_zero hn
  subst this
  exact⟨none,0,rfl,⟨Nat.le_refl _,Nat.zero_le _⟩,fun i z hz=>by simp at hz⟩
 ·refine⟨_,cap,rfl,⟨hc1,hc2⟩,fun i t ht=>?_⟩
  have hi:i<l.length:=(List.getElem?_eq_some_iff.1 ht).1
  obtain⟨g1,g2,g3⟩:=zGK l i t ht
  exact⟨g,0,rfl,(Array.getElem?_eq_some_iff.1 hh).1,by rw[Nat.zero_add,h'.cellAt (i * 3) (by omega)];exact g1,by rw[Nat.zero_add,h'.cellAt (i * 3+1) (by omega)];exact g2,by rw[Nat.zero_add,h'.cellAt (i * 3+2) (by omega)];exact g3⟩
theorem zJc (w:World) (t:MLit):∀(j:Nat) (u:Value),(zCh t)[j]? = some u→(w.alloc (.cells #[.int .i64 t.var,.int .i64 t.op,.int .i64 t.n] 76)).cell? ((⟨w.heap.size,0,none⟩:Addr).add j)=some u:=by
 intro j u hj
 match j,hj with
 | 0,hj=>simp[zCh] at hj;subst hj;simp[Addr.add]
 | 1,hj=>simp[zCh] at hj;subst hj;simp[Addr.add]
 | 2,hj=>simp[zCh] at hj;subst hj;simp[Addr.add]
set_option maxHeartbeats 1600000 in
set_option maxRecDepth 100000 in
theorem zHn (vs:List MVar) (hva:zAU vs) (p:Nat) (hp:∀i,p.testBit i=true→(zAC vs).testBit i=true) (sv:Value) (w:World) (hv:VArg w sv vs) (hT:TabT w) :
 Calls Tryz.prog 154 #[sv,.int .u64 p] w fun e w'=>∃x,e=.returned x∧LOwn w.heap.size w' x (zBP vs p)∧Below w.heap.size w w':=by
 have HVO:Hid (zAU vs):=hva
 have HT:Hid (∀w',Below w.heap.size w w'→TabT w'):=fun w' h=>hT.below h
 have HP36:Hid (p<2 ^ 36):=by
  show p<2 ^ 36
  apply Nat.lt_pow_two_of_testBit
  intro i hi
  cases hb:p.testBit i
  ·rfl
  ·have:=hp i hb
   unfold zAC at this
   rw[Nat.testBit_lt_two_pow (Nat.lt_of_lt_of_le (zEV vs hva.1 _) (Nat.pow_le_pow_right (by omega) hi))] at this
   cases this
 have HPW:Hid (∀i,p.testBit i=true→(zAC vs).testBit i=true):=hp
 obtain⟨a,c,rfl,hm,hr⟩:=hv
 have HV:Hid (∀(i:Nat) (t:MVar),vs[i]? = some t→t.name.size≤maxLen∧∃b off,a=some ⟨b,off,none⟩∧b<w.heap.size ∧
  w.cell? ⟨b,off+i * 3,none⟩=some (.string t.name)∧w.cell? ⟨b,off+i * 3+1,none⟩=some (.int .i64 t.lo)∧w.cell? ⟨b,off+i * 3+2,none⟩=some (.int .i64 t.hi)):=hr
 unfold maxLen at hm
 obtain⟨hm1,hm⟩:=hm
 have h6:=hva.1.1
 obtain⟨i0,hi,hz0,hz1,hz2⟩:=info_parts Tryz.infoLit
 clear hr hva hp hT
 go_enter Tryz.func154,Tryz.ntmps154
 go_wp2_with fail
 go_loopw [5,6] (fun v r wr=>∃(q:Nat) (done:Cla),r=.int .u64 (q:Int)∧LOwn w.heap.size wr v done∧Hid (zBP vs p=done++zBP vs q)∧Hid (q<2 ^ 36)∧Hid (∀i,q.testBit i=true→p.testBit i=true)∧Below w.heap.size w wr) (fun _ r _=>(intOf r).toNat)
 case atStart=>exact⟨p,[],rfl,World.ownsRow_nil _ _ _ _,rfl,HP36,fun _ h=>h,Below.refl _ _⟩
 case round =>
  obtain⟨q,done,rfl,hown,hsp,hq36,hqs,hbw⟩:=hrel
  have HOW:Hid (LOwn w.heap.size wr u5 done):=hown
  have HBW:Hid (Below w.heap.size w wr):=hbw
  obtain⟨ao,co,rfl⟩:=zAE (show wr.ownsRow _ _ _ _ _ _ from hown)
  clear hown hbw
  by_cases hq0:q=0
  ·subst hq0
   have HE:Hid (LOwn w.heap.size wr (.slice ao (List.length done) co) (zBP vs p)):=by
    have:zBP vs p=done:=by rw[hsp.out];simp[zBP,zGB]
    rw[this];exact HOW.out
   clear hsp hqs
   go_wp2
   go_ret
   exact⟨_,rfl,HE.out,HBW.out⟩
  ·obtain⟨hst,hk36⟩:=zDQ q hq0 hq36.out
   obtain⟨k,hk⟩:∃k,Lib.ctz 64 q=k:=⟨_,rfl⟩
   have hbits:=zCY q hq0 (by have:=hq36.out;omega)
   have hless:=zE0 q hq0 (by have:=hq36.out;omega)
   obtain⟨q2,hq2⟩:∃q2,q &&& (q - 1)=q2:=⟨_,rfl⟩
   have HQS:Hid (∀i,q2.testBit i=true→p.testBit i=true):=fun i hi=>by
    rw[←hq2,(hbits i).2.2,Bool.and_eq_true] at hi
    exact hqs.out i hi.1
   have hkb:=(hbits k).2.1 hk.symm
   have hkw:=HPW.out k (hqs.out k hkb)
   unfold zAC ofP at hkw
   rw[zAg vs HVO.out.1] at hkw
   simp only[Bool.and_eq_true,decide_eq_true_eq] at hkw
   have hkl:k / 6<vs.length:=hkw.1
   have hbn:=HVO.out.2 (k / 6) hkl
   obtain⟨lo,hlo⟩:∃lo,(zAH vs (k / 6)).lo=lo:=⟨_,rfl⟩
   have HN:Hid (zBP vs p=(done++[⟨((k / 6:Nat):Int),3,lo+((k % 6:Nat):Int)⟩])++zBP vs q2):=by
    show _=_
    rw[hsp.out,List.append_assoc]
    congr 1
    unfold zBP
    rw[hst,hk,hq2,List.map_cons,hlo];rfl
   rw[hk] at hk36
   rw[hq2] at hless
   obtain⟨_,b,off,hax,hb,_,c1,_⟩:=HV.out (k / 6) _ (zGA hkl)
   subst hax
   have hc1:=(HBW.out.cell (p:=⟨b,off+k / 6 * 3+1,none⟩) hb).trans c1
   rw[hlo] at hc1 hbn
   have HK:Hid (Lib.ctz 64 q=k):=hk
   have hdl:done.length≤36:=by
    have h1:=zD9 vs p
    rw[hsp.out,List.length_append] at h1
    omega
   have HQ36:Hid (q<2 ^ 36):=hq36.out
   have HQ2:Hid (q2<2 ^ 36):=by have:=hq36.out;show _<_;omega
   have hsub:IntKind.u64.wrap ((q:Int) - 1)=((q - 1:Nat):Int):=by rw[IntKind.wrap_u64];have:=hq36.out;omega
   have hand:=bits_and_u64_nat q (q - 1) (by have:=hq36.out;omega) (by have:=hq36.out;omega)
   rw[hq2] at hand
   have hne:((q:Int) != 0)=true:=by simpa using hq0
   have HLS:Hid (q2<q):=hless
   have hsm:-100≤lo+((k % 6:Nat):Int)∧lo+((k % 6:Nat):Int)≤100:=by omega
   clear hst hbits hqs hq36 hkb hkw hsp hlo hq2 hk c1 hless hq0
   go_wp2_with fail
   refine (zJY q (by have:=HQ36.out;omega) _ (HT.out _ HBW.out)).mono ?_
   rintro e w1 ⟨rfl,rfl⟩
   rw[HK.out]
   obtain⟨t,ht⟩:∃t:MLit,t=⟨(k:Int) / 6,3,lo+(k:Int) % 6⟩:=⟨_,rfl⟩
   have hown:w1.ownsRow w.heap.size 76 3 (.slice ao (List.length done) co) (List.length done) (zA1 done):=HOW.out
   have HN2:Hid (zBP vs p=(done++[t])++zBP vs q2):=by show _=_;rw[ht];exact HN.out
   have hbs:=HBW.out.size
   go_wp2_with (at_builtin;refine wpList_append_own _ rfl _ _ 28 rfl w.heap.size 76 i0 (.agg #[.int .i64 0,.int .i64 0,.int .i64 0]) 3 24 Tryz.underClauseE hi hz0 hz1 hz2 rfl (by decide) _ _ _ rfl (hown.alloc _) ⟨w1.heap.size,0,none⟩ 1 1 (zCh ⟨(k:Int) / 6,3,lo+(k:Int) % 6⟩) rfl rfl ?c1 ?c2 ?c3 ?c4 ?c5 ?_)
   case c1=>exact zJc w1 ⟨(k:Int) / 6,3,lo+(k:Int) % 6⟩
   case c2=>intro u hu;simp[zCh] at hu;rcases hu with rfl | rfl | rfl <;> rfl
   case c3=>unfold maxLen;omega
   case c4=>omega
   case c5=>simp;omega
   intro v3 w3 hown3 hgrow _
   have HOW3:Hid (LOwn w.heap.size w3 v3 (done++[t])):=by
    show World.ownsRow _ _ _ _ _ _ _
    unfold zA1
    rw[List.length_append,List.flatMap_append,ht]
    simpa[zA1] using hown3
   have HB3:Hid (Below w.heap.size w w3):=(HBW.out.alloc hbs _).grown hgrow (by simp;omega) (fun g h=>(hown.lt g h).1)
   clear hown3 hgrow hown hc1
   go_wp2
   go_roundw
   case rel=>exact⟨q2,done++[t],rfl,HOW3.out,HN2,HQ2,HQS,HB3.out⟩
   case measure=>simp[intOf];exact HLS.out
theorem zEF (T:TypeId) (hT:Tryz.prog.underlying T=some (.slice 76)) (w:World) (ty:TypeId) (base n c:Nat) (v:Value) (xs:List Value) (hown:w.ownsRow base 76 3 v n xs) :
 (Builtin.append_ #[T,T] ty #[v,.slice none 0 c]).run Tryz.prog w=.ok v w:=by
 obtain⟨i0,hi,hz0,hz1,hz2⟩:=info_parts Tryz.infoLit
 rcases hown.2 with ⟨rfl,rfl⟩ | ⟨g,cap,cur,rfl,_,_,hnc,_⟩
 ·simp[Builtin.append_,run_underlying hT,sizeOf,typeInfo,hi,Builtin.lenOf,Builtin.firstCells]
 ·simp[Builtin.append_,run_underlying hT,sizeOf,typeInfo,hi,Builtin.lenOf,Builtin.firstCells,hnc,storeCells]
theorem zJd (l:Cla):∀u∈zA1 l,u.oneCell'=true:=by
 intro u hu
 obtain⟨t,_,ht⟩:=List.mem_flatMap.1 hu
 simp[zCh] at ht
 rcases ht with rfl | rfl | rfl <;> rfl
theorem zFU (l:Cla) (j:Nat) (y:Value) (h:(zA1 l)[j]? = some y):∃(i:Nat) (t:MLit),l[i]? = some t∧((j=i * 3∧y=.int .i64 t.var)∨(j=i * 3+1∧y=.int .i64 t.op)∨(j=i * 3+2∧y=.int .i64 t.n)):=by
 have hj:j<l.length * 3:=by rw[←zEX];exact (List.getElem?_eq_some_iff.1 h).1
 have hi:j / 3<l.length:=by omega
 obtain⟨g0,g1,g2⟩:=zGK l (j / 3) l[j / 3] (by simp[hi])
 refine⟨j / 3,l[j / 3],by simp[hi],?_⟩
 rcases (by omega:j=j / 3 * 3∨j=j / 3 * 3+1∨j=j / 3 * 3+2) with hq | hq | hq
 ·rw[←hq,h] at g0;exact Or.inl ⟨hq,Option.some.inj g0⟩
 ·rw[←hq,h] at g1;exact Or.inr (Or.inl ⟨hq,Option.some.inj g1⟩)
 ·rw[←hq,h] at g2;exact Or.inr (Or.inr ⟨hq,Option.some.inj g2⟩)
theorem zBf (T:TypeId) (hT:Tryz.prog.underlying T=some (.slice 76)) {w:World} {ops:Array Oper} {rest:List Oper} {o:Oper} {a:Act} {Q:Exit→Act→World→Prop} (hgd:o.guard=none) (s x:Operand)
 (ho:o.op=.call { callee:=.builtin .append,args:=#[s,x],argTypes:=#[T,T] }) (base:Nat)
 (v:Value) (xs:Cla) (hs:a.eval s=v) (hown:LOwn base w v xs)
 (u:Value) (l:Cla) (hx:a.eval x=u) (hl:LArg w u l) (hn:xs.length+l.length≤1000) (hbase:base≤w.heap.size)
 (h:∀v' w',LOwn base w' v' (xs++l)→w.grownBy w' v.ownBlock→wpList Tryz.prog ops Q rest (a.put o.dst v') w'):wpList Tryz.prog ops Q (o :: rest) a w:=by
 obtain⟨i0,hi,hz0,hz1,hz2⟩:=info_parts Tryz.infoLit
 obtain⟨q,c,rfl,hm,hc⟩:=hl
 have hown':w.ownsRow base 76 3 v xs.length (zA1 xs):=hown
 cases q with
 | none =>
   have hl0:l=[]:=by
    cases l with
    | nil=>rfl
    | cons z r=>obtain⟨b,off,hq,_⟩:=hc 0 z rfl;cases hq
   subst hl0
   refine wpList_plain hgd fun K hK=>?_
   have hr:=zEF T hT w o.type base xs.length c v _ hown'
   unfold Oper.wp execOp
   simp only[ho,resolve,invoke,builtin,Sem.run_bind,Sem.run_pure,Result.andThen_ok,List.map_toArray,List.map_cons,List.map_nil,hs,hx,List.length_nil,hr]
   exact hK _ _ (h v w (by rw[List.append_nil];exact hown) ⟨rfl,rfl,rfl,Nat.le_refl _,fun _ _ _=>rfl⟩)
 | some ad =>
   refine wpList_append_own w hgd s x T ho base 76 i0 (.agg #[.int .i64 0,.int .i64 0,.int .i64 0]) 3 24 hT hi hz0 hz1 hz2 rfl (by decide) v xs.length _ hs hown' ad l.length c (zA1 l) hx (zEX l) ?_ (zJd l) (by unfold maxLen;omega) (by omega) hbase ?_
   ·intro j y hy
    obtain⟨i,t,ht,hcase⟩:=zFU l j y hy
    obtain⟨b,off,hq,_,c0,c1,c2⟩:=hc i t ht
    cases hq
    rw[zDZ]
    rcases hcase with ⟨rfl,rfl⟩ | ⟨rfl,rfl⟩ | ⟨rfl,rfl⟩
    ·exact c0
    ·rw[←Nat.add_assoc];exact c1
    ·rw[←Nat.add_assoc];exact c2
   ·intro v' w' h1 h2 h3
    refine h v' w' ?_ h2
    show w'.ownsRow _ _ _ _ _ _
    unfold zA1 at *
    rw[List.length_append,List.flatMap_append]
    exact h1
theorem zLZ (w:World):LArg w (.slice none 0 0) []:=⟨none,0,rfl,⟨Nat.le_refl _,Nat.zero_le _⟩,fun i z hz=>by simp at hz⟩
theorem zLa {w:World} {l:Cla} {n c:Nat} (h:LArg w (.slice none n c) l):l=[]:=by
 obtain⟨a,c2,he,_,hr⟩:=h
 cases l with
 | nil=>rfl
 | cons z r =>
   obtain⟨b,off,hq,_⟩:=hr 0 z rfl
   rw[hq] at he
   cases he
theorem zAw {base base':Nat} {w:World} {v:Value} {l:Cla} (hb:base'≤base) (h:LOwn base w v l):LOwn base' w v l:=World.ownsRow.mono h hb
theorem zEk (w:World):LOwn w.heap.size (w.alloc (.cells #[] 76)) (.slice (some ⟨w.heap.size,0,none⟩) 0 0) []:=World.ownsRow_made w #[] 0 (Nat.le_refl _) (Nat.zero_le _) (by simp)
theorem zBg:Tryz.prog.underlying 28=some (.slice 76):=by kernel_rfl
set_option maxHeartbeats 800000 in
set_option maxRecDepth 100000 in
theorem zHo (l:Cla) (hl:l.length≤900) (u:Value) (w:World) (hu:LArg w u l) :
 Calls Tryz.prog 91 #[u] w fun e w'=>∃x,e=.returned x∧LOwn w.heap.size w' x l∧Below w.heap.size w w':=by
 have HU:Hid (∀w',Below w.heap.size w w'→LArg w' u l):=fun w' h=>LArg.below h hu
 have q22:∀(w:World) (a:Option Addr) (n c n' c':Nat),(binOp .eql 28 (.slice a n c) (.slice none n' c')).run Tryz.prog w=.ok (.bool a.isNone) w:=fun w a n c n' c'=>Lib.run_eql_slice_nil w _ _ a n c n' c' zBg
 obtain⟨a,c,he,_,_⟩:=id hu
 subst he
 cases a with
 | none =>
   have:=zLa hu
   subst this
   clear hu HU
   go_enter Tryz.func91,Tryz.ntmps91
   go_wp2
   go_ret
   exact⟨_,rfl,World.ownsRow_nil _ _ _ _,Below.refl _ _⟩
 | some ad =>
   have HL:Hid (l.length≤900):=hl
   clear hu hl
   go_enter Tryz.func91,Tryz.ntmps91
   go_wp2_with (at_builtin;refine zBf 28 zBg rfl _ _ rfl w.heap.size _ [] rfl (zEk w) _ l rfl (HU.out _ (zAA _ _)) ?c1 ?c2 ?_)
   case c1=>have:=HL.out;simp;omega
   case c2=>simp
   intro v3 w3 hown3 hgrow
   have HB3:Hid (Below w.heap.size w w3):=(zAA _ _).grown hgrow (by simp) (by intro k hk;simp[Value.ownBlock] at hk;omega)
   have HO3:Hid (LOwn w.heap.size w3 v3 l):=hown3
   obtain⟨av,cv,rfl⟩:=zAE (show w3.ownsRow _ _ _ _ _ _ from hown3)
   clear hown3 hgrow
   go_wp2
   go_ret
   exact⟨_,rfl,HO3.out,HB3.out⟩
theorem zBM:Tryz.prog.underlying 27=some (.slice 76):=by kernel_rfl
set_option maxHeartbeats 800000 in
set_option maxRecDepth 100000 in
theorem zGL (l:Cla) (hl:l.length≤900) (u:Value) (w:World) (hu:LArg w u l) :
 Calls Tryz.prog 227 #[u] w fun e w'=>∃x,e=.returned x∧LOwn w.heap.size w' x l∧Below w.heap.size w w':=by
 have HU:Hid (∀w',Below w.heap.size w w'→LArg w' u l):=fun w' h=>LArg.below h hu
 have q22:∀(w:World) (a:Option Addr) (n c n' c':Nat),(binOp .eql 27 (.slice a n c) (.slice none n' c')).run Tryz.prog w=.ok (.bool a.isNone) w:=fun w a n c n' c'=>Lib.run_eql_slice_nil w _ _ a n c n' c' zBM
 obtain⟨a,c,he,_,_⟩:=id hu
 subst he
 cases a with
 | none =>
   have:=zLa hu
   subst this
   clear hu HU
   go_enter Tryz.func227,Tryz.ntmps227
   go_wp2
   go_ret
   exact⟨_,rfl,World.ownsRow_nil _ _ _ _,Below.refl _ _⟩
 | some ad =>
   have HL:Hid (l.length≤900):=hl
   clear hu hl
   go_enter Tryz.func227,Tryz.ntmps227
   go_wp2_with (at_builtin;refine zBf 27 zBM rfl _ _ rfl w.heap.size _ [] rfl (zEk w) _ l rfl (HU.out _ (zAA _ _)) ?c1 ?c2 ?_)
   case c1=>have:=HL.out;simp;omega
   case c2=>simp
   intro v3 w3 hown3 hgrow
   have HB3:Hid (Below w.heap.size w w3):=(zAA _ _).grown hgrow (by simp) (by intro k hk;simp[Value.ownBlock] at hk;omega)
   have HO3:Hid (LOwn w.heap.size w3 v3 l):=hown3
   obtain⟨av,cv,rfl⟩:=zAE (show w3.ownsRow _ _ _ _ _ _ from hown3)
   clear hown3 hgrow
   go_wp2
   go_ret
   exact⟨_,rfl,HO3.out,HB3.out⟩
end Go.Proofs.YtndcpnlaadikoaaGreatDoor
