/- What the proof leans on, part 29. -/
import Derived.Test.YtdjbejlbmaiocagGreatDoorPartBb
import Derived.Test.YtdjbejlbmaiocagGreatDoorPartAh
import Derived.Test.YtdjbejlbmaiocagGreatDoorPartAi
import Derived.Test.YtdjbejlbmaiocagGreatDoorPartAg
import Derived.Test.YtdjbejlbmaiocagGreatDoorPartAf
import Derived.KernelRfl
import Derived.Test.YtdjbejlbmaiocagGreatDoorPartAb
import Derived.Deep.QuietTactic
import Derived.BigQuiet
import Derived.Deep.RegionHeld3
namespace Go.Proofs.YtdjbejlbmaiocagGreatDoor
open Go.RowKit Go.Maps
theorem SkD.setO {W w:World} {s r mb:Nat} {sv pv cv prv pav:Value} {L:List SV} {M:List Nat} {S:Sk} {C:Nat} {cs:Array Value} {t:TypeId} (h:SkD W w s r mb sv pv cv prv pav L M S) (hC:w.heap[C]? = some (.cells cs t)) (ht:TNo t) (hCW:W.heap.size≤C) (i:Nat) (u:Value):SkD W (w.setCell ⟨C,i,none⟩ u) s r mb sv pv cv prv pav L M S:=by
 have hne:∀(q:Nat) (cs':Array Value) (t':TypeId),w.heap[q]? = some (.cells cs' t')→t'≠t→q≠C:=fun q cs' t' hq hn he=>by
  subst he
  have:=hq.symm.trans hC
  simp only[Option.some.injEq,Obj.cells.injEq] at this
  exact hn this.2.1
 exact⟨(zED w ⟨C,i,none⟩ u r (hne r _ _ h.blkR (Ne.symm ht.1))).trans h.blkR,(zED w ⟨C,i,none⟩ u s (hne s _ _ h.blkS (Ne.symm ht.2.1))).trans h.blkS,zAs h.own hC ht.2.2.1 i u,h.lt36,h.prf.set hC ht.2.2.2.1 ht.2.2.2.2 i u,h.prfE,h.map.setCell (Ne.symm (zDb hC h.map)) u,zAs h.path hC ht.2.2.2.2 i u,h.apart,h.fr.setNew (p:=⟨C,i,none⟩) hCW u⟩
theorem zEU:TNo 78:=by unfold TNo;decide
theorem zMf:TNo 29:=by unfold TNo;decide
theorem zMg:TNo 25:=by unfold TNo;decide
theorem zQU:TNo 3:=by unfold TNo;decide
theorem TFr.ofAdd {W w w':World} {s r mb:Nat} {sv pv cv prv pav:Value} {L:List SV} {M:List Nat} {S:Sk} (h:SkD W w s r mb sv pv cv prv pav L M S) (hf:Fr (fun k=>k=r∨cv.ownBlock=some k) w w'):TFr w w' :=
 ⟨hf.os,hf.tape,hf.output,hf.size,fun k cs t z hk ht=>hf.block k (Array.getElem?_eq_some_iff.1 hk).1 fun hx=>by
   rcases hx with hx | hx
   ·subst hx
    have:=hk.symm.trans h.blkR
    simp only[Option.some.injEq,Obj.cells.injEq] at this
    rw[this.2.1] at ht
    exact zQI ht
   ·rcases h.own.2 with ⟨hv,_⟩ | ⟨g,cap,cur,hv,_,hh,_⟩
    ·rw[hv] at hx;cases hx
    ·rw[hv] at hx
     have:g=k:=by simpa[Value.ownBlock] using hx
     subst this
     have:=hk.symm.trans hh
     simp only[Option.some.injEq,Obj.cells.injEq] at this
     rw[this.2.1] at ht
     exact zNg ht⟩
structure ClS (m:Mod) (A:Ans) (W:World) (s r mb C qm qa:Nat) (sv cs pv:Value) (v x:Value) (wr:World) (R:Int×List Int×Sk) (best:List Int) (bv cv prv pav:Value) (L:List SV):Prop where
 ans:zBj m R best=A
 ver:v=.int .i64 R.1
 val:wr.ownsRow W.heap.size 3 1 x R.2.1.length (R.2.1.map (Value.int .i64))
 ok:R.1=1→SkO m.vars R.2.2∧R.2.2.cs.length+R.2.2.fuel+zDj m R≤400
 sol:R.1=1→Sol m R.2.1
 sk:SkD W wr s r mb sv pv cv prv pav L (R.2.2.proof.map fun x=>zAF m.vars x.cla) R.2.2
 blkC:wr.heap[C]? = some (.cells #[.pointer (some ⟨s,0,none⟩),bv] 78)
 blkM:wr.heap[qm]? = some (.cells #[sv,cs,.int .i64 m.goal,.int .i64 m.var] 25)
 blkA:wr.heap[qa]? = some (.cells #[.int .i64 0,.slice none 0 0,.slice none 0 0] 29)
 bst:wr.ownsRow W.heap.size 3 1 bv best.length (best.map (Value.int .i64))
def ClI (m:Mod) (A:Ans) (W:World) (s r mb C qm qa:Nat) (sv cs pv:Value) (v x:Value) (wr:World) (n:Nat):Prop :=
 ∃(R:Int×List Int×Sk) (best:List Int) (bv cv prv pav:Value) (L:List SV),zDj m R=n∧ClS m A W s r mb C qm qa sv cs pv v x wr R best bv cv prv pav L
theorem zJS (m:Mod) (hm:zAE m=0) (W:World) (s r mb:Nat) (sv pv cv prv pav:Value) (hB:SkB W s r mb sv pv m.vars (ptsM m)) (L:List SV) (S:Sk) (hS:SkO m.vars S) (w:World) (hD:SkD W w s r mb sv pv cv prv pav L (S.proof.map fun x=>zAF m.vars x.cla) S) :
 Calls Tryz.prog 73 #[.pointer (some ⟨s,0,none⟩)] w fun e w'=>∃x,e=.returned (.tuple #[.int .i64 (zAV m.vars (ptsM m) S).1,x])∧w'.ownsRow W.heap.size 3 1 x (zAV m.vars (ptsM m) S).2.1.length ((zAV m.vars (ptsM m) S).2.1.map (Value.int .i64))∧TFr w w' ∧
  ∃cv' prv' pav' L',SkD W w' s r mb sv pv cv' prv' pav' L' ((zAV m.vars (ptsM m) S).2.2.proof.map fun x=>zAF m.vars x.cla) (zAV m.vars (ptsM m) S).2.2 :=
 (zLC m.vars (zCy m hm) (zEN m hm) (ptsM m) W s r mb sv pv cv prv pav hB L S hS w hD).mono (by
   rintro e w' ⟨x,h1,h2,h3,h4⟩
   exact⟨x,h1,World.ownsRow.mono h2 hD.fr.size,h3,h4⟩)
set_option maxHeartbeats 6400000 in
set_option maxRecDepth 100000 in
theorem zQV (m:Mod) (hm:zAE m=0) (hg:m.goal=1∨m.goal=2) (fuel:Nat) (hf:fuel≤300) (W:World) (s r mb C:Nat) (sv cs pv:Value) (hB:SkB W s r mb sv pv m.vars (ptsM m)) (w:World)
 (hD:SkD W w s r mb sv pv (.slice none 0 0) (.slice none 0 0) (.slice none 0 0) [] [] ⟨[],fuel,[],[]⟩) (hC:w.heap[C]? = some (.cells #[.pointer (some ⟨s,0,none⟩),.slice none 0 0] 78)) (hCW:W.heap.size≤C) :
 Calls Tryz.prog 42 #[.pointer (some ⟨C,0,none⟩),modV sv cs m] w fun e w'=>∃vv pp,e=.returned (.agg #[.int .i64 (zB5 m fuel).verdict,vv,pp])∧AnsQ W.heap.size w' vv pp (zB5 m fuel)∧Fr (XS s r mb) W w':=by
 obtain⟨A,hA⟩:∃A,zB5 m fuel=A:=⟨_,rfl⟩
 rw[hA]
 have HA:Hid (zBj m (zAV m.vars (ptsM m) ⟨[],fuel,[],[]⟩) []=A):=hA
 have HSB:Hid (SkB W s r mb sv pv m.vars (ptsM m)):=hB
 have HM:Hid (zAE m=0):=hm
 have HG:Hid (m.goal=1∨m.goal=2):=hg
 have HCW:Hid (W.heap.size≤C):=hCW
 have HD0:=(show Hid _ from hD)
 have hWw:=hD.fr.size
 have hCl:C<w.heap.size:=(Array.getElem?_eq_some_iff.1 hC).1
 have HC0:Hid (w.heap[C]? = some (.cells #[.pointer (some ⟨s,0,none⟩),.slice none 0 0] 78)):=hC
 clear hA hD hB hm hg hCW
 unfold modV
 go_enter Tryz.func42,Tryz.ntmps42
 have c0:=blk9 hC 0 _ rfl
 have c1:=blk9 hC 1 _ rfl
 clear hC
 go_wp2_with fail
 obtain⟨hq1,hq2⟩:=zFK w (.cells #[sv,cs,.int .i64 m.goal,.int .i64 m.var] 25) (.cells #[.int .i64 0,.slice none 0 0,.slice none 0 0] 29)
 have hbY:Below w.heap.size w ((w.alloc (.cells #[sv,cs,.int .i64 m.goal,.int .i64 m.var] 25)).alloc (.cells #[.int .i64 0,.slice none 0 0,.slice none 0 0] 29)):=(zAA _ _).alloc (by simp) _
 refine (zJS m HM.out W s r mb sv pv _ _ _ HSB.out [] ⟨[],fuel,[],[]⟩ (zGN m.vars (fuel:Int) (by omega)) _ (HD0.out.below hbY)).mono ?_
 rintro e w1 ⟨x,rfl,hox,htf,cv1,prv1,pav1,L1,hd1⟩
 have HI:Hid (∃n,ClI m A W s r mb C w.heap.size (w.heap.size+1) sv cs pv (.int .i64 (zAV m.vars (ptsM m) ⟨[],fuel,[],[]⟩).1) x w1 n):=by
  refine⟨_,zAV m.vars (ptsM m) ⟨[],fuel,[],[]⟩,[],.slice none 0 0,cv1,prv1,pav1,L1,rfl,HA.out,rfl,hox,fun h=>?_,fun h=>(zBf m HM.out _ h).1,hd1,?_,?_,?_,World.ownsRow_nil _ _ _ _⟩
  ·obtain⟨k1,k2⟩:=zKD m.vars (zAd m HM.out) (ptsM m) ⟨[],fuel,[],[]⟩ (zGN m.vars (fuel:Int) (by omega)) h
   have:=zQT m HM.out (zAV m.vars (ptsM m) ⟨[],fuel,[],[]⟩) (fun h=>(zBf m HM.out _ h).1)
   refine⟨k1,?_⟩
   simp only[List.length_nil] at k2
   omega
  ·have h1:=(hbY.block C hCl).trans HC0.out
   exact (htf.block _ _ _ _ h1 zEU).trans h1
  ·exact (htf.block _ _ _ _ hq1 zMg).trans hq1
  ·exact (htf.block _ _ _ _ hq2 zMf).trans hq2
 obtain⟨X1,hX1⟩:∃X1,(zAV m.vars (ptsM m) ⟨[],fuel,[],[]⟩).1=X1:=⟨_,rfl⟩
 rw[hX1] at HI ⊢
 have hql:C<w.heap.size:=hCl
 clear hox htf hd1 hq1 hq2 hbY hX1 HA HC0 HD0 c0 c1
 go_wp2_with fail
 go_loopw [5,6] (fun v x wr=>∃n,ClI m A W s r mb C w.heap.size (w.heap.size+1) sv cs pv v x wr n) (fun v x wr=>zDy (ClI m A W s r mb C w.heap.size (w.heap.size+1) sv cs pv v x wr))
 case atStart=>exact HI.out
 case round =>
  have hsp:=zHA hrel
  obtain⟨N,hN⟩:∃N,zDy (ClI m A W s r mb C w.heap.size (w.heap.size+1) sv cs pv u5 u6 wr)=N:=⟨_,rfl⟩
  have HN:Hid (zDy (ClI m A W s r mb C w.heap.size (w.heap.size+1) sv cs pv u5 u6 wr)=N):=hN
  rw[hN] at hsp
  clear hrel HI hN
  obtain⟨R,best,bv,cv,prv,pav,L,hrm,hcl⟩:=hsp
  obtain rfl:=hcl.ver
  have HRM:Hid (zDj m R=N):=hrm
  have HCL:Hid (ClS m A W s r mb C w.heap.size (w.heap.size+1) sv cs pv (.int .i64 R.1) u6 wr R best bv cv prv pav L):=hcl
  obtain⟨ax,cx,rfl⟩:=zAB hcl.val
  obtain⟨ab,cb,rfl⟩:=zAB hcl.bst
  have hst:=zDO m HM.out HG.out R best hcl.sol
  rw[hcl.ans] at hst
  have c0:=blk9 hcl.blkC 0 _ rfl
  have c1:=blk9 hcl.blkC 1 _ rfl
  have cz:=frz9 hcl.blkC 1
  have cl:=(Array.getElem?_eq_some_iff.1 hcl.blkC).1
  have hWr:=hcl.sk.fr.size
  clear hrm hcl
  by_cases h1:R.1=1
  ·rw[if_pos h1] at hst
   have HST:Hid (A=zBj m (zAV m.vars (ptsM m) (zBi m R)) R.2.1):=hst
   have HSOL:Hid (Sol m R.2.1):=HCL.out.sol h1
   have HOK:Hid (SkO m.vars R.2.2∧R.2.2.cs.length+R.2.2.fuel+zDj m R≤400):=HCL.out.ok h1
   have HROOM:Hid (zDj m (zAV m.vars (ptsM m) (zBi m R))<N):=by rw[←HRM.out];exact zDN m HM.out HG.out R h1 HSOL.out
   rw[h1] at HN ⊢
   have HKY:Hid (SkD W (wr.setCell ⟨C,1,none⟩ (.slice ax R.2.1.length cx)) s r mb sv pv cv prv pav L (R.2.2.proof.map fun x=>zAF m.vars x.cla) R.2.2):=HCL.out.sk.setO HCL.out.blkC zEU HCW.out 1 _
   have HCY:Hid ((wr.setCell ⟨C,1,none⟩ (.slice ax R.2.1.length cx)).heap[C]? = some (.cells #[.pointer (some ⟨s,0,none⟩),.slice ax R.2.1.length cx] 78)):=by show _=_;rw[heap_setCell_same wr C 1 _ _ _ HCL.out.blkC];rfl
   have hnC:∀(q:Nat) (cs':Array Value) (t':TypeId),wr.heap[q]? = some (.cells cs' t')→t'≠78→q≠C:=fun q cs' t' hq hn he=>by
    subst he
    have:=hq.symm.trans HCL.out.blkC
    simp only[Option.some.injEq,Obj.cells.injEq] at this
    exact hn this.2.1
   have HMY:Hid ((wr.setCell ⟨C,1,none⟩ (.slice ax R.2.1.length cx)).heap[w.heap.size]? = some (.cells #[sv,cs,.int .i64 m.goal,.int .i64 m.var] 25)):=(zED wr ⟨C,1,none⟩ _ _ (hnC _ _ _ HCL.out.blkM (by decide))).trans HCL.out.blkM
   have HAY:Hid ((wr.setCell ⟨C,1,none⟩ (.slice ax R.2.1.length cx)).heap[w.heap.size+1]? = some (.cells #[.int .i64 0,.slice none 0 0,.slice none 0 0] 29)):=(zED wr ⟨C,1,none⟩ _ _ (hnC _ _ _ HCL.out.blkA (by decide))).trans HCL.out.blkA
   have HVY:Hid ((wr.setCell ⟨C,1,none⟩ (.slice ax R.2.1.length cx)).ownsRow W.heap.size 3 1 (.slice ax R.2.1.length cx) R.2.1.length (R.2.1.map (Value.int .i64))):=zAs HCL.out.val HCL.out.blkC (by decide) 1 _
   clear hst h1 hnC
   go_wp2_with fail
   obtain⟨Y,hY⟩:∃Y,wr.setCell ⟨C,1,none⟩ (.slice ax R.2.1.length cx)=Y:=⟨_,rfl⟩
   rw[hY] at HKY HCY HMY HAY HVY ⊢
   clear hY c0 c1 cz cl HCL
   have c0:=blk9 HCY.out 0 _ rfl
   have cl:=(Array.getElem?_eq_some_iff.1 HCY.out).1
   have m0:=blk9 HMY.out 0 _ rfl
   have m1:=blk9 HMY.out 1 _ rfl
   have m2:=blk9 HMY.out 2 _ rfl
   have m3:=blk9 HMY.out 3 _ rfl
   have ml:=(Array.getElem?_eq_some_iff.1 HMY.out).1
   obtain⟨s0,s1,s2,s3,s4,s5,s6⟩:=HKY.out.cells
   have HBT:Hid (∀Z,Below Y.heap.size Y Z→Calls Tryz.prog 89 #[.agg #[sv,cs,.int .i64 m.goal,.int .i64 m.var],.slice ax R.2.1.length cx] Z fun e w'=>∃x,e=.returned x∧LOwn Z.heap.size w' x (zAq m R.2.1)∧Below Z.heap.size Z w'):=fun Z hZ=>by
    obtain⟨q1,q2,_⟩:=zC0 m HM.out
    have hr:=zEE m HM.out _ HSOL.out
    have hb:=zCp m HM.out m.var.toNat (by omega)
    refine zJP m R.2.1 ⟨q1,by rw[HSOL.out.1.1];exact q2⟩ ⟨by omega,by omega⟩ sv cs _ Z (zDY (zAD HVY.out hZ))
   have hcs:R.2.2.cs.length≤1000:=by have:=HOK.out.2;omega
   go_region_law
    (first
      | (rw[if_pos (by rfl)];go_simp;go_at_call 89;refine (HBT.out _ (Below.refl _ _).drew).mono ?_;rintro e w3 ⟨x,rfl,hx3,hb3⟩;have hB3:Below Y.heap.size Y w3:=(Below.refl _ _).drew.trans hb3;obtain⟨a3,c3,hxf⟩:=zAB (show w3.ownsRow _ _ _ _ _ _ from hx3);subst hxf;have e0:=(hB3.cell (p:=⟨C,0,none⟩) cl).trans c0;have e1:=(hB3.cell (p:=⟨s,1,none⟩) s0).trans s2;have el:C<w3.heap.size:=Nat.lt_of_lt_of_le cl hB3.size;have el2:s<w3.heap.size:=Nat.lt_of_lt_of_le s0 hB3.size;dsimp only)
      | (rw[if_pos (by rfl)];go_simp;go_at_call 88;refine (zQC m.vars (zCy m HM.out) (ptsM m) R.2.2.cs (by omega) (zAq m R.2.1) (oldW w3 W.heap.size) r sv pv cv _ w3 ((HKY.out.below hB3).rul HSB.out) (HKY.out.below hB3).rulD (LOwn.arg hx3)).mono ?_;rintro e w4 ⟨rfl,cv4,hr4,hf4⟩;dsimp only))
   all_goals
    have HK4:=(HKY.out.below hB3).add (zDc w3 _ (HKY.out.below hB3).fr.size) hr4 hf4
    have HT4:TFr Y w4:=(TFr.below hB3).trans (TFr.ofAdd (HKY.out.below hB3) hf4)
    have HC4:=(HT4.block _ _ _ _ HCY.out zEU).trans HCY.out
    have HM4:=(HT4.block _ _ _ _ HMY.out zMg).trans HMY.out
    have HA4:=(HT4.block _ _ _ _ HAY.out zMf).trans HAY.out
    have HV4:=HT4.own HVY.out zQU
    have HSK4:Hid (SkD W w4 s r mb sv pv cv4 prv pav L ((zBi m R).proof.map fun x=>zAF m.vars x.cla) (zBi m R)):=HK4
    have HC4':=(show Hid _ from HC4)
    have HM4':=(show Hid _ from HM4)
    have HA4':=(show Hid _ from HA4)
    have HV4':=(show Hid _ from HV4)
    have f0:=blk9 HC4 0 _ rfl
    have fl:=(Array.getElem?_eq_some_iff.1 HC4).1
    clear HK4 HT4 HC4 HM4 HA4 HV4 hr4 hf4 hx3 hb3 hB3 e0 e1 el el2 c0 cl m0 m1 m2 m3 ml s0 s1 s2 s3 s4 s5 s6
    go_wp2_with fail
    refine (zJS m HM.out W s r mb sv pv _ _ _ HSB.out L (zBi m R) ⟨HOK.out.1.prf,by have:=HOK.out.2;unfold zBi;simp only[List.length_append,List.length_singleton];omega,HOK.out.1.path⟩ w4 HSK4.out).mono ?_
    rintro e w5 ⟨x5,rfl,hox5,htf5,cv5,prv5,pav5,L5,hd5⟩
    have HNI:Hid (ClI m A W s r mb C w.heap.size (w.heap.size+1) sv cs pv (.int .i64 (zAV m.vars (ptsM m) (zBi m R)).1) x5 w5 (zDj m (zAV m.vars (ptsM m) (zBi m R)))):=by
     refine⟨_,R.2.1,.slice ax R.2.1.length cx,cv5,prv5,pav5,L5,rfl,HST.out.symm,rfl,hox5,fun h=>?_,fun h=>(zBf m HM.out _ h).1,hd5,(htf5.block _ _ _ _ HC4'.out zEU).trans HC4'.out,(htf5.block _ _ _ _ HM4'.out zMg).trans HM4'.out,(htf5.block _ _ _ _ HA4'.out zMf).trans HA4'.out,htf5.own HV4'.out zQU⟩
     obtain⟨k1,k2⟩:=zKD m.vars (zAd m HM.out) (ptsM m) (zBi m R) ⟨HOK.out.1.prf,by have:=HOK.out.2;unfold zBi;simp only[List.length_append,List.length_singleton];omega,HOK.out.1.path⟩ h
     refine⟨k1,?_⟩
     have h2:=HROOM.out
     have h3:=HRM.out
     have h4:=HOK.out.2
     have h5:(zBi m R).cs.length+(zBi m R).fuel=R.2.2.cs.length+1+R.2.2.fuel:=by unfold zBi;simp only[List.length_append,List.length_singleton]
     omega
    obtain⟨X5,hX5⟩:∃X5,(zAV m.vars (ptsM m) (zBi m R)).1=X5:=⟨_,rfl⟩
    rw[hX5] at HNI ⊢
    clear hox5 htf5 hd5 hX5 f0 fl
    go_wp2
    go_roundw
    case rel=>exact⟨_,HNI.out⟩
    case measure=>exact Nat.lt_of_le_of_lt (zGp HNI.out) (by rw[HN.out];exact HROOM.out)
  ·rw[if_neg h1] at hst
   have h1':(R.1==1)=false:=by simpa using h1
   have r0:=blk9 HCL.out.blkA 0 _ rfl
   have r1:=blk9 HCL.out.blkA 1 _ rfl
   have r2:=blk9 HCL.out.blkA 2 _ rfl
   have z0:=frz9 HCL.out.blkA 0
   have z1:=frz9 HCL.out.blkA 1
   have z2:=frz9 HCL.out.blkA 2
   have rl:=(Array.getElem?_eq_some_iff.1 HCL.out.blkA).1
   have HFR:Hid (∀u0 u1 u2,Fr (XS s r mb) W (((wr.setCell ⟨w.heap.size+1,0,none⟩ u0).setCell ⟨w.heap.size+1,1,none⟩ u1).setCell ⟨w.heap.size+1,2,none⟩ u2)):=fun u0 u1 u2 =>
    ((HCL.out.sk.fr.setNew (p:=⟨w.heap.size+1,0,none⟩) (by simp only;omega) u0).setNew (p:=⟨w.heap.size+1,1,none⟩) (by simp only;omega) u1).setNew (p:=⟨w.heap.size+1,2,none⟩) (by simp only;omega) u2
   have HBA:Hid (wr.heap[w.heap.size+1]? = some (.cells #[.int .i64 0,.slice none 0 0,.slice none 0 0] 29)):=HCL.out.blkA
   have HBV:Hid (wr.ownsRow W.heap.size 3 1 (.slice ab best.length cb) best.length (best.map (Value.int .i64))):=HCL.out.bst
   have HSK:=(show Hid _ from HCL.out.sk)
   obtain⟨apr,cpr,rfl⟩:=zAB HCL.out.sk.prf.1
   obtain⟨s0,s1,s2,s3,s4,s5,s6⟩:=HCL.out.sk.cells
   by_cases h3:R.1=3
   ·rw[if_pos h3] at hst
    have HN3:Hid (A=⟨3,[],[]⟩):=hst
    rw[h3]
    clear hst h1 h1' h3 HN HCL HSK c0 c1 cz cl s0 s1 s2 s3 s4 s5 s6
    go_wp2
    refine bodyPost_ret (by simp[results,Tryz.results42,go_sem, *];try rfl) rfl ?_
    rw[HN3.out]
    exact⟨_,_,rfl,zGq _ _ _,HFR.out _ _ _⟩
   ·rw[if_neg h3] at hst
    have h3':(R.1==3)=false:=by simpa using h3
    by_cases hb:0<best.length
    ·rw[if_pos hb] at hst
     have HN3:Hid (A=⟨1,best,R.2.2.proof⟩):=hst
     have hb':(0:Int)<(best.length:Int):=by omega
     have hb2:¬best=[]:=fun h=>by rw[h] at hb;cases hb
     have HQ:Hid (∀u0 u1 u2,AnsQ W.heap.size (((wr.setCell ⟨w.heap.size+1,0,none⟩ u0).setCell ⟨w.heap.size+1,1,none⟩ u1).setCell ⟨w.heap.size+1,2,none⟩ u2) (.slice ab best.length cb) (.slice apr L.length cpr) ⟨1,best,R.2.2.proof⟩):=fun u0 u1 u2 =>
      AnsQ.set3 (w:=wr) ⟨HBV.out,L,HSK.out.prf,HSK.out.prfE⟩ HBA.out u0 u1 u2
     clear hst h1 h3 HN HCL HSK cz
     obtain⟨V1,hV1⟩:∃V1,R.1=V1:=⟨_,rfl⟩
     rw[hV1] at h1' h3' ⊢
     clear hV1
     go_wp2_with fail
     go_region_law (fail)
     all_goals
      go_wp2
      refine bodyPost_ret (by simp[results,Tryz.results42,go_sem, *];try rfl) rfl ?_
      rw[HN3.out]
      exact⟨_,_,rfl,(HQ.out _ _ _).below (Below.refl _ _).drew,(HFR.out _ _ _).trans (Fr.below (Below.refl _ _).drew)⟩
    ·rw[if_neg hb] at hst
     have HN3:Hid (A=⟨R.1,best,R.2.2.proof⟩):=hst
     have hb':¬(0:Int)<(best.length:Int):=by omega
     have hb2:best=[]:=List.length_eq_zero_iff.1 (by omega)
     have HQ:Hid (∀u0 u1 u2,AnsQ W.heap.size (((wr.setCell ⟨w.heap.size+1,0,none⟩ u0).setCell ⟨w.heap.size+1,1,none⟩ u1).setCell ⟨w.heap.size+1,2,none⟩ u2) (.slice ab best.length cb) (.slice apr L.length cpr) ⟨R.1,best,R.2.2.proof⟩):=fun u0 u1 u2 =>
      AnsQ.set3 (w:=wr) ⟨HBV.out,L,HSK.out.prf,HSK.out.prfE⟩ HBA.out u0 u1 u2
     clear hst h1 h3 HN HCL HSK cz HBV
     obtain⟨V1,hV1⟩:∃V1,R.1=V1:=⟨_,rfl⟩
     rw[hV1] at h1' h3' HN3 HQ ⊢
     subst hb2
     clear hV1
     go_wp2_with fail
     go_region_law (fail)
     all_goals
      go_wp2
      refine bodyPost_ret (by simp[results,Tryz.results42,go_sem, *];try rfl) rfl ?_
      rw[HN3.out]
      exact⟨_,_,rfl,(HQ.out _ _ _).below (Below.refl _ _).drew,(HFR.out _ _ _).trans (Fr.below (Below.refl _ _).drew)⟩
theorem AnsQ.mono {base base':Nat} {w:World} {vv pp:Value} {a:Ans} (h:AnsQ base w vv pp a) (hb:base'≤base):AnsQ base' w vv pp a:=by
 obtain⟨L,h1,h2⟩:=h.prf
 exact⟨World.ownsRow.mono h.val hb,L,h1.mono hb,h2⟩
theorem AnsQ.forms {base:Nat} {w:World} {vv pp:Value} {a:Ans} (h:AnsQ base w vv pp a):(∃a1 c1,vv=.slice a1 a.values.length c1)∧∃a2 n2 c2,pp=.slice a2 n2 c2:=by
 obtain⟨L,h1,_⟩:=h.prf
 obtain⟨a2,c2,h3⟩:=zAB h1.1
 exact⟨zAB h.val,a2,_,c2,h3⟩
set_option maxHeartbeats 3200000 in
set_option maxRecDepth 100000 in
theorem zHN (m:Mod) (fuel:Int) (vs cs:Value) (w:World) (hma:MArg w vs cs m) (hT:TabT w) :
 Calls Tryz.prog 9 #[modV vs cs m,.int .i64 fuel] w fun e w'=>∃vv pp,e=.returned (.tuple #[.agg #[.int .i64 (zB0 m fuel).1.verdict,vv,pp],.int .i64 (zB0 m fuel).2])∧AnsQ w.heap.size w' vv pp (zB0 m fuel).1∧Below w.heap.size w w':=by
 have HMA:Hid (∀w',Below w.heap.size w w'→MArg w' vs cs m):=fun w' h=>MArg.below h hma
 have HT:Hid (∀w',Below w.heap.size w w'→TabT w'):=fun w' h=>hT.below h
 obtain⟨⟨a1,c1,rfl,_,_⟩,⟨a2,c2,rfl,_,_⟩⟩:=hma
 obtain⟨R,hR⟩:∃R,zB0 m fuel=R:=⟨_,rfl⟩
 rw[hR]
 obtain⟨er,her⟩:∃er,zAE m=er:=⟨_,rfl⟩
 have HER:Hid (zAE m=er):=her
 unfold zB0 at hR
 rw[her] at hR
 have HR:=(show Hid _ from hR)
 clear hR her hT
 unfold modV
 obtain⟨HA,HB⟩:=zFK w (.cells #[.slice a1 m.vars.length c1,.slice a2 m.cons.length c2,.int .i64 m.goal,.int .i64 m.var] 25) (.cells #[.int .i64 0,.slice none 0 0,.slice none 0 0] 29)
 have hbY:Below w.heap.size w ((w.alloc (.cells #[.slice a1 m.vars.length c1,.slice a2 m.cons.length c2,.int .i64 m.goal,.int .i64 m.var] 25)).alloc (.cells #[.int .i64 0,.slice none 0 0,.slice none 0 0] 29)):=(zAA _ _).alloc (by simp) _
 have HAH:=(show Hid _ from HA)
 have HBH:=(show Hid _ from HB)
 have HBY:=(show Hid _ from hbY)
 clear HA HB hbY
 by_cases hg:m.goal=0
 ·have hR:=HR.out
  rw[if_pos hg] at hR
  have HRS:Hid (zFZ m fuel=R):=hR
  have HSV:Hid (∀Z,Below w.heap.size w Z→Calls Tryz.prog 32 #[.agg #[.slice a1 m.vars.length c1,.slice a2 m.cons.length c2,.int .i64 m.goal,.int .i64 m.var],.int .i64 fuel] Z fun e w'=>∃vv pp,e=.returned (.tuple #[.agg #[.int .i64 R.1.verdict,vv,pp],.int .i64 R.2])∧AnsQ Z.heap.size w' vv pp R.1∧Below Z.heap.size Z w'):=fun Z hZ=>by
   rw[←HRS.out]
   exact zQS m fuel (.slice a1 m.vars.length c1) (.slice a2 m.cons.length c2) Z (HMA.out _ hZ) (HT.out _ hZ)
  obtain⟨⟨rv,rx,rp⟩,re⟩:=R
  have hgb:(m.goal==0)=true:=by simpa using hg
  clear hR HR hg HRS
  go_enter Tryz.func9,Tryz.ntmps9
  go_wp2_with fail
  refine (HSV.out _ HBY.out).mono ?_
  rintro e w1 ⟨vv,pp,rfl,hq,hb1⟩
  obtain⟨⟨av,cv,rfl⟩,ap,np,cp,rfl⟩:=hq.forms
  have HB1:Hid (w1.heap[w.heap.size+1]? = some (.cells #[.int .i64 0,.slice none 0 0,.slice none 0 0] 29)):=(hb1.block _ (by simp)).trans HBH.out
  have HBL:Hid (Below w.heap.size w w1):=HBY.out.trans (hb1.mono (by simp;omega))
  have hs1:w.heap.size+2≤w1.heap.size:=by simpa using hb1.size
  have HQ:Hid (∀u0 u1 u2,AnsQ w.heap.size (((w1.setCell ⟨w.heap.size+1,0,none⟩ u0).setCell ⟨w.heap.size+1,1,none⟩ u1).setCell ⟨w.heap.size+1,2,none⟩ u2) (.slice av rx.length cv) (.slice ap np cp) ⟨rv,rx,rp⟩):=fun u0 u1 u2=>AnsQ.set3 (hq.mono (by simp;omega)) HB1.out u0 u1 u2
  have HBE:Hid (∀u0 u1 u2,Below w.heap.size w (((w1.setCell ⟨w.heap.size+1,0,none⟩ u0).setCell ⟨w.heap.size+1,1,none⟩ u1).setCell ⟨w.heap.size+1,2,none⟩ u2)):=fun u0 u1 u2=>((HBL.out.setCell (by simp only;omega) _).setCell (by simp only;omega) _).setCell (by simp only;omega) _
  have r0:=blk9 HB1.out 0 _ rfl
  have r1:=blk9 HB1.out 1 _ rfl
  have r2:=blk9 HB1.out 2 _ rfl
  have z0:=frz9 HB1.out 0
  have z1:=frz9 HB1.out 1
  have z2:=frz9 HB1.out 2
  have lr:w.heap.size+1<w1.heap.size:=by omega
  clear hq hb1
  go_wp2
  refine bodyPost_ret (by simp[results,Tryz.results9,go_sem, *];try rfl) rfl ?_
  exact⟨_,_,rfl,HQ.out _ _ _,HBE.out _ _ _⟩
 ·have hR:=HR.out
  rw[if_neg hg] at hR
  have hgb:(m.goal==0)=false:=by simpa using hg
  have HR1:=(show Hid _ from hR)
  clear hR HR
  go_enter Tryz.func9,Tryz.ntmps9
  go_wp2_with fail
  refine (zBU m (.slice a1 m.vars.length c1) (.slice a2 m.cons.length c2) _ (HMA.out _ HBY.out)).mono ?_
  rintro e w1 ⟨rfl,hb1⟩
  rw[HER.out]
  have HA1:Hid (w1.heap[w.heap.size]? = some (.cells #[.slice a1 m.vars.length c1,.slice a2 m.cons.length c2,.int .i64 m.goal,.int .i64 m.var] 25)):=(hb1.block _ (by simp;omega)).trans HAH.out
  have HB1:Hid (w1.heap[w.heap.size+1]? = some (.cells #[.int .i64 0,.slice none 0 0,.slice none 0 0] 29)):=(hb1.block _ (by simp)).trans HBH.out
  have HBL:Hid (Below w.heap.size w w1):=HBY.out.trans (hb1.mono (by simp;omega))
  have hs1:w.heap.size+2≤w1.heap.size:=by simpa using hb1.size
  clear hb1
  have g0:=blk9 HA1.out 0 _ rfl
  have g1:=blk9 HA1.out 1 _ rfl
  have g2:=blk9 HA1.out 2 _ rfl
  have g3:=blk9 HA1.out 3 _ rfl
  have r0:=blk9 HB1.out 0 _ rfl
  have r1:=blk9 HB1.out 1 _ rfl
  have r2:=blk9 HB1.out 2 _ rfl
  have z0:=frz9 HB1.out 0
  have z1:=frz9 HB1.out 1
  have z2:=frz9 HB1.out 2
  have lq:w.heap.size<w1.heap.size:=by omega
  have lr:w.heap.size+1<w1.heap.size:=by omega
  have HBE:Hid (∀u0 u1 u2,Below w.heap.size w (((w1.setCell ⟨w.heap.size+1,0,none⟩ u0).setCell ⟨w.heap.size+1,1,none⟩ u1).setCell ⟨w.heap.size+1,2,none⟩ u2)):=fun u0 u1 u2=>((HBL.out.setCell (by simp only;omega) _).setCell (by simp only;omega) _).setCell (by simp only;omega) _
  by_cases he:er=0
  ·subst he
   have hR:=HR1.out
   rw[if_pos rfl] at hR
   by_cases hf:fuel<0∨300<fuel
   ·rw[if_pos hf] at hR
    have HN:Hid ((zH9,(3:Int))=R):=hR
    clear hR HR1
    by_cases hf0:fuel<0
    ·clear hf
     go_wp2
     refine bodyPost_ret (by simp[results,Tryz.results9,go_sem, *];try rfl) rfl ?_
     rw[←HN.out]
     exact⟨_,_,rfl,zGq _ _ _,HBE.out _ _ _⟩
    ·have hf1:300<fuel:=by rcases hf with h | h;exact absurd h hf0;exact h
     clear hf
     go_wp2
     refine bodyPost_ret (by simp[results,Tryz.results9,go_sem, *];try rfl) rfl ?_
     rw[←HN.out]
     exact⟨_,_,rfl,zGq _ _ _,HBE.out _ _ _⟩
   ·rw[if_neg hf] at hR
    have hf0:¬fuel<0:=fun h=>hf (Or.inl h)
    have hf1:¬300<fuel:=fun h=>hf (Or.inr h)
    obtain⟨fn,rfl⟩:∃fn:Nat,fuel=(fn:Int):=⟨fuel.toNat,by omega⟩
    have HR2:Hid ((zB5 m (fn:Int),(0:Int))=R):=hR
    have hfn:fn≤300:=by omega
    have HGG:Hid (m.goal=1∨m.goal=2):=by
     rcases (zC0 m HER.out).2.2 with h | h
     ·exact absurd h hg
     ·exact h
    clear hR HR1 hf hg
    go_wp2_with fail
    refine (zQR m HER.out fn (.slice a1 m.vars.length c1) (.slice a2 m.cons.length c2) w1 (HMA.out _ HBL.out) (HT.out _ HBL.out)).mono ?_
    rintro e W ⟨s,rfl,r,mb,pv,hB,hD,hbW,hr,hs,hmb⟩
    have HSB:Hid (SkB W s r mb (.slice a1 m.vars.length c1) pv m.vars (ptsM m)):=hB
    have HSD:=(show Hid _ from hD)
    have HBW:Hid (Below w1.heap.size w1 W):=hbW
    have hsW:=hbW.size
    clear hB hD hbW r0 r1 r2 z0 z1 z2
    have q0:=(HBW.out.cell (p:=⟨w.heap.size,0,none⟩) lq).trans g0
    have q1:=(HBW.out.cell (p:=⟨w.heap.size,1,none⟩) lq).trans g1
    have q2:=(HBW.out.cell (p:=⟨w.heap.size,2,none⟩) lq).trans g2
    have q3:=(HBW.out.cell (p:=⟨w.heap.size,3,none⟩) lq).trans g3
    have lqW:w.heap.size<W.heap.size:=by omega
    clear g0 g1 g2 g3
    go_wp2_with fail
    have hCn:=heap_alloc_new W (.cells #[.pointer (some ⟨s,0,none⟩),.slice none 0 0] 78)
    refine (zQV m HER.out HGG.out fn hfn W s r mb W.heap.size (.slice a1 m.vars.length c1) (.slice a2 m.cons.length c2) pv HSB.out _ (HSD.out.below (zAA _ _)) hCn (Nat.le_refl _)).mono ?_
    rintro e w2 ⟨vv,pp,rfl,hq,hfr⟩
    obtain⟨⟨av,cv,rfl⟩,ap,np,cp,rfl⟩:=hq.forms
    have HB2:Hid (w2.heap[w.heap.size+1]? = some (.cells #[.int .i64 0,.slice none 0 0,.slice none 0 0] 29)):=(hfr.block _ (by omega) (by unfold XS;omega)).trans ((HBW.out.block _ lr).trans HB1.out)
    have HBL2:Hid (Below w.heap.size w w2):=by
     have h1:=HBL.out.trans (HBW.out.mono HBL.out.size)
     exact⟨hfr.os.trans h1.os,hfr.tape.trans h1.tape,hfr.output.trans h1.output,Nat.le_trans h1.size hfr.size,fun k hk=>(hfr.block k (Nat.lt_of_lt_of_le hk h1.size) (by unfold XS;have:=HBL.out.size;omega)).trans (h1.block k hk)⟩
    have hs2:w.heap.size+1<w2.heap.size:=(Array.getElem?_eq_some_iff.1 HB2.out).1
    have HQ:Hid (∀u0 u1 u2,AnsQ w.heap.size (((w2.setCell ⟨w.heap.size+1,0,none⟩ u0).setCell ⟨w.heap.size+1,1,none⟩ u1).setCell ⟨w.heap.size+1,2,none⟩ u2) (.slice av (zB5 m (fn:Int)).values.length cv) (.slice ap np cp) (zB5 m (fn:Int))):=fun u0 u1 u2=>AnsQ.set3 (hq.mono (by omega)) HB2.out u0 u1 u2
    have HBE2:Hid (∀u0 u1 u2,Below w.heap.size w (((w2.setCell ⟨w.heap.size+1,0,none⟩ u0).setCell ⟨w.heap.size+1,1,none⟩ u1).setCell ⟨w.heap.size+1,2,none⟩ u2)):=fun u0 u1 u2=>((HBL2.out.setCell (by simp only;omega) _).setCell (by simp only;omega) _).setCell (by simp only;omega) _
    obtain⟨⟨tv,tx,tp⟩,hcA⟩:∃T,zB5 m (fn:Int)=T:=⟨_,rfl⟩
    rw[hcA] at HQ HR2 ⊢
    have r0:=blk9 HB2.out 0 _ rfl
    have r1:=blk9 HB2.out 1 _ rfl
    have r2:=blk9 HB2.out 2 _ rfl
    have z0:=frz9 HB2.out 0
    have z1:=frz9 HB2.out 1
    have z2:=frz9 HB2.out 2
    clear hq hfr hcA q0 q1 q2 q3 hCn hs hr hmb
    go_wp2
    refine bodyPost_ret (by simp[results,Tryz.results9,go_sem, *];try rfl) rfl ?_
    rw[←HR2.out]
    exact⟨_,_,rfl,HQ.out _ _ _,HBE2.out _ _ _⟩
  ·have hR:=HR1.out
   rw[if_neg he] at hR
   have HN:Hid ((zH9,er)=R):=hR
   have he':(er != 0)=true:=by simpa using he
   clear hR HR1 he
   go_wp2
   refine bodyPost_ret (by simp[results,Tryz.results9,go_sem, *];try rfl) rfl ?_
   rw[←HN.out]
   exact⟨_,_,rfl,zGq _ _ _,HBE.out _ _ _⟩
def twoC:MCon:=⟨1,[0,1],[1,-1],-1,[],[]⟩
theorem zTE:zEn [0,1]=[0,1]:=by
 unfold zEn
 exact List.mergeSort_of_pairwise (by decide)
theorem zOj:zBA twoC=[0,1]:=by
 have h1:zCG twoC=[0,1]:=by rfl
 unfold zBA
 rw[h1,zTE]
 decide
def twoP:List Nat:=[129,257,258]
theorem zOk:zAM twoM.vars twoC=twoP:=by
 unfold zAM
 rw[zOj]
 decide +kernel
theorem zLE:ptsM twoM=[twoP]:=by
 show [zAM twoM.vars twoC]=_
 rw[zOk]
theorem zTv:zB0 twoM 20=(zB5 twoM 20,0):=by
 unfold zB0
 rw[if_neg (by decide),if_pos zBb,if_neg (by decide)]
def R1:Int×List Int×Sk:=zAV twoM.vars [twoP] (zCt 20)
theorem zTe:zEg twoM 20=R1:=by unfold zEg R1;rw[zLE]
theorem zTF:R1=(1,[0,1],⟨[],20,[],[⟨0,4,0⟩,⟨1,4,1⟩]⟩):=by kernel_rfl
def S2:Sk:=⟨[zAF twoM.vars [⟨1,1,0⟩]],20,[],[⟨0,4,0⟩,⟨1,4,1⟩]⟩
theorem zTf:zBi twoM R1=S2:=by rw[zTF];kernel_rfl
def R2:Int×List Int×Sk:=zAV twoM.vars [twoP] S2
theorem zTG:R2.1=2:=by kernel_rfl
theorem zTw:decide (0<R2.2.2.proof.length)=true:=by kernel_rfl
theorem zTx:zB5 twoM 20=⟨1,[0,1],R2.2.2.proof⟩:=by
 unfold zB5
 have h1:R1.1=1:=by rw[zTF]
 have hs:(zEg twoM 20).1=1→Sol twoM (zEg twoM 20).2.1:=fun h=>(zBf twoM zBb _ h).1
 rw[zDO twoM zBb (Or.inl rfl) _ _ hs,zTe,if_pos h1,zTf,zLE]
 have h2:R2.1=1→Sol twoM R2.2.1:=fun h=>by rw[zTG] at h;cases h
 show zBj twoM R2 R1.2.1=_
 rw[zDO twoM zBb (Or.inl rfl) _ _ h2,if_neg (by rw[zTG];decide),if_neg (by rw[zTG];decide),zTF]
 rfl
theorem zTg:zA2 twoM [0,2]=([⟨1,1,1⟩],0):=by
 unfold zA2
 rw[if_pos zBb]
 kernel_rfl
theorem zMh:∃P,zB0 twoM 20=(⟨1,[0,1],P⟩,0)∧0<P.length:=⟨R2.2.2.proof,by rw[zTv,zTx],of_decide_eq_true zTw⟩
open Go.RowKit
theorem zQW {α:Type} (a b:List α) (m:Nat) (x:α) (h:a.take m=b.take m) (ha:a[m]? = some x) (hb:b[m]? = some x):a.take (m+1)=b.take (m+1):=by
 rw[List.take_add_one,List.take_add_one,h,ha,hb]
theorem zR6 {α:Type} (a b:List α) (m:Nat) (h:a.take m=b.take m) (ha:¬m<a.length) (hl:a.length=b.length):a=b:=by
 rwa [List.take_of_length_le (by omega),List.take_of_length_le (by omega)] at h
theorem zR7 {α:Type} (a b:List α) (m:Nat) (x y:α) (ha:a[m]? = some x) (hb:b[m]? = some y) (h:x≠y):a≠b:=by
 intro e;subst e;rw[ha] at hb;cases hb;exact h rfl
set_option maxHeartbeats 800000 in
set_option maxRecDepth 100000 in
theorem zDA (l k:List Int) (v u:Value) (w:World) (hv:IArg w v l) (hu:IArg w u k) :
 Calls Tryz.prog 37 #[v,u] w fun e w'=>e=.returned (.bool (decide (l=k)))∧∃n,w'=w.drewN n:=by
 obtain⟨a,c,rfl,hm,hr⟩:=hv
 obtain⟨a',c',rfl,hm',hr'⟩:=hu
 have HV:Hid (∀(i:Nat) (z:Int),l[i]? = some z→∃b off,a=some ⟨b,off,none⟩∧b<w.heap.size∧w.cell? ⟨b,off+i,none⟩=some (.int .i64 z)):=hr
 have HV':Hid (∀(i:Nat) (z:Int),k[i]? = some z→∃b off,a'=some ⟨b,off,none⟩∧b<w.heap.size∧w.cell? ⟨b,off+i,none⟩=some (.int .i64 z)):=hr'
 obtain⟨R,hR⟩:∃R,decide (l=k)=R:=⟨_,rfl⟩
 rw[hR]
 have HR:Hid (decide (l=k)=R):=hR
 unfold maxLen at hm hm'
 obtain⟨hm1,hm⟩:=hm
 obtain⟨hm1',hm'⟩:=hm'
 clear hr hr' hR
 by_cases hl:l.length=k.length
 ·have HL:Hid (l.length=k.length):=hl
  have g0:((l.length:Int) != (k.length:Int))=false:=by simp[hl]
  clear hl
  go_enter Tryz.func37,Tryz.ntmps37
  go_wp2_with fail
  go_loopw [5] (fun i wr=>∃m:Nat,m≤l.length∧i=.int .i64 m∧Hid (l.take m=k.take m)∧∃n,wr=w.drewN n) (fun i _=>l.length - (intOf i).toNat)
  case atStart=>exact⟨0,by omega,rfl,rfl,0,rfl⟩
  case round =>
   obtain⟨m,hml,rfl,hall,nq,rfl⟩:=hrel
   by_cases hlt:m<l.length
   ·have hlt':m<k.length:=by rw[←HL.out];exact hlt
    obtain⟨x,hx⟩:∃x,l[m]? = some x:=⟨l[m],by simp[hlt]⟩
    obtain⟨y,hy⟩:∃y,k[m]? = some y:=⟨k[m],by simp[hlt']⟩
    obtain⟨b,off,ha,hb,hc⟩:=HV.out m x hx
    obtain⟨b',off',ha',hb',hd⟩:=HV'.out m y hy
    have HX:Hid (l[m]? = some x):=hx
    have HY:Hid (k[m]? = some y):=hy
    subst ha;subst ha'
    clear hx hy
    by_cases hq:x=y
    ·subst hq
     have HN:Hid (l.take (m+1)=k.take (m+1)):=zQW l k m x hall.out HX.out HY.out
     go_wp2
     go_quiet (fail)
     go_wp2
     go_roundw
     case rel=>exact⟨m+1,by omega,by go_num,HN,_,rfl⟩
     case measure=>simp[intOf];omega
    ·have HN:Hid (R=false):=by rw[←HR.out];exact decide_eq_false (zR7 l k m x y HX.out HY.out hq)
     have hq2:(x != y)=true:=by simpa using hq
     clear hq
     go_wp2
     go_quiet (fail)
     go_wp2
     go_ret
     exact⟨zAG HN.out.symm,_,zCN _ _ _⟩
   ·have HN:Hid (R=true):=by rw[←HR.out];exact decide_eq_true (zR6 l k m hall.out hlt HL.out)
    go_wp2
    go_ret
    exact⟨zAG HN.out.symm,_,rfl⟩
 ·have HN:Hid (R=false):=by rw[←HR.out];exact decide_eq_false (fun h=>hl (by rw[h]))
  have g0:((l.length:Int) != (k.length:Int))=true:=by simp;omega
  clear hl
  go_enter Tryz.func37,Tryz.ntmps37
  go_wp2
  go_ret
  exact⟨zAG HN.out.symm,0,rfl⟩
theorem LArg.nth {w:World} {a:Option Addr} {n c:Nat} {l:List MLit} (h:LArg w (.slice a n c) l) (i:Nat) (t:MLit) (hr:l[i]? = some t):∃b off,a=some ⟨b,off,none⟩∧b<w.heap.size ∧
 w.cell? ⟨b,off+i * 3,none⟩=some (.int .i64 t.var)∧w.cell? ⟨b,off+i * 3+1,none⟩=some (.int .i64 t.op)∧w.cell? ⟨b,off+i * 3+2,none⟩=some (.int .i64 t.n):=by
 obtain⟨a',c',hv,_,hh⟩:=h
 cases hv
 exact hh i t hr
set_option maxHeartbeats 1600000 in
set_option maxRecDepth 100000 in
theorem zGQ (s:List MLit) (v u:Value) (w:World) (hv:LArg w v s) (hu:LArg w u s) :
 Calls Tryz.prog 48 #[v,u] w fun e w'=>e=.returned (.bool true)∧∃n,w'=w.drewN n:=by
 have HA:Hid (LArg w v s):=hv
 have HA':Hid (LArg w u s):=hu
 obtain⟨a,c,rfl,hm,_⟩:=hv
 obtain⟨a',c',rfl,hm',_⟩:=hu
 unfold maxLen at hm hm'
 obtain⟨hm1,hm⟩:=hm
 obtain⟨hm1',hm'⟩:=hm'
 have g0:((s.length:Int) != (s.length:Int))=false:=by simp
 go_enter Tryz.func48,Tryz.ntmps48
 go_wp2_with fail
 go_loopw [5] (fun i wr=>∃m:Nat,m≤s.length∧i=.int .i64 m∧∃n,wr=w.drewN n) (fun i _=>s.length - (intOf i).toNat)
 case atStart=>exact⟨0,by omega,rfl,0,rfl⟩
 case round =>
  obtain⟨m,hml,rfl,nq,rfl⟩:=hrel
  by_cases hlt:m<s.length
  ·obtain⟨x,hx⟩:∃x,s[m]? = some x:=⟨s[m],by simp[hlt]⟩
   obtain⟨b,off,rfl,hb,h0,h1,h2⟩:=LArg.nth HA.out m x hx
   obtain⟨b',off',rfl,hb',h0',h1',h2'⟩:=LArg.nth HA'.out m x hx
   clear hx
   go_wp2
   go_quiet (fail)
   go_wp2
   go_roundw
   case rel=>exact⟨m+1,by omega,by go_num,_,rfl⟩
   case measure=>simp[intOf];omega
  ·go_wp2
   go_ret
   exact⟨rfl,_,rfl⟩
end Go.Proofs.YtdjbejlbmaiocagGreatDoor
