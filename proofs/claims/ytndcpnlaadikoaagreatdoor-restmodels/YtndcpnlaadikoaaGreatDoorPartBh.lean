/- What the proof leans on, part 34. -/
import Derived.Test.YtndcpnlaadikoaaGreatDoorPartAu
import Derived.Test.YtndcpnlaadikoaaGreatDoorPartBg
import Derived.Test.YtndcpnlaadikoaaGreatDoorPartAm
import Derived.KernelRfl
set_option maxRecDepth 100000
set_option maxHeartbeats 6400000
namespace Go.Proofs.YtndcpnlaadikoaaGreatDoor
def zCH (m:Mod) (R:Int×List Int×Sk):Sk:=⟨R.2.2.cs++[zAH m.vars (zBx m R.2.1)],R.2.2.fuel,R.2.2.proof,R.2.2.path⟩
def zI9 (m:Mod):Nat→Int×List Int×Sk→List Int→Ans
 | 0,_,_=>zH4
 | n+1,R,best=>if R.1=1 then zI9 m n (zAt m.vars (ptsM m) (zCH m R)) R.2.1
   else if R.1=3 then ⟨3,[],[]⟩ else if 0<best.length then ⟨1,best,R.2.2.proof⟩ else ⟨R.1,best,R.2.2.proof⟩
def zEk (m:Mod) (R:Int×List Int×Sk):Nat :=
 if R.1=1 then (if m.goal=1 then (zAf R.2.1 m.var - (zAJ m.vars m.var.toNat).lo).toNat+1 else ((zAJ m.vars m.var.toNat).hi - zAf R.2.1 m.var).toNat+1) else 0
def zGp (m:Mod) (R:Int×List Int×Sk) (best:List Int):Ans:=zI9 m (zEk m R+1) R best
def zEl (m:Mod) (fuel:Int):Ans:=zGp m (zCT m fuel) []
def zH5 (m:Mod) (fuel:Int):Ans×Int :=
 if m.goal=0 then zC2 m fuel
 else if zAG m=0 then (if fuel<0∨300<fuel then (zH4,3) else (zEl m fuel,0)) else (zH4,zAG m)
theorem zCI (m:Mod) (hm:zAG m=0) (S:Sk) (h:(zAt m.vars (ptsM m) S).1=1):Sol m (zAt m.vars (ptsM m) S).2.1∧∀c∈S.cs,Hits m.vars (zAt m.vars (ptsM m) S).2.1 c:=by
 obtain⟨_,h2,_⟩:=zGI m hm (fun _=>False) _ S (Nat.lt_succ_self _) (fun x _ hf=>hf.elim)
 obtain⟨k1,k2,k3⟩:=h2 h;exact⟨k1,fun c hc=>k2 c (k3 c hc)⟩
theorem zL6 (m:Mod) (hm:zAG m=0) (vals:List Int):∀l∈zBx m vals,0≤l.var∧l.var<(m.vars.length:Int):=by
 obtain⟨h1,h2,_⟩:=zFz m hm;intro l hl;unfold zBx at hl
 split at hl
 ·rw[List.mem_singleton.1 hl];exact⟨h1,h2⟩
 ·split at hl
  ·rw[List.mem_singleton.1 hl];exact⟨h1,h2⟩
  ·cases hl
theorem zL7 (m:Mod) (vals x:List Int) (hg:m.goal=1∨m.goal=2):claB (zBx m vals) x=true↔if m.goal=1 then zAf x m.var≤zAf vals m.var - 1 else zAf vals m.var+1≤zAf x m.var:=by
 unfold zBx;rcases hg with hg | hg
 ·rw[if_pos hg,if_pos hg]
  unfold claB;simp only[List.any_cons,List.any_nil,Bool.or_false];unfold litV zAf;simp
 ·rw[if_neg (by omega),if_pos hg,if_neg (by omega)]
  unfold claB;simp only[List.any_cons,List.any_nil,Bool.or_false];unfold litV zAf;simp
theorem zF0 (m:Mod) (hm:zAG m=0) (x:List Int) (h:Sol m x):(zAJ m.vars m.var.toNat).lo≤zAf x m.var∧zAf x m.var≤(zAJ m.vars m.var.toNat).hi:=by
 obtain⟨h1,h2,_⟩:=zFz m hm;have:=h.1.2 m.var.toNat (by omega)
 rwa [Int.toNat_of_nonneg h1] at this
theorem zGT (m:Mod) (hm:zAG m=0) (hg:m.goal=1∨m.goal=2) (R:Int×List Int×Sk) (h1:R.1=1) (hs:Sol m R.2.1):zEk m (zAt m.vars (ptsM m) (zCH m R))<zEk m R:=by
 have h0:0<zEk m R:=by
  unfold zEk;rw[if_pos h1]
  split <;> omega
 by_cases hn:(zAt m.vars (ptsM m) (zCH m R)).1=1
 ·obtain⟨k1,k2⟩:=zCI m hm (zCH m R) hn
  have hh:=k2 _ (List.mem_append_right _ (List.mem_singleton.2 rfl));rw[zPI m.vars (zAy m hm) _ k1.1 _ (zL6 m hm _)] at hh;rw[zL7 m _ _ hg] at hh;have r1:=zF0 m hm _ k1;have r2:=zF0 m hm _ hs;unfold zEk;rw[if_pos hn,if_pos h1]
  split
  ·rename_i hq
   rw[if_pos hq] at hh;omega
  ·rename_i hq
   rw[if_neg hq] at hh;omega
 ·unfold zEk
  rw[if_neg hn];exact h0
theorem zJA (m:Mod) (hm:zAG m=0) (hg:m.goal=1∨m.goal=2):∀(f g:Nat) (R:Int×List Int×Sk) (b:List Int),(R.1=1→Sol m R.2.1)→zEk m R<f→zEk m R<g→zI9 m f R b=zI9 m g R b
 | 0,g,R,b,_,hf,_=>by omega
 | f+1,0,R,b,_,_,hg=>by omega
 | f+1,g+1,R,b,hs,hf,hg'=>by
   unfold zI9
   split
   ·rename_i h1
    have:=zGT m hm hg R h1 (hs h1);exact zJA m hm hg f g _ _ (fun h=>(zCI m hm _ h).1) (by omega) (by omega)
   ·rfl
theorem zGU (m:Mod) (hm:zAG m=0) (hg:m.goal=1∨m.goal=2) (R:Int×List Int×Sk) (b:List Int) (hs:R.1=1→Sol m R.2.1):zGp m R b=if R.1=1 then zGp m (zAt m.vars (ptsM m) (zCH m R)) R.2.1
 else if R.1=3 then ⟨3,[],[]⟩ else if 0<b.length then ⟨1,b,R.2.2.proof⟩ else ⟨R.1,b,R.2.2.proof⟩:=by
 conv=>lhs;unfold zGp zI9
 split
 ·rename_i h1
  have:=zGT m hm hg R h1 (hs h1);exact zJA m hm hg _ _ _ _ (fun h=>(zCI m hm _ h).1) (by omega) (by omega)
 ·rfl
theorem zL8 (vs:List MVar) (hv:zAc vs) (pt:List (List Nat)):∀(N:Nat) (S:Sk),zCY vs S<N→SkO vs S→(zAt vs pt S).1=1→SkO vs (zAt vs pt S).2.2∧(zAt vs pt S).2.2.cs.length+(zAt vs pt S).2.2.fuel=S.cs.length+S.fuel
 | 0,S,h,_=>by omega
 | N+1,S,h,hs=>by
   rw[zFt vs hv]
   split
   ·split
    ·rename_i h0
     intro h1;obtain⟨k1,k2⟩:=zL8 vs hv pt N _ (by have:=zDt vs pt S h0;omega) (zL2 vs pt S hs h0) h1
     refine⟨k1,k2.trans ?_⟩;have hf:=zKb vs pt S h0;unfold zBL at h0 hf ⊢
     split
     ·rename_i hc;rw[if_pos hc] at h0
     ·rename_i hc0
      rw[if_neg hc0] at h0 hf
      split
      ·rename_i hc;rw[if_pos hc] at h0;cases h0
      ·rename_i hc1
       rw[if_neg hc1] at h0 hf
       split
       ·rename_i hc;rw[if_pos hc] at h0;cases h0
       ·simp only[List.length_append,List.length_singleton]
        omega
    ·rename_i h0
     intro h1;simp only at h1;unfold zBL at h0 h1
     split at h1
     ·cases h1
     ·split at h1
      ·cases h1
      ·split at h1
       ·cases h1
       ·cases h1
   ·split
    ·exact fun _=>⟨hs,rfl⟩
    ·rename_i hf
     intro h1;exact zL8 vs hv pt N _ (by have:=zEx vs hv pt S hf;omega) (zPo vs hv pt S hs hf) h1
theorem zNF (vs:List MVar) (hv:zAc vs) (pt:List (List Nat)) (S:Sk) (hs:SkO vs S) (h:(zAt vs pt S).1=1):SkO vs (zAt vs pt S).2.2∧(zAt vs pt S).2.2.cs.length+(zAt vs pt S).2.2.fuel=S.cs.length+S.fuel:=zL8 vs hv pt _ S (Nat.lt_succ_self _) hs h
theorem zSi (m:Mod) (hm:zAG m=0) (R:Int×List Int×Sk) (hs:R.1=1→Sol m R.2.1):zEk m R≤6:=by
 unfold zEk;by_cases h1:R.1=1
 ·rw[if_pos h1]
  have r:=zF0 m hm _ (hs h1);have h6:=(zAy m hm).2 m.var.toNat;unfold zBj at h6
  split <;> omega
 ·rw[if_neg h1];omega
open Go.RowKit Go.Maps
theorem SkD.setO {W w:World} {s r mb:Nat} {sv pv cv prv pav:Value} {L:List SV} {M:List Nat} {S:Sk} {C:Nat} {cs:Array Value} {t:TypeId} (h:SkD W w s r mb sv pv cv prv pav L M S) (hC:w.heap[C]? = some (.cells cs t)) (ht:TNo t) (hCW:W.heap.size≤C) (i:Nat) (u:Value):SkD W (w.setCell ⟨C,i,none⟩ u) s r mb sv pv cv prv pav L M S:=by
 have hne:∀(q:Nat) (cs':Array Value) (t':TypeId),w.heap[q]? = some (.cells cs' t')→t'≠t→q≠C:=fun q cs' t' hq hn he=>by
  subst he;have:=hq.symm.trans hC;simp only[Option.some.injEq,Obj.cells.injEq] at this;exact hn this.2.1
 exact⟨(zDv w ⟨C,i,none⟩ u r (hne r _ _ h.blkR (Ne.symm ht.1))).trans h.blkR,(zDv w ⟨C,i,none⟩ u s (hne s _ _ h.blkS (Ne.symm ht.2.1))).trans h.blkS,zAX h.own hC ht.2.2.1 i u,h.lt36,h.prf.set hC ht.2.2.2.1 ht.2.2.2.2 i u,h.prfE,h.map.setCell (Ne.symm (zDO hC h.map)) u,zAX h.path hC ht.2.2.2.2 i u,h.apart,h.fr.setNew (p:=⟨C,i,none⟩) hCW u⟩
theorem zEE:TNo 118:=by unfold TNo;decide
theorem zL9:TNo 53:=by unfold TNo;decide
theorem zMA:TNo 25:=by unfold TNo;decide
theorem zP1:TNo 3:=by unfold TNo;decide
theorem TFr.ofAdd {W w w':World} {s r mb:Nat} {sv pv cv prv pav:Value} {L:List SV} {M:List Nat} {S:Sk} (h:SkD W w s r mb sv pv cv prv pav L M S) (hf:Fr (fun k=>k=r∨cv.ownBlock=some k) w w'):TFr w w' :=
 ⟨hf.os,hf.tape,hf.output,hf.size,fun k cs t z hk ht=>hf.block k (Array.getElem?_eq_some_iff.1 hk).1 fun hx=>by
   rcases hx with hx | hx
   ·subst hx
    have:=hk.symm.trans h.blkR;simp only[Option.some.injEq,Obj.cells.injEq] at this;rw[this.2.1] at ht;exact zPk ht
   ·rcases h.own.2 with ⟨hv,_⟩ | ⟨g,cap,cur,hv,_,hh,_⟩
    ·rw[hv] at hx;cases hx
    ·rw[hv] at hx
     have:g=k:=by simpa[Value.ownBlock] using hx
     subst this;have:=hk.symm.trans hh;simp only[Option.some.injEq,Obj.cells.injEq] at this;rw[this.2.1] at ht;exact zNB ht⟩
structure ClS (m:Mod) (A:Ans) (W:World) (s r mb C qm qa:Nat) (sv cs pv:Value) (v x:Value) (wr:World) (R:Int×List Int×Sk) (best:List Int) (bv cv prv pav:Value) (L:List SV):Prop where
 ans:zGp m R best=A
 ver:v=.int .i64 R.1
 val:wr.ownsRow W.heap.size 3 1 x R.2.1.length (R.2.1.map (Value.int .i64))
 ok:R.1=1→SkO m.vars R.2.2∧R.2.2.cs.length+R.2.2.fuel+zEk m R≤400
 sol:R.1=1→Sol m R.2.1
 sk:SkD W wr s r mb sv pv cv prv pav L (R.2.2.proof.map fun x=>zAH m.vars x.cla) R.2.2
 blkC:wr.heap[C]? = some (.cells #[.pointer (some ⟨s,0,none⟩),bv] 118)
 blkM:wr.heap[qm]? = some (.cells #[sv,cs,.int .i64 m.goal,.int .i64 m.var] 25)
 blkA:wr.heap[qa]? = some (.cells #[.int .i64 0,.slice none 0 0,.slice none 0 0] 53)
 bst:wr.ownsRow W.heap.size 3 1 bv best.length (best.map (Value.int .i64))
def ClI (m:Mod) (A:Ans) (W:World) (s r mb C qm qa:Nat) (sv cs pv:Value) (v x:Value) (wr:World) (n:Nat):Prop :=
 ∃(R:Int×List Int×Sk) (best:List Int) (bv cv prv pav:Value) (L:List SV),zEk m R=n∧ClS m A W s r mb C qm qa sv cs pv v x wr R best bv cv prv pav L
theorem zJB (m:Mod) (hm:zAG m=0) (W:World) (s r mb:Nat) (sv pv cv prv pav:Value) (hB:SkB W s r mb sv pv m.vars (ptsM m)) (L:List SV) (S:Sk) (hS:SkO m.vars S) (w:World) (hD:SkD W w s r mb sv pv cv prv pav L (S.proof.map fun x=>zAH m.vars x.cla) S) :
 Calls Tryz.prog 66 #[.pointer (some ⟨s,0,none⟩)] w fun e w'=>∃x,e=.returned (.tuple #[.int .i64 (zAt m.vars (ptsM m) S).1,x])∧w'.ownsRow W.heap.size 3 1 x (zAt m.vars (ptsM m) S).2.1.length ((zAt m.vars (ptsM m) S).2.1.map (Value.int .i64))∧TFr w w' ∧
  ∃cv' prv' pav' L',SkD W w' s r mb sv pv cv' prv' pav' L' ((zAt m.vars (ptsM m) S).2.2.proof.map fun x=>zAH m.vars x.cla) (zAt m.vars (ptsM m) S).2.2 :=
 (zKw m.vars (zBg m hm) (zJe m hm) (ptsM m) W s r mb sv pv cv prv pav hB L S hS w hD).mono (by
   rintro e w' ⟨x,h1,h2,h3,h4⟩;exact⟨x,h1,World.ownsRow.mono h2 hD.fr.size,h3,h4⟩)
theorem zP2 (m:Mod) (hm:zAG m=0) (hg:m.goal=1∨m.goal=2) (fuel:Nat) (hf:fuel≤300) (W:World) (s r mb C:Nat) (sv cs pv:Value) (hB:SkB W s r mb sv pv m.vars (ptsM m)) (w:World)
 (hD:SkD W w s r mb sv pv (.slice none 0 0) (.slice none 0 0) (.slice none 0 0) [] [] ⟨[],fuel,[],[]⟩) (hC:w.heap[C]? = some (.cells #[.pointer (some ⟨s,0,none⟩),.slice none 0 0] 118)) (hCW:W.heap.size≤C) :
 Calls Tryz.prog 67 #[.pointer (some ⟨C,0,none⟩),modV sv cs m] w fun e w'=>∃vv pp,e=.returned (.agg #[.int .i64 (zEl m fuel).verdict,vv,pp])∧AnsQ W.heap.size w' vv pp (zEl m fuel)∧Fr (XS s r mb) W w':=by
 obtain⟨A,hA⟩:∃A,zEl m fuel=A:=⟨_,rfl⟩;rw[hA];have HA:Hid (zGp m (zAt m.vars (ptsM m) ⟨[],fuel,[],[]⟩) []=A):=hA;have HSB:Hid (SkB W s r mb sv pv m.vars (ptsM m)):=hB;have HM:Hid (zAG m=0):=hm;have HG:Hid (m.goal=1∨m.goal=2):=hg;have HCW:Hid (W.heap.size≤C):=hCW;have HD0:=(show Hid _ from hD)
 have hWw:=hD.fr.size;have hCl:C<w.heap.size:=(Array.getElem?_eq_some_iff.1 hC).1;have HC0:Hid (w.heap[C]? = some (.cells #[.pointer (some ⟨s,0,none⟩),.slice none 0 0] 118)):=hC;clear hA hD hB hm hg hCW;unfold modV;go_enter Tryz.func67,Tryz.ntmps67
 have c0:=blk9 hC 0 _ rfl;have c1:=blk9 hC 1 _ rfl;clear hC;go_wp2_with fail
 obtain⟨hq1,hq2⟩:=zGQ w (.cells #[sv,cs,.int .i64 m.goal,.int .i64 m.var] 25) (.cells #[.int .i64 0,.slice none 0 0,.slice none 0 0] 53);have hbY:Below w.heap.size w ((w.alloc (.cells #[sv,cs,.int .i64 m.goal,.int .i64 m.var] 25)).alloc (.cells #[.int .i64 0,.slice none 0 0,.slice none 0 0] 53)):=(zAA _ _).alloc (by simp) _
 refine (zJB m HM.out W s r mb sv pv _ _ _ HSB.out [] ⟨[],fuel,[],[]⟩ (zG9 m.vars (fuel:Int) (by omega)) _ (HD0.out.below hbY)).mono ?_
 rintro e w1 ⟨x,rfl,hox,htf,cv1,prv1,pav1,L1,hd1⟩;have HI:Hid (∃n,ClI m A W s r mb C w.heap.size (w.heap.size+1) sv cs pv (.int .i64 (zAt m.vars (ptsM m) ⟨[],fuel,[],[]⟩).1) x w1 n):=by
  refine⟨_,zAt m.vars (ptsM m) ⟨[],fuel,[],[]⟩,[],.slice none 0 0,cv1,prv1,pav1,L1,rfl,HA.out,rfl,hox,fun h=>?_,fun h=>(zCI m HM.out _ h).1,hd1,?_,?_,?_,World.ownsRow_nil _ _ _ _⟩
  ·obtain⟨k1,k2⟩:=zNF m.vars (zAy m HM.out) (ptsM m) ⟨[],fuel,[],[]⟩ (zG9 m.vars (fuel:Int) (by omega)) h
   have:=zSi m HM.out (zAt m.vars (ptsM m) ⟨[],fuel,[],[]⟩) (fun h=>(zCI m HM.out _ h).1)
   refine⟨k1,?_⟩;simp only[List.length_nil] at k2;omega
  ·have h1:=(hbY.block C hCl).trans HC0.out
   exact (htf.block _ _ _ _ h1 zEE).trans h1
  ·exact (htf.block _ _ _ _ hq1 zMA).trans hq1
  ·exact (htf.block _ _ _ _ hq2 zL9).trans hq2
 obtain⟨X1,hX1⟩:∃X1,(zAt m.vars (ptsM m) ⟨[],fuel,[],[]⟩).1=X1:=⟨_,rfl⟩;rw[hX1] at HI ⊢;have hql:C<w.heap.size:=hCl;clear hox htf hd1 hq1 hq2 hbY hX1 HA HC0 HD0 c0 c1;go_wp2_with fail
 go_loopw [5,6] (fun v x wr=>∃n,ClI m A W s r mb C w.heap.size (w.heap.size+1) sv cs pv v x wr n) (fun v x wr=>zCh (ClI m A W s r mb C w.heap.size (w.heap.size+1) sv cs pv v x wr))
 case atStart=>exact HI.out
 case round =>
  have hsp:=zEj hrel;obtain⟨N,hN⟩:∃N,zCh (ClI m A W s r mb C w.heap.size (w.heap.size+1) sv cs pv u5 u6 wr)=N:=⟨_,rfl⟩;have HN:Hid (zCh (ClI m A W s r mb C w.heap.size (w.heap.size+1) sv cs pv u5 u6 wr)=N):=hN;rw[hN] at hsp;clear hrel HI hN;obtain⟨R,best,bv,cv,prv,pav,L,hrm,hcl⟩:=hsp;obtain rfl:=hcl.ver;have HRM:Hid (zEk m R=N):=hrm;have HCL:Hid (ClS m A W s r mb C w.heap.size (w.heap.size+1) sv cs pv (.int .i64 R.1) u6 wr R best bv cv prv pav L):=hcl;obtain⟨ax,cx,rfl⟩:=zAC hcl.val;obtain⟨ab,cb,rfl⟩:=zAC hcl.bst;have hst:=zGU m HM.out HG.out R best hcl.sol;rw[hcl.ans] at hst;have c0:=blk9 hcl.blkC 0 _ rfl;have c1:=blk9 hcl.blkC 1 _ rfl;have cz:=frz9 hcl.blkC 1;have cl:=(Array.getElem?_eq_some_iff.1 hcl.blkC).1;have hWr:=hcl.sk.fr.size;clear hrm hcl;by_cases h1:R.1=1
  ·rw[if_pos h1] at hst
   have HST:Hid (A=zGp m (zAt m.vars (ptsM m) (zCH m R)) R.2.1):=hst;have HSOL:Hid (Sol m R.2.1):=HCL.out.sol h1;have HOK:Hid (SkO m.vars R.2.2∧R.2.2.cs.length+R.2.2.fuel+zEk m R≤400):=HCL.out.ok h1;have HROOM:Hid (zEk m (zAt m.vars (ptsM m) (zCH m R))<N):=by rw[←HRM.out];exact zGT m HM.out HG.out R h1 HSOL.out
   rw[h1] at HN ⊢;have HKY:Hid (SkD W (wr.setCell ⟨C,1,none⟩ (.slice ax R.2.1.length cx)) s r mb sv pv cv prv pav L (R.2.2.proof.map fun x=>zAH m.vars x.cla) R.2.2):=HCL.out.sk.setO HCL.out.blkC zEE HCW.out 1 _
   have HCY:Hid ((wr.setCell ⟨C,1,none⟩ (.slice ax R.2.1.length cx)).heap[C]? = some (.cells #[.pointer (some ⟨s,0,none⟩),.slice ax R.2.1.length cx] 118)):=by show _=_;rw[heap_setCell_same wr C 1 _ _ _ HCL.out.blkC];rfl
   have hnC:∀(q:Nat) (cs':Array Value) (t':TypeId),wr.heap[q]? = some (.cells cs' t')→t'≠118→q≠C:=fun q cs' t' hq hn he=>by
    subst he;have:=hq.symm.trans HCL.out.blkC;simp only[Option.some.injEq,Obj.cells.injEq] at this;exact hn this.2.1
   have HMY:Hid ((wr.setCell ⟨C,1,none⟩ (.slice ax R.2.1.length cx)).heap[w.heap.size]? = some (.cells #[sv,cs,.int .i64 m.goal,.int .i64 m.var] 25)):=(zDv wr ⟨C,1,none⟩ _ _ (hnC _ _ _ HCL.out.blkM (by decide))).trans HCL.out.blkM
   have HAY:Hid ((wr.setCell ⟨C,1,none⟩ (.slice ax R.2.1.length cx)).heap[w.heap.size+1]? = some (.cells #[.int .i64 0,.slice none 0 0,.slice none 0 0] 53)):=(zDv wr ⟨C,1,none⟩ _ _ (hnC _ _ _ HCL.out.blkA (by decide))).trans HCL.out.blkA
   have HVY:Hid ((wr.setCell ⟨C,1,none⟩ (.slice ax R.2.1.length cx)).ownsRow W.heap.size 3 1 (.slice ax R.2.1.length cx) R.2.1.length (R.2.1.map (Value.int .i64))):=zAX HCL.out.val HCL.out.blkC (by decide) 1 _
   clear hst h1 hnC;go_wp2_with fail
   obtain⟨Y,hY⟩:∃Y,wr.setCell ⟨C,1,none⟩ (.slice ax R.2.1.length cx)=Y:=⟨_,rfl⟩;rw[hY] at HKY HCY HMY HAY HVY ⊢;clear hY c0 c1 cz cl HCL;have c0:=blk9 HCY.out 0 _ rfl;have cl:=(Array.getElem?_eq_some_iff.1 HCY.out).1;have m0:=blk9 HMY.out 0 _ rfl;have m1:=blk9 HMY.out 1 _ rfl;have m2:=blk9 HMY.out 2 _ rfl;have m3:=blk9 HMY.out 3 _ rfl;have ml:=(Array.getElem?_eq_some_iff.1 HMY.out).1;obtain⟨s0,s1,s2,s3,s4,s5,s6⟩:=HKY.out.cells;have HBT:Hid (∀Z,Below Y.heap.size Y Z→Calls Tryz.prog 117 #[.agg #[sv,cs,.int .i64 m.goal,.int .i64 m.var],.slice ax R.2.1.length cx] Z fun e w'=>∃x,e=.returned x∧LOwn Z.heap.size w' x (zBx m R.2.1)∧Below Z.heap.size Z w'):=fun Z hZ=>by
    obtain⟨q1,q2,_⟩:=zFz m HM.out;have hr:=zF0 m HM.out _ HSOL.out;have hb:=zCe m HM.out m.var.toNat (by omega)
    refine zI8 m R.2.1 ⟨q1,by rw[HSOL.out.1.1];exact q2⟩ ⟨by omega,by omega⟩ sv cs _ Z (zFk (zAB HVY.out hZ))
   have hcs:R.2.2.cs.length≤1000:=by have:=HOK.out.2;omega
   go_region_law
    (first
      | (rw[if_pos (by rfl)];go_simp;go_at_call 117;refine (HBT.out _ (Below.refl _ _).drew).mono ?_;rintro e w3 ⟨x,rfl,hx3,hb3⟩;have hB3:Below Y.heap.size Y w3:=(Below.refl _ _).drew.trans hb3;obtain⟨a3,c3,hxf⟩:=zAC (show w3.ownsRow _ _ _ _ _ _ from hx3);subst hxf;have e0:=(hB3.cell (p:=⟨C,0,none⟩) cl).trans c0;have e1:=(hB3.cell (p:=⟨s,1,none⟩) s0).trans s2;have el:C<w3.heap.size:=Nat.lt_of_lt_of_le cl hB3.size;have el2:s<w3.heap.size:=Nat.lt_of_lt_of_le s0 hB3.size;dsimp only)
      | (rw[if_pos (by rfl)];go_simp;go_at_call 83;refine (zPf m.vars (zBg m HM.out) (ptsM m) R.2.2.cs (by omega) (zBx m R.2.1) (oldW w3 W.heap.size) r sv pv cv _ w3 ((HKY.out.below hB3).rul HSB.out) (HKY.out.below hB3).rulD (LOwn.arg hx3)).mono ?_;rintro e w4 ⟨rfl,cv4,hr4,hf4⟩;dsimp only))
   all_goals
    have HK4:=(HKY.out.below hB3).add (zDP w3 _ (HKY.out.below hB3).fr.size) hr4 hf4;have HT4:TFr Y w4:=(TFr.below hB3).trans (TFr.ofAdd (HKY.out.below hB3) hf4);have HC4:=(HT4.block _ _ _ _ HCY.out zEE).trans HCY.out;have HM4:=(HT4.block _ _ _ _ HMY.out zMA).trans HMY.out;have HA4:=(HT4.block _ _ _ _ HAY.out zL9).trans HAY.out;have HV4:=HT4.own HVY.out zP1;have HSK4:Hid (SkD W w4 s r mb sv pv cv4 prv pav L ((zCH m R).proof.map fun x=>zAH m.vars x.cla) (zCH m R)):=HK4
    have HC4':=(show Hid _ from HC4)
    have HM4':=(show Hid _ from HM4)
    have HA4':=(show Hid _ from HA4)
    have HV4':=(show Hid _ from HV4)
    have f0:=blk9 HC4 0 _ rfl;have fl:=(Array.getElem?_eq_some_iff.1 HC4).1;clear HK4 HT4 HC4 HM4 HA4 HV4 hr4 hf4 hx3 hb3 hB3 e0 e1 el el2 c0 cl m0 m1 m2 m3 ml s0 s1 s2 s3 s4 s5 s6;go_wp2_with fail
    refine (zJB m HM.out W s r mb sv pv _ _ _ HSB.out L (zCH m R) ⟨HOK.out.1.prf,by have:=HOK.out.2;unfold zCH;simp only[List.length_append,List.length_singleton];omega,HOK.out.1.path⟩ w4 HSK4.out).mono ?_
    rintro e w5 ⟨x5,rfl,hox5,htf5,cv5,prv5,pav5,L5,hd5⟩;have HNI:Hid (ClI m A W s r mb C w.heap.size (w.heap.size+1) sv cs pv (.int .i64 (zAt m.vars (ptsM m) (zCH m R)).1) x5 w5 (zEk m (zAt m.vars (ptsM m) (zCH m R)))):=by
     refine⟨_,R.2.1,.slice ax R.2.1.length cx,cv5,prv5,pav5,L5,rfl,HST.out.symm,rfl,hox5,fun h=>?_,fun h=>(zCI m HM.out _ h).1,hd5,(htf5.block _ _ _ _ HC4'.out zEE).trans HC4'.out,(htf5.block _ _ _ _ HM4'.out zMA).trans HM4'.out,(htf5.block _ _ _ _ HA4'.out zL9).trans HA4'.out,htf5.own HV4'.out zP1⟩
     obtain⟨k1,k2⟩:=zNF m.vars (zAy m HM.out) (ptsM m) (zCH m R) ⟨HOK.out.1.prf,by have:=HOK.out.2;unfold zCH;simp only[List.length_append,List.length_singleton];omega,HOK.out.1.path⟩ h
     refine⟨k1,?_⟩;have h2:=HROOM.out;have h3:=HRM.out;have h4:=HOK.out.2;have h5:(zCH m R).cs.length+(zCH m R).fuel=R.2.2.cs.length+1+R.2.2.fuel:=by unfold zCH;simp only[List.length_append,List.length_singleton]
     omega
    obtain⟨X5,hX5⟩:∃X5,(zAt m.vars (ptsM m) (zCH m R)).1=X5:=⟨_,rfl⟩;rw[hX5] at HNI ⊢;clear hox5 htf5 hd5 hX5 f0 fl;go_wp2
    go_roundw
    case rel=>exact⟨_,HNI.out⟩
    case measure=>exact Nat.lt_of_le_of_lt (zDw HNI.out) (by rw[HN.out];exact HROOM.out)
  ·rw[if_neg h1] at hst
   have h1':(R.1==1)=false:=by simpa using h1
   have r0:=blk9 HCL.out.blkA 0 _ rfl;have r1:=blk9 HCL.out.blkA 1 _ rfl;have r2:=blk9 HCL.out.blkA 2 _ rfl;have z0:=frz9 HCL.out.blkA 0;have z1:=frz9 HCL.out.blkA 1;have z2:=frz9 HCL.out.blkA 2;have rl:=(Array.getElem?_eq_some_iff.1 HCL.out.blkA).1;have HFR:Hid (∀u0 u1 u2,Fr (XS s r mb) W (((wr.setCell ⟨w.heap.size+1,0,none⟩ u0).setCell ⟨w.heap.size+1,1,none⟩ u1).setCell ⟨w.heap.size+1,2,none⟩ u2)):=fun u0 u1 u2 =>
    ((HCL.out.sk.fr.setNew (p:=⟨w.heap.size+1,0,none⟩) (by simp only;omega) u0).setNew (p:=⟨w.heap.size+1,1,none⟩) (by simp only;omega) u1).setNew (p:=⟨w.heap.size+1,2,none⟩) (by simp only;omega) u2
   have HBA:Hid (wr.heap[w.heap.size+1]? = some (.cells #[.int .i64 0,.slice none 0 0,.slice none 0 0] 53)):=HCL.out.blkA;have HBV:Hid (wr.ownsRow W.heap.size 3 1 (.slice ab best.length cb) best.length (best.map (Value.int .i64))):=HCL.out.bst;have HSK:=(show Hid _ from HCL.out.sk)
   obtain⟨apr,cpr,rfl⟩:=zAC HCL.out.sk.prf.1;obtain⟨s0,s1,s2,s3,s4,s5,s6⟩:=HCL.out.sk.cells;by_cases h3:R.1=3
   ·rw[if_pos h3] at hst
    have HN3:Hid (A=⟨3,[],[]⟩):=hst;rw[h3];clear hst h1 h1' h3 HN HCL HSK c0 c1 cz cl s0 s1 s2 s3 s4 s5 s6;go_wp2
    refine bodyPost_ret (by simp[results,Tryz.results67,go_sem, *];try rfl) rfl ?_
    rw[HN3.out];exact⟨_,_,rfl,zGP _ _ _,HFR.out _ _ _⟩
   ·rw[if_neg h3] at hst
    have h3':(R.1==3)=false:=by simpa using h3
    by_cases hb:0<best.length
    ·rw[if_pos hb] at hst
     have HN3:Hid (A=⟨1,best,R.2.2.proof⟩):=hst;have hb':(0:Int)<(best.length:Int):=by omega
     have hb2:¬best=[]:=fun h=>by rw[h] at hb;cases hb
     have HQ:Hid (∀u0 u1 u2,AnsQ W.heap.size (((wr.setCell ⟨w.heap.size+1,0,none⟩ u0).setCell ⟨w.heap.size+1,1,none⟩ u1).setCell ⟨w.heap.size+1,2,none⟩ u2) (.slice ab best.length cb) (.slice apr L.length cpr) ⟨1,best,R.2.2.proof⟩):=fun u0 u1 u2 =>
      AnsQ.set3 (w:=wr) ⟨HBV.out,L,HSK.out.prf,HSK.out.prfE⟩ HBA.out u0 u1 u2
     clear hst h1 h3 HN HCL HSK cz;obtain⟨V1,hV1⟩:∃V1,R.1=V1:=⟨_,rfl⟩;rw[hV1] at h1' h3' ⊢;clear hV1;go_wp2_with fail
     go_region_law (fail)
     all_goals
      go_wp2
      refine bodyPost_ret (by simp[results,Tryz.results67,go_sem, *];try rfl) rfl ?_
      rw[HN3.out];exact⟨_,_,rfl,(HQ.out _ _ _).below (Below.refl _ _).drew,(HFR.out _ _ _).trans (Fr.below (Below.refl _ _).drew)⟩
    ·rw[if_neg hb] at hst
     have HN3:Hid (A=⟨R.1,best,R.2.2.proof⟩):=hst;have hb':¬(0:Int)<(best.length:Int):=by omega
     have hb2:best=[]:=List.length_eq_zero_iff.1 (by omega)
     have HQ:Hid (∀u0 u1 u2,AnsQ W.heap.size (((wr.setCell ⟨w.heap.size+1,0,none⟩ u0).setCell ⟨w.heap.size+1,1,none⟩ u1).setCell ⟨w.heap.size+1,2,none⟩ u2) (.slice ab best.length cb) (.slice apr L.length cpr) ⟨R.1,best,R.2.2.proof⟩):=fun u0 u1 u2 =>
      AnsQ.set3 (w:=wr) ⟨HBV.out,L,HSK.out.prf,HSK.out.prfE⟩ HBA.out u0 u1 u2
     clear hst h1 h3 HN HCL HSK cz HBV;obtain⟨V1,hV1⟩:∃V1,R.1=V1:=⟨_,rfl⟩;rw[hV1] at h1' h3' HN3 HQ ⊢;subst hb2;clear hV1;go_wp2_with fail
     go_region_law (fail)
     all_goals
      go_wp2
      refine bodyPost_ret (by simp[results,Tryz.results67,go_sem, *];try rfl) rfl ?_
      rw[HN3.out];exact⟨_,_,rfl,(HQ.out _ _ _).below (Below.refl _ _).drew,(HFR.out _ _ _).trans (Fr.below (Below.refl _ _).drew)⟩
theorem AnsQ.mono {base base':Nat} {w:World} {vv pp:Value} {a:Ans} (h:AnsQ base w vv pp a) (hb:base'≤base):AnsQ base' w vv pp a:=by
 obtain⟨L,h1,h2⟩:=h.prf;exact⟨World.ownsRow.mono h.val hb,L,h1.mono hb,h2⟩
theorem AnsQ.forms {base:Nat} {w:World} {vv pp:Value} {a:Ans} (h:AnsQ base w vv pp a):(∃a1 c1,vv=.slice a1 a.values.length c1)∧∃a2 n2 c2,pp=.slice a2 n2 c2:=by
 obtain⟨L,h1,_⟩:=h.prf;obtain⟨a2,c2,h3⟩:=zAC h1.1;exact⟨zAC h.val,a2,_,c2,h3⟩
theorem zNG (m:Mod) (fuel:Int) (vs cs:Value) (w:World) (hma:MArg w vs cs m) (hT:TabT w) :
 Calls Tryz.prog 26 #[modV vs cs m,.int .i64 fuel] w fun e w'=>∃vv pp,e=.returned (.tuple #[.agg #[.int .i64 (zH5 m fuel).1.verdict,vv,pp],.int .i64 (zH5 m fuel).2])∧AnsQ w.heap.size w' vv pp (zH5 m fuel).1∧Below w.heap.size w w':=by
 have HMA:Hid (∀w',Below w.heap.size w w'→MArg w' vs cs m):=fun w' h=>MArg.below h hma
 have HT:Hid (∀w',Below w.heap.size w w'→TabT w'):=fun w' h=>hT.below h
 obtain⟨⟨a1,c1,rfl,_,_⟩,⟨a2,c2,rfl,_,_⟩⟩:=hma;obtain⟨R,hR⟩:∃R,zH5 m fuel=R:=⟨_,rfl⟩;rw[hR];obtain⟨er,her⟩:∃er,zAG m=er:=⟨_,rfl⟩;have HER:Hid (zAG m=er):=her;unfold zH5 at hR;rw[her] at hR;have HR:=(show Hid _ from hR)
 clear hR her hT;unfold modV;obtain⟨HA,HB⟩:=zGQ w (.cells #[.slice a1 m.vars.length c1,.slice a2 m.cons.length c2,.int .i64 m.goal,.int .i64 m.var] 25) (.cells #[.int .i64 0,.slice none 0 0,.slice none 0 0] 53);have hbY:Below w.heap.size w ((w.alloc (.cells #[.slice a1 m.vars.length c1,.slice a2 m.cons.length c2,.int .i64 m.goal,.int .i64 m.var] 25)).alloc (.cells #[.int .i64 0,.slice none 0 0,.slice none 0 0] 53)):=(zAA _ _).alloc (by simp) _
 have HAH:=(show Hid _ from HA)
 have HBH:=(show Hid _ from HB)
 have HBY:=(show Hid _ from hbY)
 clear HA HB hbY;by_cases hg:m.goal=0
 ·have hR:=HR.out
  rw[if_pos hg] at hR;have HRS:Hid (zC2 m fuel=R):=hR;have HSV:Hid (∀Z,Below w.heap.size w Z→Calls Tryz.prog 25 #[.agg #[.slice a1 m.vars.length c1,.slice a2 m.cons.length c2,.int .i64 m.goal,.int .i64 m.var],.int .i64 fuel] Z fun e w'=>∃vv pp,e=.returned (.tuple #[.agg #[.int .i64 R.1.verdict,vv,pp],.int .i64 R.2])∧AnsQ Z.heap.size w' vv pp R.1∧Below Z.heap.size Z w'):=fun Z hZ=>by
   rw[←HRS.out];exact zFx m fuel (.slice a1 m.vars.length c1) (.slice a2 m.cons.length c2) Z (HMA.out _ hZ) (HT.out _ hZ)
  obtain⟨⟨rv,rx,rp⟩,re⟩:=R;have hgb:(m.goal==0)=true:=by simpa using hg
  clear hR HR hg HRS;go_enter Tryz.func26,Tryz.ntmps26
  go_wp2_with fail
  refine (HSV.out _ HBY.out).mono ?_;rintro e w1 ⟨vv,pp,rfl,hq,hb1⟩;obtain⟨⟨av,cv,rfl⟩,ap,np,cp,rfl⟩:=hq.forms;have HB1:Hid (w1.heap[w.heap.size+1]? = some (.cells #[.int .i64 0,.slice none 0 0,.slice none 0 0] 53)):=(hb1.block _ (by simp)).trans HBH.out
  have HBL:Hid (Below w.heap.size w w1):=HBY.out.trans (hb1.mono (by simp;omega))
  have hs1:w.heap.size+2≤w1.heap.size:=by simpa using hb1.size
  have HQ:Hid (∀u0 u1 u2,AnsQ w.heap.size (((w1.setCell ⟨w.heap.size+1,0,none⟩ u0).setCell ⟨w.heap.size+1,1,none⟩ u1).setCell ⟨w.heap.size+1,2,none⟩ u2) (.slice av rx.length cv) (.slice ap np cp) ⟨rv,rx,rp⟩):=fun u0 u1 u2=>AnsQ.set3 (hq.mono (by simp;omega)) HB1.out u0 u1 u2
  have HBE:Hid (∀u0 u1 u2,Below w.heap.size w (((w1.setCell ⟨w.heap.size+1,0,none⟩ u0).setCell ⟨w.heap.size+1,1,none⟩ u1).setCell ⟨w.heap.size+1,2,none⟩ u2)):=fun u0 u1 u2=>((HBL.out.setCell (by simp only;omega) _).setCell (by simp only;omega) _).setCell (by simp only;omega) _
  have r0:=blk9 HB1.out 0 _ rfl;have r1:=blk9 HB1.out 1 _ rfl;have r2:=blk9 HB1.out 2 _ rfl;have z0:=frz9 HB1.out 0;have z1:=frz9 HB1.out 1;have z2:=frz9 HB1.out 2;have lr:w.heap.size+1<w1.heap.size:=by omega
  clear hq hb1;go_wp2
  refine bodyPost_ret (by simp[results,Tryz.results26,go_sem, *];try rfl) rfl ?_
  exact⟨_,_,rfl,HQ.out _ _ _,HBE.out _ _ _⟩
 ·have hR:=HR.out
  rw[if_neg hg] at hR;have hgb:(m.goal==0)=false:=by simpa using hg
  have HR1:=(show Hid _ from hR)
  clear hR HR;go_enter Tryz.func26,Tryz.ntmps26
  go_wp2_with fail
  refine (zA9 m (.slice a1 m.vars.length c1) (.slice a2 m.cons.length c2) _ (HMA.out _ HBY.out)).mono ?_;rintro e w1 ⟨rfl,hb1⟩;rw[HER.out];have HA1:Hid (w1.heap[w.heap.size]? = some (.cells #[.slice a1 m.vars.length c1,.slice a2 m.cons.length c2,.int .i64 m.goal,.int .i64 m.var] 25)):=(hb1.block _ (by simp;omega)).trans HAH.out
  have HB1:Hid (w1.heap[w.heap.size+1]? = some (.cells #[.int .i64 0,.slice none 0 0,.slice none 0 0] 53)):=(hb1.block _ (by simp)).trans HBH.out
  have HBL:Hid (Below w.heap.size w w1):=HBY.out.trans (hb1.mono (by simp;omega))
  have hs1:w.heap.size+2≤w1.heap.size:=by simpa using hb1.size
  clear hb1;have g0:=blk9 HA1.out 0 _ rfl;have g1:=blk9 HA1.out 1 _ rfl;have g2:=blk9 HA1.out 2 _ rfl;have g3:=blk9 HA1.out 3 _ rfl;have r0:=blk9 HB1.out 0 _ rfl;have r1:=blk9 HB1.out 1 _ rfl;have r2:=blk9 HB1.out 2 _ rfl;have z0:=frz9 HB1.out 0;have z1:=frz9 HB1.out 1;have z2:=frz9 HB1.out 2;have lq:w.heap.size<w1.heap.size:=by omega
  have lr:w.heap.size+1<w1.heap.size:=by omega
  have HBE:Hid (∀u0 u1 u2,Below w.heap.size w (((w1.setCell ⟨w.heap.size+1,0,none⟩ u0).setCell ⟨w.heap.size+1,1,none⟩ u1).setCell ⟨w.heap.size+1,2,none⟩ u2)):=fun u0 u1 u2=>((HBL.out.setCell (by simp only;omega) _).setCell (by simp only;omega) _).setCell (by simp only;omega) _
  by_cases he:er=0
  ·subst he
   have hR:=HR1.out;rw[if_pos rfl] at hR;by_cases hf:fuel<0∨300<fuel
   ·rw[if_pos hf] at hR
    have HN:Hid ((zH4,(3:Int))=R):=hR;clear hR HR1;by_cases hf0:fuel<0
    ·clear hf
     go_wp2
     refine bodyPost_ret (by simp[results,Tryz.results26,go_sem, *];try rfl) rfl ?_
     rw[←HN.out];exact⟨_,_,rfl,zGP _ _ _,HBE.out _ _ _⟩
    ·have hf1:300<fuel:=by rcases hf with h | h;exact absurd h hf0;exact h
     clear hf;go_wp2
     refine bodyPost_ret (by simp[results,Tryz.results26,go_sem, *];try rfl) rfl ?_
     rw[←HN.out];exact⟨_,_,rfl,zGP _ _ _,HBE.out _ _ _⟩
   ·rw[if_neg hf] at hR
    have hf0:¬fuel<0:=fun h=>hf (Or.inl h)
    have hf1:¬300<fuel:=fun h=>hf (Or.inr h)
    obtain⟨fn,rfl⟩:∃fn:Nat,fuel=(fn:Int):=⟨fuel.toNat,by omega⟩
    have HR2:Hid ((zEl m (fn:Int),(0:Int))=R):=hR;have hfn:fn≤300:=by omega
    have HGG:Hid (m.goal=1∨m.goal=2):=by
     rcases (zFz m HER.out).2.2 with h | h
     ·exact absurd h hg
     ·exact h
    clear hR HR1 hf hg;go_wp2_with fail
    refine (zPw m HER.out fn (.slice a1 m.vars.length c1) (.slice a2 m.cons.length c2) w1 (HMA.out _ HBL.out) (HT.out _ HBL.out)).mono ?_;rintro e W ⟨s,rfl,r,mb,pv,hB,hD,hbW,hr,hs,hmb⟩;have HSB:Hid (SkB W s r mb (.slice a1 m.vars.length c1) pv m.vars (ptsM m)):=hB;have HSD:=(show Hid _ from hD)
    have HBW:Hid (Below w1.heap.size w1 W):=hbW;have hsW:=hbW.size;clear hB hD hbW r0 r1 r2 z0 z1 z2;have q0:=(HBW.out.cell (p:=⟨w.heap.size,0,none⟩) lq).trans g0;have q1:=(HBW.out.cell (p:=⟨w.heap.size,1,none⟩) lq).trans g1;have q2:=(HBW.out.cell (p:=⟨w.heap.size,2,none⟩) lq).trans g2;have q3:=(HBW.out.cell (p:=⟨w.heap.size,3,none⟩) lq).trans g3;have lqW:w.heap.size<W.heap.size:=by omega
    clear g0 g1 g2 g3;go_wp2_with fail
    have hCn:=heap_alloc_new W (.cells #[.pointer (some ⟨s,0,none⟩),.slice none 0 0] 118);refine (zP2 m HER.out HGG.out fn hfn W s r mb W.heap.size (.slice a1 m.vars.length c1) (.slice a2 m.cons.length c2) pv HSB.out _ (HSD.out.below (zAA _ _)) hCn (Nat.le_refl _)).mono ?_;rintro e w2 ⟨vv,pp,rfl,hq,hfr⟩;obtain⟨⟨av,cv,rfl⟩,ap,np,cp,rfl⟩:=hq.forms;have HB2:Hid (w2.heap[w.heap.size+1]? = some (.cells #[.int .i64 0,.slice none 0 0,.slice none 0 0] 53)):=(hfr.block _ (by omega) (by unfold XS;omega)).trans ((HBW.out.block _ lr).trans HB1.out)
    have HBL2:Hid (Below w.heap.size w w2):=by
     have h1:=HBL.out.trans (HBW.out.mono HBL.out.size);exact⟨hfr.os.trans h1.os,hfr.tape.trans h1.tape,hfr.output.trans h1.output,Nat.le_trans h1.size hfr.size,fun k hk=>(hfr.block k (Nat.lt_of_lt_of_le hk h1.size) (by unfold XS;have:=HBL.out.size;omega)).trans (h1.block k hk)⟩
    have hs2:w.heap.size+1<w2.heap.size:=(Array.getElem?_eq_some_iff.1 HB2.out).1;have HQ:Hid (∀u0 u1 u2,AnsQ w.heap.size (((w2.setCell ⟨w.heap.size+1,0,none⟩ u0).setCell ⟨w.heap.size+1,1,none⟩ u1).setCell ⟨w.heap.size+1,2,none⟩ u2) (.slice av (zEl m (fn:Int)).values.length cv) (.slice ap np cp) (zEl m (fn:Int))):=fun u0 u1 u2=>AnsQ.set3 (hq.mono (by omega)) HB2.out u0 u1 u2
    have HBE2:Hid (∀u0 u1 u2,Below w.heap.size w (((w2.setCell ⟨w.heap.size+1,0,none⟩ u0).setCell ⟨w.heap.size+1,1,none⟩ u1).setCell ⟨w.heap.size+1,2,none⟩ u2)):=fun u0 u1 u2=>((HBL2.out.setCell (by simp only;omega) _).setCell (by simp only;omega) _).setCell (by simp only;omega) _
    obtain⟨⟨tv,tx,tp⟩,hcA⟩:∃T,zEl m (fn:Int)=T:=⟨_,rfl⟩;rw[hcA] at HQ HR2 ⊢;have r0:=blk9 HB2.out 0 _ rfl;have r1:=blk9 HB2.out 1 _ rfl;have r2:=blk9 HB2.out 2 _ rfl;have z0:=frz9 HB2.out 0;have z1:=frz9 HB2.out 1;have z2:=frz9 HB2.out 2;clear hq hfr hcA q0 q1 q2 q3 hCn hs hr hmb;go_wp2
    refine bodyPost_ret (by simp[results,Tryz.results26,go_sem, *];try rfl) rfl ?_
    rw[←HR2.out];exact⟨_,_,rfl,HQ.out _ _ _,HBE2.out _ _ _⟩
  ·have hR:=HR1.out
   rw[if_neg he] at hR;have HN:Hid ((zH4,er)=R):=hR;have he':(er != 0)=true:=by simpa using he
   clear hR HR1 he;go_wp2
   refine bodyPost_ret (by simp[results,Tryz.results26,go_sem, *];try rfl) rfl ?_
   rw[←HN.out];exact⟨_,_,rfl,zGP _ _ _,HBE.out _ _ _⟩
theorem zKz:ptsM twoM=[twoP]:=by
 show [zAK twoM.vars twoC]=_;rw[zEy]
theorem zTU:zH5 twoM 20=(zEl twoM 20,0):=by
 unfold zH5;rw[if_neg (by decide),if_pos zBD,if_neg (by decide)]
def R1:Int×List Int×Sk:=zAt twoM.vars [twoP] (zED 20)
theorem zTI:zCT twoM 20=R1:=by unfold zCT R1;rw[zKz]
theorem zSj:R1=(1,[0,1],⟨[],20,[],[⟨0,4,0⟩,⟨1,4,1⟩]⟩):=by kernel_rfl
def S2:Sk:=⟨[zAH twoM.vars [⟨1,1,0⟩]],20,[],[⟨0,4,0⟩,⟨1,4,1⟩]⟩
theorem zTJ:zCH twoM R1=S2:=by rw[zSj];kernel_rfl
def R2:Int×List Int×Sk:=zAt twoM.vars [twoP] S2
theorem zSk:R2.1=2:=by kernel_rfl
theorem zTV:decide (0<R2.2.2.proof.length)=true:=by kernel_rfl
theorem zTW:zEl twoM 20=⟨1,[0,1],R2.2.2.proof⟩:=by
 unfold zEl;have h1:R1.1=1:=by rw[zSj]
 have hs:(zCT twoM 20).1=1→Sol twoM (zCT twoM 20).2.1:=fun h=>(zCI twoM zBD _ h).1
 rw[zGU twoM zBD (Or.inl rfl) _ _ hs,zTI,if_pos h1,zTJ,zKz];have h2:R2.1=1→Sol twoM R2.2.1:=fun h=>by rw[zSk] at h;cases h
 show zGp twoM R2 R1.2.1=_;rw[zGU twoM zBD (Or.inl rfl) _ _ h2,if_neg (by rw[zSk];decide),if_neg (by rw[zSk];decide),zSj]
 rfl
theorem zTX:zGS twoM [0,2]=([⟨1,1,1⟩],0):=by
 unfold zGS;rw[if_pos zBD]
 kernel_rfl
theorem zSl:∃P,zH5 twoM 20=(⟨1,[0,1],P⟩,0)∧0<P.length:=⟨R2.2.2.proof,by rw[zTU,zTW],of_decide_eq_true zTV⟩
end Go.Proofs.YtndcpnlaadikoaaGreatDoor
