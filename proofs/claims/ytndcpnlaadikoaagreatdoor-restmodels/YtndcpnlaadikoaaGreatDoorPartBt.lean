/- What the proof leans on, part 46. -/
import Derived.Test.YtndcpnlaadikoaaGreatDoorPartAm
import Derived.Test.YtndcpnlaadikoaaGreatDoorPartAs
set_option maxRecDepth 100000
namespace Go.Proofs.YtndcpnlaadikoaaGreatDoor
open Go.ChangeShapes Go.WideShapes Go.ChangeAt Go.RowKit Go.Deep
section
variable {H:Type} {enc:TypeId×Value→H} {w:World} {base:Nat} {spare:Nat→Bool} {held:Bool}
def zEq (t:TypeId) (d:DataW H):Prop:=∀k∈d.weights Tryz.prog t,k≤reachBytes
theorem zLJ {e:TypeId}:∀(l:List (DataW H)) (d:DataW H),d∈l→∀k∈d.weights Tryz.prog e,k∈DataW.weightsAll Tryz.prog e l
 | [],d,h,_,_=>by cases h
 | x :: r,d,h,k,hk=>by
   unfold DataW.weightsAll;rcases List.mem_cons.1 h with rfl | h
   ·exact List.mem_append_left _ hk
   ·exact List.mem_append_right _ (zLJ r d h k hk)
theorem zMV {t e:TypeId} (ht:Tryz.prog.underlying t=some (.slice e)) {elems sp:List (DataW H)} (h:zEq t (.slice elems sp)):elems.length * Tryz.prog.bytesOf e≤reachBytes∧∀d∈elems,zEq e d:=by
 unfold zEq DataW.weights at h;rw[ht] at h;refine⟨?_,fun d hd k hk=>h k (List.mem_cons_of_mem _ (List.mem_append_left _ (zLJ elems d hd k hk)))⟩
 have h1:=h _ (List.mem_cons_self ..);exact Nat.le_trans (Nat.mul_le_mul_right _ (Nat.le_add_right _ _)) h1
theorem zDR {α:Type} [Inhabited α] {t e:TypeId} {size:Nat} (ht:Tryz.prog.underlying t=some (.slice e)) (hc:Tryz.prog.cellsOf e=size) (hsz:0<size) (cellsOf:α→List Value) (good:α→Prop)
 (hel:∀(n:Nat) (cs':List Value) (x':DataW H×List MemPlace),DataW.trod enc Tryz.prog w base spare held n e cs'=some x'→zEq e x'.1→∃a:α,cs'=cellsOf a∧good a)
 {fuel:Nat} {cs:List Value} {x:DataW H×List MemPlace} (h:DataW.trod enc Tryz.prog w base spare held fuel t cs=some x) (hw:zEq t x.1) :
 ∃(l:List α) (a:Option Addr) (c:Nat),cs=[.slice a l.length c]∧(l.length≤c∧c≤maxLen)∧l.length * Tryz.prog.bytesOf e≤reachBytes∧∀(i:Nat) (y:α),l[i]? = some y→good y∧∃b off,a=some ⟨b,off,none⟩∧b<w.heap.size∧∀(j:Nat) (u:Value),(cellsOf y)[j]? = some u→w.cell? ⟨b,off+(i * size+j),none⟩=some u:=by
 rcases open_slice ht h with ⟨hcs,_⟩ | ⟨a,len,cap,m,n,D,Pl,hcs,_,hl,hcm,hmm,hxe,hx⟩
 ·exact⟨[],none,0,hcs,⟨Nat.le_refl _,Nat.zero_le _⟩,by simp,fun i y h=>by simp at h⟩
 ·rw[hxe] at hw
  obtain⟨hwl,hwe⟩:=zMV ht hw;have hlm:len≤m:=by rw[hmm];split <;> omega
  have each:∀i,i<len→∃y:α,good y∧(cellsOf y).length=size∧∀j u,(cellsOf y)[j]? = some u→w.cell? (a.add (i * size+j))=some u:=by
   intro i hi;obtain⟨cs',hc',ht'⟩:=hx i (by omega)
   obtain⟨y,rfl,hg⟩:=hel n cs' _ ht' (hwe _ (List.mem_map.2 ⟨i,List.mem_range.2 hi,rfl⟩));obtain⟨_,hlen,hcell⟩:=World.cells?_some hc';rw[hc] at hlen;refine⟨y,hg,hlen,fun j u hj=>?_⟩
   have:=hcell j (by rw[hc,←hlen];exact (List.getElem?_eq_some_iff.1 hj).1)
   rw[hc,add_add] at this;rw[this];exact hj
  obtain⟨f,hf⟩:=choose_lt each;refine⟨(List.range len).map f,some a,cap,by simpa using hcs,⟨by simpa using hl,hcm⟩,by simpa using hwl,fun i y hy=>?_⟩
  have hi:i<len:=by have:=(List.getElem?_eq_some_iff.1 hy).1;simpa using this
  have hyf:y=f i:=by simp[hi] at hy;exact hy.symm
  subst hyf;obtain⟨hg,hlen,hcell⟩:=hf i hi;obtain⟨_,hlen0,hcell0⟩:=hf 0 (by omega)
  obtain⟨u0,hu0⟩:∃u0,(cellsOf (f 0))[0]? = some u0:=⟨(cellsOf (f 0))[0]'(by omega),by simp⟩
  have h00:=hcell0 0 u0 hu0;have hspot:a.spot=none:=by simpa[Addr.add] using World.cell?_spot h00
  have hblk:a.block<w.heap.size:=by simpa[Addr.add] using World.block_lt_of_cell? w _ h00
  refine⟨hg,a.block,a.off,?_,hblk,fun j u hj=>?_⟩
  ·obtain⟨b,off,spot⟩:=a;simp only at hspot;subst hspot;rfl
  ·have:=hcell j u hj
   obtain⟨b,off,spot⟩:=a;simp only at hspot;subst hspot;rwa [add_plain] at this
theorem zIF {n:Nat} (h:n≤reachBytes):n≤140737488355328:=Nat.le_trans h (by decide)
theorem Tryz.byInt:Tryz.prog.bytesOf 3=8:=by kernel_rfl
theorem Tryz.byInts:Tryz.prog.bytesOf 42=24:=by kernel_rfl
theorem Tryz.byLit:Tryz.prog.bytesOf 76=24:=by kernel_rfl
theorem Tryz.byVar:Tryz.prog.bytesOf 67=32:=by kernel_rfl
theorem Tryz.byCon:Tryz.prog.bytesOf 69=112:=by kernel_rfl
theorem zFW {fuel:Nat} {cs:List Value} {x:DataW H×List MemPlace} (h:DataW.trod enc Tryz.prog w base spare held fuel 42 cs=some x) (hw:zEq 42 x.1):∃v l,cs=[v]∧IArg w v l∧l.length * 8≤140737488355328:=by
 obtain⟨l,a,c,hcs,hm,hs,hr⟩:=zDR (α:=Int) Tryz.underlying42 Tryz.cInt (by decide) (fun z=>[.int .i64 z]) (fun _=>True)
  (fun n cs' x' h' _=>by obtain⟨z,hz,_,_⟩:=DataW.trod_int Tryz.underlying3 h';exact⟨z,hz,trivial⟩) h hw
 rw[Tryz.byInt] at hs;refine⟨_,l,hcs,⟨a,c,rfl,hm,fun i z hz=>?_⟩,zIF hs⟩
 obtain⟨_,b,off,ha,hb,hc⟩:=hr i z hz;have:=hc 0 _ rfl;exact⟨b,off,ha,hb,by simpa using this⟩
theorem zMW {fuel:Nat} {cs:List Value} {x:DataW H×List MemPlace} (h:DataW.trod enc Tryz.prog w base spare held fuel 56 cs=some x) (hw:zEq 56 x.1):∃v l,cs=[v]∧RArg w v l∧l.length * 24≤140737488355328∧∀r∈l,r.length * 8≤140737488355328:=by
 obtain⟨l,a,c,hcs,hm,hs,hr⟩:=zDR (α:=Value×List Int) Tryz.underlying56 Tryz.cInts (by decide) (fun z=>[z.1]) (fun z=>IArg w z.1 z.2∧z.2.length * 8≤140737488355328)
  (fun n cs' x' h' hw'=>by obtain⟨v,r,hz,hi,h8⟩:=zFW h' hw';exact⟨(v,r),hz,hi,h8⟩) h hw
 rw[Tryz.byInts] at hs;refine⟨_,l.map (·.2),hcs,⟨a,c,by simp,by simpa using hm,fun i r hr'=>?_⟩,by rw[List.length_map];exact zIF hs,fun r hr'=>?_⟩
 ·rw[List.getElem?_map] at hr'
  obtain⟨⟨v,r2⟩,hz,rfl⟩:=Option.map_eq_some_iff.1 hr';obtain⟨hg,b,off,ha,hb,hc⟩:=hr i _ hz;have:=hc 0 _ rfl;exact⟨b,off,v,ha,hb,by simpa using this,hg.1⟩
 ·obtain⟨y,hy,rfl⟩:=List.mem_map.1 hr'
  obtain⟨i,hi⟩:=List.mem_iff_getElem?.1 hy;exact (hr i y hi).1.2
theorem zMX {fuel:Nat} {cs:List Value} {x:DataW H×List MemPlace} (h:DataW.trod enc Tryz.prog w base spare held fuel 27 cs=some x) (hw:zEq 27 x.1):∃v l,cs=[v]∧LArg w v l∧l.length * 24≤140737488355328:=by
 have hinh:Inhabited MLit:=⟨⟨0,0,0⟩⟩;obtain⟨l,a,c,hcs,hm,hs,hr⟩:=zDR (α:=MLit) Tryz.underlying27 Tryz.cLit (by decide) (fun t=>[.int .i64 t.var,.int .i64 t.op,.int .i64 t.n]) (fun _=>True)
  (fun n cs' x' h' _=>by obtain⟨t,ht⟩:=zSP h';exact⟨t,ht,trivial⟩) h hw
 rw[Tryz.byLit] at hs;refine⟨_,l,hcs,⟨a,c,rfl,hm,fun i z hz=>?_⟩,zIF hs⟩
 obtain⟨_,b,off,ha,hb,hc⟩:=hr i z hz;have e0:=hc 0 _ rfl;have e1:=hc 1 _ rfl;have e2:=hc 2 _ rfl;rw[←Nat.add_assoc] at e0 e1 e2;exact⟨b,off,ha,hb,e0,e1,e2⟩
theorem zMY {fuel:Nat} {cs:List Value} {x:DataW H×List MemPlace} (h:DataW.trod enc Tryz.prog w base spare held fuel 22 cs=some x) (hw:zEq 22 x.1):∃v l,cs=[v]∧VArg w v l∧l.length * 32≤140737488355328:=by
 have hinh:Inhabited MVar:=⟨⟨ByteArray.empty,0,0⟩⟩;obtain⟨l,a,c,hcs,hm,hs,hr⟩:=zDR (α:=MVar) Tryz.underlying22 Tryz.cVar (by decide) (fun t=>[.string t.name,.int .i64 t.lo,.int .i64 t.hi]) (fun t=>t.name.size≤maxLen)
  (fun n cs' x' h' _=>by obtain⟨t,ht,hs⟩:=zSQ h';exact⟨t,ht,hs⟩) h hw
 rw[Tryz.byVar] at hs;refine⟨_,l,hcs,⟨a,c,rfl,hm,fun i z hz=>?_⟩,zIF hs⟩
 obtain⟨hg,b,off,ha,hb,hc⟩:=hr i z hz;have e0:=hc 0 _ rfl;have e1:=hc 1 _ rfl;have e2:=hc 2 _ rfl;rw[←Nat.add_assoc] at e0 e1 e2;exact⟨hg,b,off,ha,hb,e0,e1,e2⟩
def SzC (c:MCon):Prop:=c.vars.length * 8≤140737488355328∧c.consts.length * 8≤140737488355328∧c.rows.length * 24≤140737488355328∧c.lits.length * 24≤140737488355328∧∀r∈c.rows,r.length * 8≤140737488355328
theorem zRz {n:Nat} {cs:List Value} {x:DataW H×List MemPlace} (h:DataW.trod enc Tryz.prog w base spare held n 69 cs=some x) (hw:zEq 69 x.1) :
 ∃(t:MCon) (vv vc vr vl:Value),cs=[.int .i64 t.kind,vv,vc,.int .i64 t.n,vr,vl]∧KArg w vv vc vr vl t∧SzC t:=by
 obtain⟨xs,k,_,hxe,hl,hxl,hf⟩:=DataW.trod_struct Tryz.underlying69 h;rw[Tryz.cCon] at hl;rw[hxe] at hw;unfold zEq DataW.weights at hw;rw[Tryz.underlying69] at hw
 match cs,hl,xs,hxl with
 | [c0,c1,c2,c3,c4,c5],_,[y0,y1,y2,y3,y4,y5],_ =>
   have g0:=hf 0 _ rfl;have g1:=hf 1 _ rfl;have g2:=hf 2 _ rfl;have g3:=hf 3 _ rfl;have g4:=hf 4 _ rfl;have g5:=hf 5 _ rfl;have lw:∀(j:Nat) (t:TypeId) (d:DataW H),[3,42,42,3,56,27][j]? = some t→[y0.1,y1.1,y2.1,y3.1,y4.1,y5.1][j]? = some d→zEq t d:=fun j t d ht hd k hk=>hw k (DataW.weights_mem_each ht hd k hk)
   obtain⟨kd,hk,_,_⟩:=DataW.trod_int Tryz.underlying3 g0;obtain⟨v1,l1,hv1,i1,s1⟩:=zFW g1 (lw 1 _ _ rfl rfl);obtain⟨v2,l2,hv2,i2,s2⟩:=zFW g2 (lw 2 _ _ rfl rfl);obtain⟨nn,hn,_,_⟩:=DataW.trod_int Tryz.underlying3 g3;obtain⟨v4,l4,hv4,i4,s4,s4'⟩:=zMW g4 (lw 4 _ _ rfl rfl);obtain⟨v5,l5,hv5,i5,s5⟩:=zMX g5 (lw 5 _ _ rfl rfl)
   change List.take (Tryz.prog.cellsOf 3) [c0,c1,c2,c3,c4,c5]=_ at hk
   change List.take (Tryz.prog.cellsOf 42) [c1,c2,c3,c4,c5]=_ at hv1
   change List.take (Tryz.prog.cellsOf 42) [c2,c3,c4,c5]=_ at hv2
   change List.take (Tryz.prog.cellsOf 3) [c3,c4,c5]=_ at hn
   change List.take (Tryz.prog.cellsOf 56) [c4,c5]=_ at hv4
   change List.take (Tryz.prog.cellsOf 27) [c5]=_ at hv5
   rw[Tryz.cInt] at hk hn;rw[Tryz.cInts] at hv1 hv2;rw[Tryz.cRows] at hv4;rw[Tryz.cLits] at hv5;simp at hk hv1 hv2 hn hv4 hv5;exact⟨⟨kd,l1,l2,nn,l4,l5⟩,v1,v2,v4,v5,by rw[hk,hv1,hv2,hn,hv4,hv5],⟨i1,i2,i4,i5⟩,s1,s2,s4,s5,s4'⟩
theorem zMZ {fuel:Nat} {cs:List Value} {x:DataW H×List MemPlace} (h:DataW.trod enc Tryz.prog w base spare held fuel 23 cs=some x) (hw:zEq 23 x.1):∃v l,cs=[v]∧CArg w v l∧l.length * 112≤140737488355328∧∀c∈l,SzC c:=by
 have hinh:Inhabited (MCon×Value×Value×Value×Value):=⟨⟨0,[],[],0,[],[]⟩,.bool false,.bool false,.bool false,.bool false⟩;obtain⟨l,a,c,hcs,hm,hs,hr⟩:=zDR (α:=MCon×Value×Value×Value×Value) Tryz.underlying23 Tryz.cCon (by decide)
  (fun t=>[.int .i64 t.1.kind,t.2.1,t.2.2.1,.int .i64 t.1.n,t.2.2.2.1,t.2.2.2.2]) (fun t=>KArg w t.2.1 t.2.2.1 t.2.2.2.1 t.2.2.2.2 t.1∧SzC t.1)
  (fun n cs' x' h' hw'=>by obtain⟨t,vv,vc,vr,vl,ht,hk,hz⟩:=zRz h' hw';exact⟨(t,vv,vc,vr,vl),ht,hk,hz⟩) h hw
 rw[Tryz.byCon] at hs;refine⟨_,l.map (·.1),hcs,⟨a,c,by simp,by simpa using hm,fun i r hr'=>?_⟩,by rw[List.length_map];exact zIF hs,fun r hr'=>?_⟩
 ·rw[List.getElem?_map] at hr'
  obtain⟨⟨t,vv,vc,vr,vl⟩,hz,rfl⟩:=Option.map_eq_some_iff.1 hr';obtain⟨hg,b,off,ha,hb,hc⟩:=hr i _ hz;have e0:=hc 0 _ rfl;have e1:=hc 1 _ rfl;have e2:=hc 2 _ rfl;have e3:=hc 3 _ rfl;have e4:=hc 4 _ rfl;have e5:=hc 5 _ rfl;rw[←Nat.add_assoc] at e0 e1 e2 e3 e4 e5;exact⟨b,off,vv,vc,vr,vl,ha,hb,e0,e1,e2,e3,e4,e5,hg.1⟩
 ·obtain⟨y,hy,rfl⟩:=List.mem_map.1 hr'
  obtain⟨i,hi⟩:=List.mem_iff_getElem?.1 hy;exact (hr i y hi).1.2
theorem zMa {r:Reach} {b0:Nat} {v:Value} {d:DataW H} {p:List MemPlace} (hv:Value.okWide Tryz.prog w r b0 25 v) (h:DataW.Trod enc Tryz.prog w base spare held 25 v d p) (hw:zEq 25 d) :
 ∃vs cs m,v=modV vs cs m∧MArg w vs cs m∧SzM m:=by
 obtain⟨v0,v1,v2,v3,y0,y1,y2,y3,n,rfl,hd,_,h0,h1,h2,h3⟩:=Go.Joins.open_agg4 Tryz.underlying25 (by kernel_rfl) Tryz.cModel hv h
 rw[hd] at hw;unfold zEq DataW.weights at hw;rw[Tryz.underlying25] at hw;have lw:∀(j:Nat) (t:TypeId) (d:DataW H),[22,23,3,3][j]? = some t→[y0.1,y1.1,y2.1,y3.1][j]? = some d→zEq t d:=fun j t d ht hd k hk=>hw k (DataW.weights_mem_each ht hd k hk)
 obtain⟨a0,l0,e0,i0,s0⟩:=zMY h0 (lw 0 _ _ rfl rfl);obtain⟨a1,l1,e1,i1,s1,s1'⟩:=zMZ h1 (lw 1 _ _ rfl rfl);obtain⟨g,hg,_,_⟩:=DataW.trod_int Tryz.underlying3 h2;obtain⟨q,hq,_,_⟩:=DataW.trod_int Tryz.underlying3 h3;cases e0;cases e1;cases hg;cases hq
 exact⟨v0,v1,⟨l0,l1,g,q⟩,rfl,⟨i0,i1⟩,s0,s1,s1'⟩
end
end Go.Proofs.YtndcpnlaadikoaaGreatDoor
