/- What the proof leans on, part 23. -/
import Derived.Test.YtndcpnlaadikoaaGreatDoorPartAv
import Derived.Test.YtndcpnlaadikoaaGreatDoorPartAp
import Derived.Test.YtndcpnlaadikoaaGreatDoorPartAq
import Derived.Test.YtndcpnlaadikoaaGreatDoorPartAt
set_option maxRecDepth 100000
set_option maxHeartbeats 6400000
namespace Go.Proofs.YtndcpnlaadikoaaGreatDoor
open Go.RowKit
theorem Tryz.underDue:Tryz.prog.underlying 192=some (.slice 23):=by kernel_rfl
theorem Tryz.underConsD:Tryz.prog.underlying 23=some (.slice 69):=by kernel_rfl
theorem Tryz.infoConsD:(Tryz.prog.info? 23).map (fun i=>(i.zero,i.size,i.bytes))=some (some (.slice none 0 0),1,24):=by kernel_rfl
theorem Tryz.infoConD:(Tryz.prog.info? 69).map (fun i=>(i.zero,i.size,i.bytes))=some (some (.agg #[.int .i64 0,.slice none 0 0,.slice none 0 0,.int .i64 0,.slice none 0 0,.slice none 0 0]),6,112):=by kernel_rfl
theorem zRI (n:Nat) (hn:n≤6) (w:World):∃w',Sem.run Tryz.prog (Instr.makeSlice 192 (.int .i64 (n:Int)) (.int .i64 (n:Int))) w=.ok (.slice (some ⟨w.heap.size,0,none⟩) n n) w' ∧
 zDU w' w.heap.size n (List.replicate n (.slice none 0 0)) (List.replicate n [])∧Below w.heap.size w w':=by
 obtain⟨i0,hi,hz0,hz1,hz2⟩:=info_parts Tryz.infoConsD;obtain⟨w',hrun,hown,hg⟩:=run_makeSlice_full w w.heap.size 192 23 i0 (.slice none 0 0) 1 Tryz.underDue hi hz0 hz1 .i64 .i64 n (by omega) (by rw[hz2];omega) (by unfold maxLen;omega) (Nat.le_refl _)
 have hc:(Value.slice none 0 0).cells=#[.slice none 0 0]:=rfl;rw[hc,Nat.mul_one,toList_madeCells_one] at hown;refine⟨w',hrun,⟨hown,by simp,fun i r hr=>?_,fun i j x y g _ hx _ hg=>?_⟩,(Below.refl _ _).grown hg (Nat.le_refl _) (fun k h=>by cases h)⟩
 ·have hi:i<n:=by have:=(List.getElem?_eq_some_iff.1 hr).1;simpa using this
  have:r=[]:=by rw[List.getElem?_replicate,if_pos hi] at hr;exact (Option.some.inj hr).symm
  subst this;exact⟨.slice none 0 0,by rw[List.getElem?_replicate,if_pos hi],World.ownsRow_nil _ _ _ _⟩
 ·rw[List.getElem?_replicate] at hx
  split at hx
  ·cases hx;cases hg
  ·cases hx
theorem zM6 (w:World) (x:KV):∀(j:Nat) (u:Value),(kvC x)[j]? = some u→(w.alloc (.cells #[.int .i64 x.c.kind,x.vv,x.vc,.int .i64 x.c.n,x.vr,x.vl] 69)).cell? ((⟨w.heap.size,0,none⟩:Addr).add j)=some u:=by
 intro j u hj
 match j,hj with
 | 0,hj=>simp[kvC] at hj;subst hj;simp[Addr.add]
 | 1,hj=>simp[kvC] at hj;subst hj;simp[Addr.add]
 | 2,hj=>simp[kvC] at hj;subst hj;simp[Addr.add]
 | 3,hj=>simp[kvC] at hj;subst hj;simp[Addr.add]
 | 4,hj=>simp[kvC] at hj;subst hj;simp[Addr.add]
 | 5,hj=>simp[kvC] at hj;subst hj;simp[Addr.add]
theorem zRJ (m:Mod) (hm:zAG m=0) (c:MCon) (hc:c∈m.cons):(zAk c=[]∧zCW c=0)∨∃q,(zAk c).length=q+1∧(zAk c)[q]? = some ((zCW c:Nat):Int):=by
 obtain⟨j,hj⟩:=List.mem_iff_getElem?.1 hc;obtain⟨h1,_⟩:=zC9 m hm j c hj;unfold zCW;obtain⟨L,hL⟩:∃L,zAk c=L:=⟨_,rfl⟩;rw[hL] at h1 ⊢;rcases List.eq_nil_or_concat L with rfl | ⟨i,x,rfl⟩
 ·exact Or.inl ⟨rfl,rfl⟩
 ·right
  rw[List.concat_eq_append] at h1 ⊢;have hx:=(h1 x (by simp)).1
  refine⟨i.length,by simp,?_⟩
  have e:(i++[x]).getLastD 0=x:=by simp
  rw[e,List.getElem?_concat_length]
  congr 1
  omega
theorem zPb (m:Mod) (hm:zAG m=0) (vs cs:Value) (w0 w:World) (hma0:MArg w0 vs cs m) (hb0:Below w0.heap.size w0 w) :
 Calls Tryz.prog 128 #[modV vs cs m] w fun e w'=>∃B cells M,e=.returned (.slice (some ⟨B,0,none⟩) m.vars.length m.vars.length)∧zDU w' B m.vars.length cells M∧w.heap.size≤B∧Below w.heap.size w w' ∧
  (∀r∈M,∀x∈r,KOk w0 x)∧∀(v:Nat) (r:List KV),M[v]? = some r→r.map (·.c)=dueP m.cons v:=by
 have h6:m.vars.length≤6:=(zAe m hm).2.1;have hma:MArg w vs cs m:=MArg.below hb0 hma0;have HSC:Hid (∀(Y:World) (k:Nat),k<m.cons.length→Below w.heap.size w Y→Calls Tryz.prog 28 #[modV vs cs m,.int .i64 (k:Int)] Y fun e w'=>∃x,e=.returned (.tuple #[x,.int .i64 0])∧IArg w' x (zAk (m.cons.getD k zGD))∧Below Y.heap.size Y w'):=fun Y k hk hY=>by
  refine (zEt m (k:Int) vs cs Y (MArg.below hY hma)).mono ?_;have h1:zAw m (k:Int)=0:=by unfold zAw;rw[if_pos hm,if_neg (by omega)]
  have h2:zCr m (k:Int)=(zAk (m.cons.getD k zGD),0):=by unfold zCr;rw[if_pos h1,Int.toNat_natCast]
  rw[h2];exact fun e w' h=>h
 have HLT:Hid (∀c∈m.cons,zCW c<m.vars.length):=zRB m hm;have HLZ:Hid (∀c∈m.cons,(zAk c=[]∧zCW c=0)∨∃q,(zAk c).length=q+1∧(zAk c)[q]? = some ((zCW c:Nat):Int)):=zRJ m hm;obtain⟨⟨a1,c1,rfl,_,_⟩,hca⟩:=hma0;obtain⟨kvs,hkc,hko0,a2,c2,rfl,hkr0⟩:=zRF hca;have HK0:Hid (∀x∈kvs,KOk w0 x):=hko0;have hko:∀x∈kvs,KOk w x:=fun x hx=>KArg.below hb0 (hko0 x hx)
 have hkr:∀(i:Nat) (x:KV),kvs[i]? = some x→∃b off,a2=some ⟨b,off,none⟩∧b<w.heap.size∧∀(j:Nat) (u:Value),(kvC x)[j]? = some u→w.cell? ⟨b,off+i * 6+j,none⟩=some u:=fun i x hx=>by
  obtain⟨b,off,h1,h2,h3⟩:=hkr0 i x hx;exact⟨b,off,h1,Nat.lt_of_lt_of_le h2 hb0.size,fun j u hu=>(hb0.cell (p:=⟨b,off+i * 6+j,none⟩) h2).trans (h3 j u hu)⟩
 clear hko0 hkr0 hma hb0;have hkl:m.cons.length=kvs.length:=by rw[←hkc];simp
 have HKO:Hid (∀x∈kvs,KOk w x):=hko;have HKR:Hid (∀(i:Nat) (x:KV),kvs[i]? = some x→∃b off,a2=some ⟨b,off,none⟩∧b<w.heap.size∧∀(j:Nat) (u:Value),(kvC x)[j]? = some u→w.cell? ⟨b,off+i * 6+j,none⟩=some u):=hkr;have HKC:Hid (kvs.map (·.c)=m.cons):=hkc
 have hk8:kvs.length≤8:=by have:=(zAe m hm).2.2.1;omega
 have HKL:Hid (m.cons.length=kvs.length):=hkl;obtain⟨n,hn⟩:∃n,m.vars.length=n:=⟨_,rfl⟩;rw[hn] at HSC HLT h6 ⊢;obtain⟨wm,hrun,hgk,hbm⟩:=zRI n h6 (w.alloc (.cells #[.slice a1 n c1,.slice a2 kvs.length c2,.int .i64 m.goal,.int .i64 m.var] 25));have hbx:=heap_alloc_new w (.cells #[.slice a1 n c1,.slice a2 kvs.length c2,.int .i64 m.goal,.int .i64 m.var] 25);have hsz:(w.alloc (.cells #[.slice a1 n c1,.slice a2 kvs.length c2,.int .i64 m.goal,.int .i64 m.var] 25)).heap.size=w.heap.size+1:=by simp
 have HQM:Hid (wm.heap[w.heap.size]? = some (.cells #[.slice a1 n c1,.slice a2 kvs.length c2,.int .i64 m.goal,.int .i64 m.var] 25)):=(hbm.block _ (by simp)).trans hbx
 have HBM:Hid (Below w.heap.size w wm):=(zAA _ _).trans (hbm.mono (by simp))
 rw[hsz] at hrun hgk;obtain⟨B,hB⟩:∃B,w.heap.size+1=B:=⟨_,rfl⟩;rw[hB] at hrun hgk;have HGM:Hid (zDU wm B n (List.replicate n (.slice none 0 0)) (List.replicate n [])):=hgk;have hBw:w.heap.size≤B:=by omega
 have hBq:w.heap.size<B:=by omega
 obtain⟨i0,hi,hz0,hz1,hz2⟩:=info_parts Tryz.infoConD;have q0:=blk9 HQM.out 0 _ rfl;have q1:=blk9 HQM.out 1 _ rfl;have ql:=(Array.getElem?_eq_some_iff.1 HQM.out).1;unfold modV;clear hgk hbm hbx hsz hB hko hkr hkc hkl hca hm;go_enter Tryz.func128,Tryz.ntmps128
 go_wp2_with fail
 clear hrun q0 q1 ql;go_loopw [16] (fun i wr=>∃(k:Nat) (cells:List Value),k≤kvs.length∧i=.int .i64 k∧zDU wr B n cells (dueF (kvs.take k) (List.replicate n []))∧wr.heap[w.heap.size]? = some (.cells #[.slice a1 n c1,.slice a2 kvs.length c2,.int .i64 m.goal,.int .i64 m.var] 25)∧Below w.heap.size w wr) (fun i _=>kvs.length - (intOf i).toNat)
 case atStart=>exact⟨0,_,by omega,rfl,HGM.out,HQM.out,HBM.out⟩
 case round =>
  obtain⟨k,cells,hk,rfl,hg,hqr,hbw⟩:=hrel;have HG:Hid (zDU wr B n cells (dueF (kvs.take k) (List.replicate n []))):=hg;have HQR:Hid (wr.heap[w.heap.size]? = some (.cells #[.slice a1 n c1,.slice a2 kvs.length c2,.int .i64 m.goal,.int .i64 m.var] 25)):=hqr;have HBW:Hid (Below w.heap.size w wr):=hbw;clear hg hqr hbw;by_cases hlt:k<kvs.length
  ·obtain⟨x,hx⟩:∃x,kvs[k]? = some x:=⟨kvs[k],by simp[hlt]⟩
   obtain⟨bk,ok,hbk,hlk,hcells⟩:=HKR.out k x hx;have hkx:=HKO.out x (List.mem_of_getElem? hx);obtain⟨vv,vc,vr,vl,c⟩:=x;have HX:Hid (kvs[k]? = some ⟨vv,vc,vr,vl,c⟩):=hx;have hge:m.cons.getD k zGD=c:=by
    rw[←HKC.out,List.getD_eq_getElem?_getD,List.getElem?_map,hx];rfl
   have hlv:zCW c<n:=HLT.out c (by rw[←HKC.out];exact List.mem_map.2 ⟨_,List.mem_of_getElem? hx,rfl⟩)
   subst hbk;have d0:=(HBW.out.cell (p:=⟨bk,ok+k * 6,none⟩) hlk).trans (hcells 0 _ rfl);have d1:=(HBW.out.cell (p:=⟨bk,ok+k * 6+1,none⟩) hlk).trans (hcells 1 _ rfl);have d2:=(HBW.out.cell (p:=⟨bk,ok+k * 6+2,none⟩) hlk).trans (hcells 2 _ rfl);have d3:=(HBW.out.cell (p:=⟨bk,ok+k * 6+3,none⟩) hlk).trans (hcells 3 _ rfl);have d4:=(HBW.out.cell (p:=⟨bk,ok+k * 6+4,none⟩) hlk).trans (hcells 4 _ rfl);have d5:=(HBW.out.cell (p:=⟨bk,ok+k * 6+5,none⟩) hlk).trans (hcells 5 _ rfl);have dl:bk<wr.heap.size:=Nat.lt_of_lt_of_le hlk HBW.out.size;obtain⟨⟨b1,e1,h1,_,_⟩,⟨b2,e2,h2,_,_⟩,⟨b3,e3,h3,_,_⟩,⟨b4,e4,h4,_,_⟩⟩:=hkx
   dsimp only at h1 h2 h3 h4 d0 d1 d2 d3 d4 d5
   subst h1 h2 h3 h4;have q0:=blk9 HQR.out 0 _ rfl;have q1:=blk9 HQR.out 1 _ rfl;have q2:=blk9 HQR.out 2 _ rfl;have q3:=blk9 HQR.out 3 _ rfl;have ql:=(Array.getElem?_eq_some_iff.1 HQR.out).1;have HSK:Hid (∀Y,Below w.heap.size w Y→Calls Tryz.prog 28 #[modV (.slice a1 n c1) (.slice (some ⟨bk,ok,none⟩) kvs.length c2) m,.int .i64 (k:Int)] Y fun e w'=>∃x,e=.returned (.tuple #[x,.int .i64 0])∧IArg w' x (zAk c)∧Below Y.heap.size Y w'):=fun Y hY=>by
    have:=HSC.out Y k (by rw[HKL.out];exact hlt) hY
    rw[hge] at this;exact this
   have hlz:=HLZ.out c (by rw[←HKC.out];exact List.mem_map.2 ⟨_,List.mem_of_getElem? HX.out,rfl⟩)
   clear hcells hx hge;go_wp2_with fail
   refine (HSK.out _ (HBW.out.trans ((zAA _ _).mono HBW.out.size))).mono ?_;rintro e w1 ⟨xs,rfl,hx1,hb1⟩;obtain⟨xa,xc,rfl,hxl,hxr⟩:=hx1;have hB1:Below wr.heap.size wr w1:=(zAA _ _).trans (hb1.mono (by simp))
   have HB1:Hid (Below w.heap.size w w1):=HBW.out.trans (hB1.mono HBW.out.size);have HG1:Hid (zDU w1 B n cells (dueF (kvs.take k) (List.replicate n []))):=HG.out.kept hB1;have HQ1:Hid (w1.heap[w.heap.size]? = some (.cells #[.slice a1 n c1,.slice (some ⟨bk,ok,none⟩) kvs.length c2,.int .i64 m.goal,.int .i64 m.var] 25)):=(hB1.block _ ql).trans HQR.out;have hnb:w1.heap[wr.heap.size]? = some (.cells #[.int .i64 c.kind,.slice b1 c.vars.length e1,.slice b2 c.consts.length e2,.int .i64 c.n,.slice b3 c.rows.length e3,.slice b4 c.lits.length e4] 69):=(hb1.block _ (by simp)).trans (heap_alloc_new wr (.cells #[.int .i64 c.kind,.slice b1 c.vars.length e1,.slice b2 c.consts.length e2,.int .i64 c.n,.slice b3 c.rows.length e3,.slice b4 c.lits.length e4] 69))
   have f0:=blk9 hnb 0 _ rfl;have f1:=blk9 hnb 1 _ rfl;have f2:=blk9 hnb 2 _ rfl;have f3:=blk9 hnb 3 _ rfl;have f4:=blk9 hnb 4 _ rfl;have f5:=blk9 hnb 5 _ rfl;have fl:=(Array.getElem?_eq_some_iff.1 hnb).1;have hbs:=HB1.out.size;obtain⟨L,hL⟩:∃L,zAk c=L:=⟨_,rfl⟩;rw[hL] at hxl hxr hlz ⊢;have HN:Hid (dueF (kvs.take (k+1)) (List.replicate n [])=(dueF (kvs.take k) (List.replicate n [])).set (zCW c) ((dueF (kvs.take k) (List.replicate n [])).getD (zCW c) []++[(⟨.slice b1 c.vars.length e1,.slice b2 c.consts.length e2,.slice b3 c.rows.length e3,.slice b4 c.lits.length e4,c⟩:KV)])):=zPa kvs k _ HX.out _;obtain⟨M,hM⟩:∃M,dueF (kvs.take k) (List.replicate n [])=M:=⟨_,rfl⟩;have HMS:Hid (∀(v:Nat) (r:List KV),M[v]? = some r→r.length≤8):=fun v r hr=>by
    have hvl:=(List.getElem?_eq_some_iff.1 hr).1;rw[←hM,zG7] at hvl;have:=zJl (kvs.take k) (List.replicate n []) v hvl;rw[hM,List.getD_eq_getElem?_getD,hr] at this;simp only[Option.getD_some] at this;have h0:(List.replicate n ([]:List KV)).getD v []=[]:=by rw[List.getD_eq_getElem?_getD,List.getElem?_replicate];split <;> rfl
    rw[h0,List.nil_append] at this;rw[this];refine Nat.le_trans (List.length_filter_le _ _) ?_;rw[List.length_take];omega
   have HXO:Hid (∀(i:Nat) (x:Value) (g:Nat),cells[i]? = some x→x.ownBlock=some g→g<wr.heap.size):=fun i x g hx hg=>by
    obtain⟨k1,k0,k2,_⟩:=HG.out;have hil:=(List.getElem?_eq_some_iff.1 hx).1;have hl:=k1.1;obtain⟨y,hy,hoy⟩:=k2 i _ (List.getElem?_eq_getElem (by rw[k0];omega))
    rw[hx] at hy;cases hy;exact (hoy.lt g hg).2
   rw[hM] at HN HG1;clear hM hL HG HQR hb1 d0 d1 d2 d3 d4 d5 dl q0 q1 q2 q3 ql HSK hnb;have hML:M.length=n:=HG1.out.2.1;rcases hlz with ⟨hl0,hv0⟩ | ⟨q0,hq0,hz0'⟩
   ·subst hl0
    rw[hv0] at HN hlv;obtain⟨r,hr⟩:∃r,M[0]? = some r:=⟨M[0]'(by omega),by rw[List.getElem?_eq_getElem (by omega)]⟩
    have HR:Hid (M[0]? = some r):=hr;have hrl:=HMS.out _ _ hr;have HN2:Hid (dueF (kvs.take (k+1)) (List.replicate n [])=M.set 0 (r++[(⟨.slice b1 c.vars.length e1,.slice b2 c.consts.length e2,.slice b3 c.rows.length e3,.slice b4 c.lits.length e4,c⟩:KV)])):=by
     show _=_;rw[HN.out,List.getD_eq_getElem?_getD,hr];rfl
    obtain⟨htop,_,hrws,_⟩:=HG1.out;obtain⟨x,hx,hox⟩:=hrws 0 r hr;have HXX:Hid (cells[0]? = some x):=hx;obtain⟨ax,cx,rfl⟩:=zAC hox;have hcx:w1.cell? ⟨B,0,none⟩=some (.slice ax r.length cx):=by rw[htop.cellAt 0 (by omega)];exact hx
    have hlB:B<w1.heap.size:=(htop.lt B rfl).2;have hvn:0<n:=by omega
    have hvn2:((0:Nat):Int)<(n:Int):=by omega
    go_upto_region 9 with (fail)
    obtain⟨q,hq⟩:∃q,wr.heap.size=q:=⟨_,rfl⟩;have HXQ:Hid (some q≠(Value.slice ax r.length cx).ownBlock):=fun h=>by
     have h1:=HXO.out _ _ q hx h.symm;omega
    rw[hq] at f0 f1 f2 f3 f4 f5 fl ⊢;have hqw:w.heap.size<w1.heap.size:=by omega
    clear hr hx htop hrws HN hq;go_region_law
     (first
       | (rw[if_pos (by rfl)];refine zBP _ _ _ 23 rfl (B+1) 69 i0 _ 6 112 Tryz.underConsD hi hz0 hz1 hz2 rfl (by decide) _ _ _ rfl (hox.drew.alloc _) ⟨w1.heap.size,0,none⟩ 1 1 (kvC (⟨.slice b1 c.vars.length e1,.slice b2 c.consts.length e2,.slice b3 c.rows.length e3,.slice b4 c.lits.length e4,c⟩:KV)) rfl rfl (zM6 w1.drew (⟨.slice b1 c.vars.length e1,.slice b2 c.consts.length e2,.slice b3 c.rows.length e3,.slice b4 c.lits.length e4,c⟩:KV)) (by intro u hu;simp[kvC] at hu;rcases hu with rfl | rfl | rfl | rfl | rfl | rfl <;> rfl) ?_ ?_ ?_ ?_;(unfold maxLen;omega);omega;(simp;omega);intro v4 w4 hown4 hg4 hat4;obtain⟨av,cv,hv4⟩:=zAC hown4;subst hv4;have ht4:w4.ownsRow B 23 1 (.slice (some ⟨B,0,none⟩) n n) n cells:=(HG1.out.1.drew.alloc _).kept hg4 (Or.inr (fun h=>by have:=(hox.lt B h.symm).1;omega));have hcB:w4.cell? ⟨B,0,none⟩=some (.slice ax r.length cx):=by rw[ht4.cellAt 0 (by omega)];exact HXX.out
          have hfB:w4.frozen? ⟨B,0,none⟩=false:=ht4.frozenAt 0;have hl4:B<w4.heap.size:=(ht4.lt B rfl).2))
    all_goals
     have hown5:w4.ownsRow (B+1) 69 6 (.slice av (r.length+1) cv) (r++[(⟨.slice b1 c.vars.length e1,.slice b2 c.consts.length e2,.slice b3 c.rows.length e3,.slice b4 c.lits.length e4,c⟩:KV)]).length ((r++[(⟨.slice b1 c.vars.length e1,.slice b2 c.consts.length e2,.slice b3 c.rows.length e3,.slice b4 c.lits.length e4,c⟩:KV)]).flatMap kvC):=by
      have e:(r++[(⟨.slice b1 c.vars.length e1,.slice b2 c.consts.length e2,.slice b3 c.rows.length e3,.slice b4 c.lits.length e4,c⟩:KV)]).flatMap kvC=r.flatMap kvC++kvC (⟨.slice b1 c.vars.length e1,.slice b2 c.consts.length e2,.slice b3 c.rows.length e3,.slice b4 c.lits.length e4,c⟩:KV):=by simp
      rw[e,List.length_append];exact hown4
     have HP:Hid (zDU (w4.setCell ⟨B,0,none⟩ (.slice av (r.length+1) cv)) B n (cells.set 0 (.slice av (r.length+1) cv)) (M.set 0 (r++[(⟨.slice b1 c.vars.length e1,.slice b2 c.consts.length e2,.slice b3 c.rows.length e3,.slice b4 c.lits.length e4,c⟩:KV)]))) :=
      (HG1.out.kept ((Below.refl _ _).drew.alloc (Nat.le_refl _) _)).push HR.out HXX.out hown5 hg4 hat4
     have HB5:Hid (Below w.heap.size w (w4.setCell ⟨B,0,none⟩ (.slice av (r.length+1) cv))) :=
      ((HB1.out.drew.alloc HB1.out.size _).grown hg4 (by have:=HB1.out.size;simp;omega) (fun g h=>by have:=(hox.lt g h).1;omega)).setCell (by simp only;omega) _
     have HQ5:Hid ((w4.setCell ⟨B,0,none⟩ (.slice av (r.length+1) cv)).heap[w.heap.size]? = some (.cells #[.slice a1 n c1,.slice (some ⟨bk,ok,none⟩) kvs.length c2,.int .i64 m.goal,.int .i64 m.var] 25)):=by
      have h1:=((Below.refl w1.heap.size w1).drew.alloc (Nat.le_refl _) (.cells #[.int .i64 c.kind,.slice b1 c.vars.length e1,.slice b2 c.consts.length e2,.int .i64 c.n,.slice b3 c.rows.length e3,.slice b4 c.lits.length e4] 69)).block w.heap.size hqw;have h2:=hg4.block w.heap.size (by simp;omega) (fun e=>by have:=(hox.lt _ e.symm).1;omega)
      exact (Below.heap_setCell _ _ _ _ (by simp only;omega)).trans (h2.trans (h1.trans HQ1.out))
     go_wp2
     go_roundw
     case rel=>exact⟨k+1,_,by omega,by go_num,by rw[HN2.out];exact HP.out,HQ5.out,HB5.out⟩
     case measure=>simp[intOf];omega
   ·obtain⟨v,hv⟩:∃v,zCW c=v:=⟨_,rfl⟩
    rw[hv] at HN hlv hz0';have hqm:(q0:Int)+1≤9223372036854775807:=by unfold maxLen at hxl;omega
    have g2:IntKind.i64.wrap (q0:Int)=(q0:Int):=by rw[IntKind.wrap_i64];omega
    obtain⟨bz,oz,hbz,hlz,cz⟩:=hxr q0 _ hz0';subst hbz;clear hxr hz0';obtain⟨r,hr⟩:∃r,M[v]? = some r:=⟨M[v]'(by omega),by rw[List.getElem?_eq_getElem (by omega)]⟩
    have HR:Hid (M[v]? = some r):=hr;have hrl:=HMS.out _ _ hr;have HN2:Hid (dueF (kvs.take (k+1)) (List.replicate n [])=M.set v (r++[(⟨.slice b1 c.vars.length e1,.slice b2 c.consts.length e2,.slice b3 c.rows.length e3,.slice b4 c.lits.length e4,c⟩:KV)])):=by
     show _=_;rw[HN.out,List.getD_eq_getElem?_getD,hr];rfl
    obtain⟨htop,_,hrws,_⟩:=HG1.out;obtain⟨x,hx,hox⟩:=hrws v r hr;have HXX:Hid (cells[v]? = some x):=hx;obtain⟨ax,cx,rfl⟩:=zAC hox;have hcx:w1.cell? ⟨B,v,none⟩=some (.slice ax r.length cx):=by rw[htop.cellAt v (by omega)];exact hx
    have hlB:B<w1.heap.size:=(htop.lt B rfl).2;have hvn:v<n:=by omega
    have hvn2:((v:Nat):Int)<(n:Int):=by omega
    go_upto_region 9 with (fail)
    obtain⟨q,hq⟩:∃q,wr.heap.size=q:=⟨_,rfl⟩;have HXQ:Hid (some q≠(Value.slice ax r.length cx).ownBlock):=fun h=>by
     have h1:=HXO.out _ _ q hx h.symm;omega
    rw[hq] at f0 f1 f2 f3 f4 f5 fl ⊢;have hqw:w.heap.size<w1.heap.size:=by omega
    clear hr hx htop hrws HN hq;go_region_law
     (first
       | (rw[if_pos (by rfl)];refine zBP _ _ _ 23 rfl (B+1) 69 i0 _ 6 112 Tryz.underConsD hi hz0 hz1 hz2 rfl (by decide) _ _ _ rfl (hox.drew.alloc _) ⟨w1.heap.size,0,none⟩ 1 1 (kvC (⟨.slice b1 c.vars.length e1,.slice b2 c.consts.length e2,.slice b3 c.rows.length e3,.slice b4 c.lits.length e4,c⟩:KV)) rfl rfl (zM6 w1.drew (⟨.slice b1 c.vars.length e1,.slice b2 c.consts.length e2,.slice b3 c.rows.length e3,.slice b4 c.lits.length e4,c⟩:KV)) (by intro u hu;simp[kvC] at hu;rcases hu with rfl | rfl | rfl | rfl | rfl | rfl <;> rfl) ?_ ?_ ?_ ?_;(unfold maxLen;omega);omega;(simp;omega);intro v4 w4 hown4 hg4 hat4;obtain⟨av,cv,hv4⟩:=zAC hown4;subst hv4;have ht4:w4.ownsRow B 23 1 (.slice (some ⟨B,0,none⟩) n n) n cells:=(HG1.out.1.drew.alloc _).kept hg4 (Or.inr (fun h=>by have:=(hox.lt B h.symm).1;omega));have hcB:w4.cell? ⟨B,v,none⟩=some (.slice ax r.length cx):=by rw[ht4.cellAt v (by omega)];exact HXX.out
          have hfB:w4.frozen? ⟨B,v,none⟩=false:=ht4.frozenAt v;have hl4:B<w4.heap.size:=(ht4.lt B rfl).2))
    all_goals
     have hown5:w4.ownsRow (B+1) 69 6 (.slice av (r.length+1) cv) (r++[(⟨.slice b1 c.vars.length e1,.slice b2 c.consts.length e2,.slice b3 c.rows.length e3,.slice b4 c.lits.length e4,c⟩:KV)]).length ((r++[(⟨.slice b1 c.vars.length e1,.slice b2 c.consts.length e2,.slice b3 c.rows.length e3,.slice b4 c.lits.length e4,c⟩:KV)]).flatMap kvC):=by
      have e:(r++[(⟨.slice b1 c.vars.length e1,.slice b2 c.consts.length e2,.slice b3 c.rows.length e3,.slice b4 c.lits.length e4,c⟩:KV)]).flatMap kvC=r.flatMap kvC++kvC (⟨.slice b1 c.vars.length e1,.slice b2 c.consts.length e2,.slice b3 c.rows.length e3,.slice b4 c.lits.length e4,c⟩:KV):=by simp
      rw[e,List.length_append];exact hown4
     have HP:Hid (zDU (w4.setCell ⟨B,v,none⟩ (.slice av (r.length+1) cv)) B n (cells.set v (.slice av (r.length+1) cv)) (M.set v (r++[(⟨.slice b1 c.vars.length e1,.slice b2 c.consts.length e2,.slice b3 c.rows.length e3,.slice b4 c.lits.length e4,c⟩:KV)]))) :=
      (HG1.out.kept ((Below.refl _ _).drew.alloc (Nat.le_refl _) _)).push HR.out HXX.out hown5 hg4 hat4
     have HB5:Hid (Below w.heap.size w (w4.setCell ⟨B,v,none⟩ (.slice av (r.length+1) cv))) :=
      ((HB1.out.drew.alloc HB1.out.size _).grown hg4 (by have:=HB1.out.size;simp;omega) (fun g h=>by have:=(hox.lt g h).1;omega)).setCell (by simp only;omega) _
     have HQ5:Hid ((w4.setCell ⟨B,v,none⟩ (.slice av (r.length+1) cv)).heap[w.heap.size]? = some (.cells #[.slice a1 n c1,.slice (some ⟨bk,ok,none⟩) kvs.length c2,.int .i64 m.goal,.int .i64 m.var] 25)):=by
      have h1:=((Below.refl w1.heap.size w1).drew.alloc (Nat.le_refl _) (.cells #[.int .i64 c.kind,.slice b1 c.vars.length e1,.slice b2 c.consts.length e2,.int .i64 c.n,.slice b3 c.rows.length e3,.slice b4 c.lits.length e4] 69)).block w.heap.size hqw;have h2:=hg4.block w.heap.size (by simp;omega) (fun e=>by have:=(hox.lt _ e.symm).1;omega)
      exact (Below.heap_setCell _ _ _ _ (by simp only;omega)).trans (h2.trans (h1.trans HQ1.out))
     go_wp2
     go_roundw
     case rel=>exact⟨k+1,_,by omega,by go_num,by rw[HN2.out];exact HP.out,HQ5.out,HB5.out⟩
     case measure=>simp[intOf];omega
  ·have HN:Hid (kvs.take k=kvs):=List.take_of_length_le (by omega)
   go_wp2
   go_ret
   rw[HN.out] at HG;exact⟨_,_,_,rfl,HG.out,hBw,HBW.out,fun r hr x hx=>HK0.out x (zRG kvs n r hr x hx),fun v r hr=>by
    rw[←HKC.out];have hvl:=(List.getElem?_eq_some_iff.1 hr).1;rw[zG7] at hvl;exact zRH kvs n v (by simpa using hvl) r hr⟩
theorem zN3 (cs:List Nat) (k c left:Nat) (h:cs[k]? = some c):zAl (cs.drop k) left=if left &&& c=0 then none
 else if zAL (left &&& c) (zAh (left &&& c))=0 then zAl (cs.drop (k+1)) (zAL left (zAL (zAh (left &&& c)) (left &&& c))) else zAl (cs.drop (k+1)) left:=by
 have hk:k<cs.length:=(List.getElem?_eq_some_iff.1 h).1;have hc:cs[k]=c:=by rw[List.getElem?_eq_getElem hk] at h;exact Option.some.inj h
 rw[List.drop_eq_getElem_cons hk,hc];rfl
theorem zM7 (p:Nat) (h0:p≠0) (h:p<2 ^ 36):zAh p<2 ^ 36:=by
 have h1:=(zEu p h0 h).2;unfold zAh;have h2:2 ^ (6 * (Lib.ctz 64 p / 6))≤2 ^ 30:=Nat.pow_le_pow_right (by omega) (by omega)
 omega
theorem zRK {a b:Nat} (ha:a<2 ^ 36):a &&& b<2 ^ 36:=Nat.lt_of_le_of_lt Nat.and_le_left ha
theorem zGJ {a b:Nat} (h:a=b):Ending.returned (.int .u64 (a:Int))=Ending.returned (.int .u64 (b:Int)):=by rw[h]
theorem zKg (vs:List MVar) (h6:vs.length≤6) (hn1:1≤vs.length) (cs:List Nat) (r:Nat) (hr36:r<2 ^ 36) (sv pv:Value) (w:World) (hv:VArg w sv vs) (hp:PArg w pv cs) (hT:TabT w) :
 Calls Tryz.prog 146 #[sv,pv,.int .u64 r] w fun e w'=>e=.returned (.int .u64 ((zAa vs cs r:Nat):Int))∧w'=w:=by
 have HV:Hid (VArg w sv vs):=hv;have HT:Hid (TabT w):=hT;have H6:Hid (vs.length≤6):=h6;have HR36:Hid (r<2 ^ 36):=hr36;obtain⟨R,hR⟩:∃R,zAa vs cs r=R:=⟨_,rfl⟩;have HS:Hid (R=if zBt vs.length r then 0 else zBH cs (r+1) r):=by show _=_;rw[←hR];rfl
 rw[hR];have HR0:Hid (zBt vs.length r=false→r≠0):=fun h0 h1=>by
  rw[zMv vs.length r 0 (by omega) (by rw[h1];rfl)] at h0;cases h0
 obtain⟨a,c,rfl,_,_⟩:=hv;obtain⟨a2,c2,rfl,hm,hrp⟩:=hp;have HP:Hid (∀(i z:Nat),cs[i]? = some z→z<2 ^ 36∧∃b off,a2=some ⟨b,off,none⟩∧b<w.heap.size∧w.cell? ⟨b,off+i,none⟩=some (.int .u64 z)):=hrp;unfold maxLen at hm;obtain⟨hm1,hm⟩:=hm;clear hT hR hrp hn1 h6 hr36;go_enter Tryz.func146,Tryz.ntmps146
 go_wp2_with fail
 refine (zHc vs H6.out r HR36.out _ _ HV.out).mono ?_;rintro e w ⟨rfl,rfl⟩;obtain⟨L,hL⟩:∃L,zBt vs.length r=L:=⟨_,rfl⟩;rw[hL] at HS HR0 ⊢;clear hL;cases L
 ·have HS2:Hid (R=zBH cs (r+1) r):=HS.out
  have HN0:Hid (r≠0):=HR0.out rfl;clear HS HR0;go_wp2_with fail
  go_loopw [7,8] (fun l b wr=>∃bb ll:Nat,l=.int .u64 (ll:Int)∧b=.int .u64 (bb:Int)∧Hid (ll<2 ^ 36)∧Hid (if bb=ll then R=ll else R=zBH cs (ll+1) ll)∧wr=w) (fun l b _=>if intOf b=intOf l then 0 else (intOf l).toNat+1)
  case atStart=>exact⟨0,r,rfl,rfl,HR36,by show (if _ then _ else _);rw[if_neg (fun h=>HN0.out h.symm)];exact HS2.out,rfl⟩
  case round =>
   obtain⟨bb,ll,rfl,rfl,hl36,hst,rfl⟩:=hrel;by_cases hbl:bb=ll
   ·have HN:Hid (R=ll):=by have:=hst.out;rw[if_pos hbl] at this;exact this
    have hne:((bb:Int) != (ll:Int))=false:=by simp[hbl]
    clear hst hbl;go_wp2
    go_ret
    exact⟨zGJ HN.out.symm,rfl⟩
   ·have HN:Hid (R=zBH cs (ll+1) ll):=by have:=hst.out;rw[if_neg hbl] at this;exact this
    have HU:Hid (R=match zAl cs ll with
     | none=>0
     | some l=>if l=ll then ll else zBH cs (l+1) l):=by show _=_;rw[HN.out];exact zIl cs ll
    have HBL:Hid (bb≠ll):=hbl;have hne:((bb:Int) != (ll:Int))=true:=by simp;omega
    clear hst hbl;go_wp2_with fail
    clear hne;go_loopw [7,23] (fun l i wx=>∃k l2:Nat,k≤cs.length∧i=.int .i64 k∧l=.int .u64 (l2:Int)∧Hid (l2<2 ^ 36)∧Hid (zAl cs ll=zAl (cs.drop k) l2)∧wx=wr) (fun _ i _=>cs.length - (intOf i).toNat)
    case atStart=>exact⟨0,ll,by omega,rfl,rfl,hl36,rfl,rfl⟩
    case round =>
     obtain⟨k,l2,hk,rfl,rfl,hl2,hrd,rfl⟩:=hrel;by_cases hlt:k<cs.length
     ·obtain⟨z,hz⟩:∃z,cs[k]? = some z:=⟨cs[k],by simp[hlt]⟩
      obtain⟨hz36,b,off,ha,hb,hc⟩:=HP.out k z hz;subst ha;have HZ:Hid (cs[k]? = some z):=hz;have HRC:Hid (zAl (cs.drop k) l2=if l2 &&& z=0 then none
       else if zAL (l2 &&& z) (zAh (l2 &&& z))=0 then zAl (cs.drop (k+1)) (zAL l2 (zAL (zAh (l2 &&& z)) (l2 &&& z))) else zAl (cs.drop (k+1)) l2):=zN3 cs k z l2 hz
      have hand:=bits_and_u64_nat l2 z (by have:=hl2.out;omega) (by omega)
      obtain⟨o,ho⟩:∃o,l2 &&& z=o:=⟨_,rfl⟩;have HO36:Hid (o<2 ^ 36):=by rw[←ho];exact zRK hl2.out
      rw[ho] at hand HRC;clear hz hz36 ho;by_cases ho0:o=0
      ·have HE:Hid (R=0):=by show _=_;rw[HU.out,hrd.out,HRC.out,if_pos ho0]
       subst ho0;clear hrd hl2;go_wp2
       go_ret
       exact⟨zGJ HE.out.symm,rfl⟩
      ·have HRC2:Hid (zAl (cs.drop k) l2=if zAL o (zAh o)=0 then zAl (cs.drop (k+1)) (zAL l2 (zAL (zAh o) o)) else zAl (cs.drop (k+1)) l2):=by show _=_;rw[HRC.out,if_neg ho0]
       have HO0:Hid (o≠0):=ho0;have ho1:((o:Int)==0)=false:=by simpa using ho0
       obtain⟨f,hf⟩:∃f,zAh o=f:=⟨_,rfl⟩;have HF36:Hid (f<2 ^ 36):=by rw[←hf];exact zM7 o ho0 HO36.out
       have hnt:=zAg o f (by have:=HO36.out;omega) (by have:=HF36.out;omega)
       have HF:Hid (zAh o=f):=hf;rw[hf] at HRC2;obtain⟨g,hg⟩:∃g,zAL o f=g:=⟨_,rfl⟩;rw[hg] at hnt HRC2;clear ho0 hf hg HRC;by_cases hg0:g=0
       ·have hn2:=zAg f o (by have:=HF36.out;omega) (by have:=HO36.out;omega)
        obtain⟨t,ht⟩:∃t,zAL f o=t:=⟨_,rfl⟩;have HT36:Hid (t<2 ^ 36):=by rw[←ht];exact zB9 36 _ _ HF36.out
        have hn3:=zAg l2 t (by have:=hl2.out;omega) (by have:=HT36.out;omega)
        obtain⟨l3,hl3⟩:∃l3,zAL l2 t=l3:=⟨_,rfl⟩;have HL36:Hid (l3<2 ^ 36):=by rw[←hl3];exact zB9 36 _ _ hl2.out
        have HE:Hid (zAl cs ll=zAl (cs.drop (k+1)) l3):=by show _=_;rw[hrd.out,HRC2.out,if_pos hg0,ht,hl3]
        rw[ht] at hn2;rw[hl3] at hn3;subst hg0;clear hrd ht hl3 HRC2 hl2;go_wp2_with fail
        refine (zFl o HO0.out HO36.out _ HT.out).mono ?_;rintro e w ⟨rfl,rfl⟩;rw[HF.out];go_wp2
        go_roundw
        case rel=>exact⟨k+1,l3,by omega,by go_num,rfl,HL36,HE,trivial⟩
        case measure=>simp[intOf];omega
       ·have HE:Hid (zAl cs ll=zAl (cs.drop (k+1)) l2):=by show _=_;rw[hrd.out,HRC2.out,if_neg hg0]
        have hg1:((g:Int)==0)=false:=by simpa using hg0
        clear hrd hg0 HRC2;go_wp2_with fail
        refine (zFl o HO0.out HO36.out _ HT.out).mono ?_;rintro e w ⟨rfl,rfl⟩;rw[HF.out];go_wp2
        go_roundw
        case rel=>exact⟨k+1,l2,by omega,by go_num,rfl,hl2,HE,trivial⟩
        case measure=>simp[intOf];omega
     ·have hke:k=cs.length:=by omega
      have HE:Hid (zAl cs ll=some l2):=by show _=_;rw[hrd.out,hke,List.drop_length];rfl
      have HLE:Hid (l2≤ll):=zCP cs ll l2 HE.out;have HU2:Hid (if ll=l2 then R=l2 else R=zBH cs (l2+1) l2):=by
       show (if _ then _ else _)
       have:=HU.out;rw[HE.out] at this;simp only at this;by_cases hq:ll=l2
       ·rw[if_pos hq];rw[if_pos hq.symm] at this;rw[this];exact hq
       ·rw[if_neg hq];rw[if_neg (fun h=>hq h.symm)] at this;exact this
      have HM:Hid ((if (ll:Int)=(l2:Int) then 0 else (l2:Int).toNat+1)<(if (bb:Int)=(ll:Int) then 0 else (ll:Int).toNat+1)):=by
       show _<_;have h1:=HBL.out;have h2:=HLE.out;have e:(if (bb:Int)=(ll:Int) then 0 else (ll:Int).toNat+1)=(ll:Int).toNat+1:=if_neg (by omega)
       rw[e]
       split <;> omega
      clear hrd hke;go_wp2
      go_roundw
      case rel=>exact⟨ll,l2,rfl,rfl,hl2,HU2,trivial⟩
      case measure=>exact HM.out
 ·have HN:Hid (R=0):=HS.out
  go_wp2
  go_ret
  exact⟨zGJ HN.out.symm,rfl⟩
theorem zHw (vs:List MVar) (hva:zAQ vs) (hn1:1≤vs.length) (cs:List Nat) (h:Nat) (hh:h<2 ^ 36) (sv pv:Value) (w:World) (hv:VArg w sv vs) (hp:PArg w pv cs) (hT:TabT w) :
 Calls Tryz.prog 88 #[sv,pv,.int .u64 h] w fun e w'=>e=.returned (.bool (zCE vs cs h))∧Below w.heap.size w w':=by
 have HV:Hid (∀w',Below w.heap.size w w'→VArg w' sv vs):=fun w' h=>VArg.below h hv
 have HP:Hid (∀w',Below w.heap.size w w'→PArg w' pv cs):=fun w' h=>PArg.below h hp
 have HT:Hid (∀w',Below w.heap.size w w'→TabT w'):=fun w' h=>hT.below h
 have HVO:Hid (zAQ vs):=hva;have H6:Hid (vs.length≤6):=hva.1.1;have H1:Hid (1≤vs.length):=hn1;have HW36:Hid (zAE vs<2 ^ 36):=zFi vs hva.1 _;obtain⟨q,hq⟩:∃q,zAE vs=q:=⟨_,rfl⟩;obtain⟨r,hr⟩:∃r,zAL (zAE vs) h=r:=⟨_,rfl⟩;have HR36:Hid (r<2 ^ 36):=by rw[←hr];exact zB9 36 _ _ HW36.out
 have hbits:=zAg (zAE vs) h (by have:=HW36.out;omega) (by omega)
 rw[hr,hq] at hbits;have HQ:Hid (zAE vs=q):=hq;obtain⟨R,hR⟩:∃R,zCE vs cs h=R:=⟨_,rfl⟩;have HS:Hid (R=(((zAa vs cs r:Nat):Int)==0)):=by
  show _=_;rw[←hR];unfold zCE;rw[hr];by_cases h0:zAa vs cs r=0
  ·rw[h0];rfl
  ·have h1:(((zAa vs cs r:Nat):Int)==0)=false:=by simpa using h0
   rw[h1];simpa using h0
 rw[hR];obtain⟨a,c,rfl,_,_⟩:=hv;obtain⟨a2,c2,rfl,_,_⟩:=hp;clear hva hh hq hr hT hR hn1;go_enter Tryz.func88,Tryz.ntmps88
 go_wp2_with fail
 refine (zFj vs HVO.out _ _ (HV.out _ (Below.refl _ _))).mono ?_;rintro e w1 ⟨rfl,hb1⟩;rw[HQ.out];have HB1:Hid (Below w.heap.size w w1):=hb1;clear hb1;go_wp2_with fail
 refine (zKg vs H6.out H1.out cs r HR36.out _ _ _ (HV.out _ HB1.out) (HP.out _ HB1.out) (HT.out _ HB1.out)).mono ?_;rintro e w1 ⟨rfl,rfl⟩;obtain⟨U,hU⟩:∃U:Int,((zAa vs cs r:Nat):Int)=U:=⟨_,rfl⟩;rw[hU] at HS ⊢;clear hU;go_wp2
 go_ret
 exact⟨zAD HS.out.symm,HB1.out⟩
theorem zN4 (p:Nat) (pts:List Nat) (k z:Nat) (s:Nat×Nat×Bool) (h:pts[k]? = some z):zCB p (pts.drop k) s=zCB p (pts.drop (k+1)) (if zAL z p=0 then (z,s.2.1 ||| z,true) else s):=by
 have hk:k<pts.length:=(List.getElem?_eq_some_iff.1 h).1;have hc:pts[k]=z:=by rw[List.getElem?_eq_getElem hk] at h;exact Option.some.inj h
 rw[List.drop_eq_getElem_cons hk,hc];rfl
theorem zPc (pts:List Nat) (p:Nat) (hp36:p<2 ^ 36) (pv:Value) (w:World) (hp:PArg w pv pts) (hT:TabT w) :
 Calls Tryz.prog 233 #[pv,.int .u64 p] w fun e w'=>e=.returned (.int .u64 ((zBT pts p:Nat):Int))∧w'=w:=by
 have HT:Hid (TabT w):=hT;have HP36:Hid (p<2 ^ 36):=hp36;obtain⟨R,hR⟩:∃R,zBT pts p=R:=⟨_,rfl⟩;obtain⟨S,hS⟩:∃S,zCB p pts (0,0,false)=S:=⟨_,rfl⟩;have HS:Hid (R=if S.2.2 then clrN (S.1+1) S.1 p ||| S.2.1 else 0):=by show _=_;rw[←hR,←hS];rfl
 have HS0:Hid (S=zCB p pts (0,0,false)):=hS.symm;rw[hR];obtain⟨a2,c2,rfl,hm,hrp⟩:=hp;have HP:Hid (∀(i z:Nat),pts[i]? = some z→z<2 ^ 36∧∃b off,a2=some ⟨b,off,none⟩∧b<w.heap.size∧w.cell? ⟨b,off+i,none⟩=some (.int .u64 z)):=hrp;unfold maxLen at hm;obtain⟨hm1,hm⟩:=hm;clear hT hR hS hrp hp36;go_enter Tryz.func233,Tryz.ntmps233
 go_wp2_with fail
 go_loopw [5,6,7,12] (fun s t f i wr=>∃(k ss tt:Nat) (ff:Bool),k≤pts.length∧s=.int .u64 (ss:Int)∧t=.int .u64 (tt:Int)∧f=.bool ff∧i=.int .i64 k∧Hid (ss<2 ^ 36)∧Hid (tt<2 ^ 36)∧Hid (S=zCB p (pts.drop k) (ss,tt,ff))∧wr=w) (fun _ _ _ i _=>pts.length - (intOf i).toNat)
 case atStart=>exact⟨0,0,0,false,by omega,rfl,rfl,rfl,rfl,by show _<_;decide,by show _<_;decide,HS0,rfl⟩
 case round =>
  obtain⟨k,ss,tt,ff,hk,rfl,rfl,rfl,rfl,hs36,ht36,hst,rfl⟩:=hrel;by_cases hlt:k<pts.length
  ·obtain⟨z,hz⟩:∃z,pts[k]? = some z:=⟨pts[k],by simp[hlt]⟩
   obtain⟨hz36,b,off,ha,hb,hc⟩:=HP.out k z hz;subst ha;have HZ36:Hid (z<2 ^ 36):=hz36;have HN:Hid (S=zCB p (pts.drop (k+1)) (if zAL z p=0 then (z,tt ||| z,true) else (ss,tt,ff))):=by show _=_;rw[hst.out];exact zN4 p pts k z _ hz
   have hnt:=zAg z p (by omega) (by have:=HP36.out;omega)
   obtain⟨o,ho⟩:∃o,zAL z p=o:=⟨_,rfl⟩;rw[ho] at hnt HN;clear hz hst ho;by_cases ho0:o=0
   ·have HN2:Hid (S=zCB p (pts.drop (k+1)) (z,tt ||| z,true)):=by show _=_;rw[HN.out,if_pos ho0]
    have hor:=bits_or_u64_nat tt z (by have:=ht36.out;omega) (by omega)
    have HT36:Hid (tt ||| z<2 ^ 36):=zHb ht36.out hz36
    obtain⟨t2,ht2⟩:∃t2,tt ||| z=t2:=⟨_,rfl⟩
    rw[ht2] at hor HT36 HN2;subst ho0;clear ht2 HN hz36;go_wp2
    go_roundw
    case rel=>exact⟨k+1,z,t2,true,by omega,rfl,rfl,rfl,by go_num,HZ36,HT36,HN2,trivial⟩
    case measure=>simp[intOf];omega
   ·have HN2:Hid (S=zCB p (pts.drop (k+1)) (ss,tt,ff)):=by show _=_;rw[HN.out,if_neg ho0]
    have ho1:((o:Int)==0)=false:=by simpa using ho0
    clear HN ho0 hz36;go_wp2
    go_roundw
    case rel=>exact⟨k+1,ss,tt,ff,by omega,rfl,rfl,rfl,by go_num,hs36,ht36,HN2,trivial⟩
    case measure=>simp[intOf];omega
  ·have hke:k=pts.length:=by omega
   have HE:Hid (S=(ss,tt,ff)):=by show _=_;rw[hst.out,hke,List.drop_length];rfl
   have HR:Hid (R=if ff then clrN (ss+1) ss p ||| tt else 0):=by show _=_;rw[HS.out,HE.out]
   clear hst hke;cases ff
   ·have HR0:Hid (R=0):=HR.out
    go_wp2
    go_ret
    exact⟨zGJ HR0.out.symm,rfl⟩
   ·have HR1:Hid (R=clrN (ss+1) ss p ||| tt):=HR.out
    clear HR;go_wp2_with fail
    go_loopw [1,5] (fun q s wx=>∃qq s2:Nat,q=.int .u64 (qq:Int)∧s=.int .u64 (s2:Int)∧Hid (qq<2 ^ 36)∧Hid (s2<2 ^ 36)∧Hid (R=clrN (s2+1) s2 qq ||| tt)∧wx=wr) (fun _ s _=>(intOf s).toNat)
    case atStart=>exact⟨p,ss,rfl,rfl,HP36,hs36,HR1,rfl⟩
    case round =>
     obtain⟨qq,s2,rfl,rfl,hq36,hs2,hr2,rfl⟩:=hrel;by_cases hs0:s2=0
     ·have HRF:Hid (R=qq ||| tt):=by show _=_;rw[hr2.out,hs0];rfl
      have hor:=bits_or_u64_nat qq tt (by have:=hq36.out;omega) (by have:=ht36.out;omega)
      obtain⟨r,hr⟩:∃r,qq ||| tt=r:=⟨_,rfl⟩
      rw[hr] at hor HRF;subst hs0;clear hr hr2;go_wp2
      go_ret
      exact⟨zGJ HRF.out.symm,rfl⟩
     ·have HST:Hid (R=clrN (zAL s2 (zAh s2)+1) (zAL s2 (zAh s2)) (zAL qq (zAh s2)) ||| tt):=by show _=_;rw[hr2.out,zQ6 s2 qq hs0 hs2.out]
      have HLT:Hid (zAL s2 (zAh s2)<s2):=zDB s2 hs0 hs2.out;have HF36:Hid (zAh s2<2 ^ 36):=zM7 s2 hs0 hs2.out;have HN0:Hid (s2≠0):=hs0;have hne:((s2:Int) != 0)=true:=by simpa using hs0
      obtain⟨f,hf⟩:∃f,zAh s2=f:=⟨_,rfl⟩;have HF:Hid (zAh s2=f):=hf;rw[hf] at HST HLT HF36;have hn1:=zAg qq f (by have:=hq36.out;omega) (by have:=HF36.out;omega)
      have hn2:=zAg s2 f (by have:=hs2.out;omega) (by have:=HF36.out;omega)
      obtain⟨q3,hq3⟩:∃q3,zAL qq f=q3:=⟨_,rfl⟩;obtain⟨s3,hs3⟩:∃s3,zAL s2 f=s3:=⟨_,rfl⟩;have HQ3:Hid (q3<2 ^ 36):=by rw[←hq3];exact zB9 36 _ _ hq36.out
      have HS3:Hid (s3<2 ^ 36):=by rw[←hs3];exact zB9 36 _ _ hs2.out
      rw[hq3] at hn1 HST;rw[hs3] at hn2 HST HLT;clear hf hq3 hs3 hs0 hr2;go_wp2_with fail
      refine (zFl s2 HN0.out hs2.out _ HT.out).mono ?_;rintro e w ⟨rfl,rfl⟩;rw[HF.out];go_wp2_with fail
      refine (zFl s2 HN0.out hs2.out _ HT.out).mono ?_;rintro e w ⟨rfl,rfl⟩;rw[HF.out];go_wp2
      go_roundw
      case rel=>exact⟨q3,s3,rfl,rfl,HQ3,HS3,HST,trivial⟩
      case measure=>simp[intOf];exact HLT.out
end Go.Proofs.YtndcpnlaadikoaaGreatDoor
