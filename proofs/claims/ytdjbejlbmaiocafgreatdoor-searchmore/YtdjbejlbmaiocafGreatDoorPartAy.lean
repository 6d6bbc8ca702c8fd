/- What the proof leans on, part 25. -/
import Derived.Test.YtdjbejlbmaiocafGreatDoorPartAx
namespace Go.Proofs.YtdjbejlbmaiocafGreatDoor
open Go.RowKit
theorem Tryz.underDue:Tryz.prog.underlying 166=some (.slice 23):=by kernel_rfl
theorem Tryz.underConsD:Tryz.prog.underlying 23=some (.slice 100):=by kernel_rfl
theorem Tryz.infoConsD:(Tryz.prog.info? 23).map (fun i=>(i.zero,i.size,i.bytes))=some (some (.slice none 0 0),1,24):=by kernel_rfl
theorem Tryz.infoConD:(Tryz.prog.info? 100).map (fun i=>(i.zero,i.size,i.bytes))=some (some (.agg #[.int .i64 0,.slice none 0 0,.slice none 0 0,.int .i64 0,.slice none 0 0,.slice none 0 0]),6,112):=by kernel_rfl
theorem zKZ (n:Nat) (hn:n≤6) (w:World):∃w',Sem.run Tryz.prog (Instr.makeSlice 166 (.int .i64 (n:Int)) (.int .i64 (n:Int))) w=.ok (.slice (some ⟨w.heap.size,0,none⟩) n n) w' ∧
 zBr w' w.heap.size n (List.replicate n (.slice none 0 0)) (List.replicate n [])∧Below w.heap.size w w':=by
 obtain⟨i0,hi,hz0,hz1,hz2⟩:=info_parts Tryz.infoConsD
 obtain⟨w',hrun,hown,hg⟩:=run_makeSlice_full w w.heap.size 166 23 i0 (.slice none 0 0) 1 Tryz.underDue hi hz0 hz1 .i64 .i64 n (by omega) (by rw[hz2];omega) (by unfold maxLen;omega) (Nat.le_refl _)
 have hc:(Value.slice none 0 0).cells=#[.slice none 0 0]:=rfl
 rw[hc,Nat.mul_one,toList_madeCells_one] at hown
 refine⟨w',hrun,⟨hown,by simp,fun i r hr=>?_,fun i j x y g _ hx _ hg=>?_⟩,(Below.refl _ _).grown hg (Nat.le_refl _) (fun k h=>by cases h)⟩
 ·have hi:i<n:=by have:=(List.getElem?_eq_some_iff.1 hr).1;simpa using this
  have:r=[]:=by rw[List.getElem?_replicate,if_pos hi] at hr;exact (Option.some.inj hr).symm
  subst this
  exact⟨.slice none 0 0,by rw[List.getElem?_replicate,if_pos hi],World.ownsRow_nil _ _ _ _⟩
 ·rw[List.getElem?_replicate] at hx
  split at hx
  ·cases hx;cases hg
  ·cases hx
theorem zHe (w:World) (x:KV):∀(j:Nat) (u:Value),(kvC x)[j]? = some u→(w.alloc (.cells #[.int .i64 x.c.kind,x.vv,x.vc,.int .i64 x.c.n,x.vr,x.vl] 100)).cell? ((⟨w.heap.size,0,none⟩:Addr).add j)=some u:=by
 intro j u hj
 match j,hj with
 | 0,hj=>simp[kvC] at hj;subst hj;simp[Addr.add]
 | 1,hj=>simp[kvC] at hj;subst hj;simp[Addr.add]
 | 2,hj=>simp[kvC] at hj;subst hj;simp[Addr.add]
 | 3,hj=>simp[kvC] at hj;subst hj;simp[Addr.add]
 | 4,hj=>simp[kvC] at hj;subst hj;simp[Addr.add]
 | 5,hj=>simp[kvC] at hj;subst hj;simp[Addr.add]
theorem zKa (m:Mod) (hm:zAI m=0) (c:MCon) (hc:c∈m.cons):(zAQ c=[]∧zA5 c=0)∨∃q,(zAQ c).length=q+1∧(zAQ c)[q]? = some ((zA5 c:Nat):Int):=by
 obtain⟨j,hj⟩:=List.mem_iff_getElem?.1 hc
 obtain⟨h1,_⟩:=zBu m hm j c hj
 unfold zA5
 obtain⟨L,hL⟩:∃L,zAQ c=L:=⟨_,rfl⟩
 rw[hL] at h1 ⊢
 rcases List.eq_nil_or_concat L with rfl | ⟨i,x,rfl⟩
 ·exact Or.inl ⟨rfl,rfl⟩
 ·right
  rw[List.concat_eq_append] at h1 ⊢
  have hx:=(h1 x (by simp)).1
  refine⟨i.length,by simp,?_⟩
  have e:(i++[x]).getLastD 0=x:=by simp
  rw[e,List.getElem?_concat_length]
  congr 1
  omega
set_option maxHeartbeats 6400000 in
set_option maxRecDepth 100000 in
theorem zJQ (m:Mod) (hm:zAI m=0) (vs cs:Value) (w0 w:World) (hma0:MArg w0 vs cs m) (hb0:Below w0.heap.size w0 w) :
 Calls Tryz.prog 129 #[modV vs cs m] w fun e w'=>∃B cells M,e=.returned (.slice (some ⟨B,0,none⟩) m.vars.length m.vars.length)∧zBr w' B m.vars.length cells M∧w.heap.size≤B∧Below w.heap.size w w' ∧
  (∀r∈M,∀x∈r,KOk w0 x)∧∀(v:Nat) (r:List KV),M[v]? = some r→r.map (·.c)=dueP m.cons v:=by
 have h6:m.vars.length≤6:=(zAc m hm).2.1
 have hma:MArg w vs cs m:=MArg.below hb0 hma0
 have HSC:Hid (∀(Y:World) (k:Nat),k<m.cons.length→Below w.heap.size w Y→Calls Tryz.prog 65 #[modV vs cs m,.int .i64 (k:Int)] Y fun e w'=>∃x,e=.returned (.tuple #[x,.int .i64 0])∧IArg w' x (zAQ (m.cons.getD k zIv))∧Below Y.heap.size Y w'):=fun Y k hk hY=>by
  refine (zE8 m (k:Int) vs cs Y (MArg.below hY hma)).mono ?_
  have h1:zA9 m (k:Int)=0:=by unfold zA9;rw[if_pos hm,if_neg (by omega)]
  have h2:zEI m (k:Int)=(zAQ (m.cons.getD k zIv),0):=by unfold zEI;rw[if_pos h1,Int.toNat_natCast]
  rw[h2]
  exact fun e w' h=>h
 have HLT:Hid (∀c∈m.cons,zA5 c<m.vars.length):=zHa m hm
 have HLZ:Hid (∀c∈m.cons,(zAQ c=[]∧zA5 c=0)∨∃q,(zAQ c).length=q+1∧(zAQ c)[q]? = some ((zA5 c:Nat):Int)):=zKa m hm
 obtain⟨⟨a1,c1,rfl,_,_⟩,hca⟩:=hma0
 obtain⟨kvs,hkc,hko0,a2,c2,rfl,hkr0⟩:=zKW hca
 have HK0:Hid (∀x∈kvs,KOk w0 x):=hko0
 have hko:∀x∈kvs,KOk w x:=fun x hx=>KArg.below hb0 (hko0 x hx)
 have hkr:∀(i:Nat) (x:KV),kvs[i]? = some x→∃b off,a2=some ⟨b,off,none⟩∧b<w.heap.size∧∀(j:Nat) (u:Value),(kvC x)[j]? = some u→w.cell? ⟨b,off+i * 6+j,none⟩=some u:=fun i x hx=>by
  obtain⟨b,off,h1,h2,h3⟩:=hkr0 i x hx
  exact⟨b,off,h1,Nat.lt_of_lt_of_le h2 hb0.size,fun j u hu=>(hb0.cell (p:=⟨b,off+i * 6+j,none⟩) h2).trans (h3 j u hu)⟩
 clear hko0 hkr0 hma hb0
 have hkl:m.cons.length=kvs.length:=by rw[←hkc];simp
 have HKO:Hid (∀x∈kvs,KOk w x):=hko
 have HKR:Hid (∀(i:Nat) (x:KV),kvs[i]? = some x→∃b off,a2=some ⟨b,off,none⟩∧b<w.heap.size∧∀(j:Nat) (u:Value),(kvC x)[j]? = some u→w.cell? ⟨b,off+i * 6+j,none⟩=some u):=hkr
 have HKC:Hid (kvs.map (·.c)=m.cons):=hkc
 have hk8:kvs.length≤8:=by have:=(zAc m hm).2.2.1;omega
 have HKL:Hid (m.cons.length=kvs.length):=hkl
 obtain⟨n,hn⟩:∃n,m.vars.length=n:=⟨_,rfl⟩
 rw[hn] at HSC HLT h6 ⊢
 obtain⟨wm,hrun,hgk,hbm⟩:=zKZ n h6 (w.alloc (.cells #[.slice a1 n c1,.slice a2 kvs.length c2,.int .i64 m.goal,.int .i64 m.var] 25))
 have hbx:=heap_alloc_new w (.cells #[.slice a1 n c1,.slice a2 kvs.length c2,.int .i64 m.goal,.int .i64 m.var] 25)
 have hsz:(w.alloc (.cells #[.slice a1 n c1,.slice a2 kvs.length c2,.int .i64 m.goal,.int .i64 m.var] 25)).heap.size=w.heap.size+1:=by simp
 have HQM:Hid (wm.heap[w.heap.size]? = some (.cells #[.slice a1 n c1,.slice a2 kvs.length c2,.int .i64 m.goal,.int .i64 m.var] 25)):=(hbm.block _ (by simp)).trans hbx
 have HBM:Hid (Below w.heap.size w wm):=(zAA _ _).trans (hbm.mono (by simp))
 rw[hsz] at hrun hgk
 obtain⟨B,hB⟩:∃B,w.heap.size+1=B:=⟨_,rfl⟩
 rw[hB] at hrun hgk
 have HGM:Hid (zBr wm B n (List.replicate n (.slice none 0 0)) (List.replicate n [])):=hgk
 have hBw:w.heap.size≤B:=by omega
 have hBq:w.heap.size<B:=by omega
 obtain⟨i0,hi,hz0,hz1,hz2⟩:=info_parts Tryz.infoConD
 have q0:=blk9 HQM.out 0 _ rfl
 have q1:=blk9 HQM.out 1 _ rfl
 have ql:=(Array.getElem?_eq_some_iff.1 HQM.out).1
 unfold modV
 clear hgk hbm hbx hsz hB hko hkr hkc hkl hca hm
 go_enter Tryz.func129,Tryz.ntmps129
 go_wp2_with fail
 clear hrun q0 q1 ql
 go_loopw [16] (fun i wr=>∃(k:Nat) (cells:List Value),k≤kvs.length∧i=.int .i64 k∧zBr wr B n cells (dueF (kvs.take k) (List.replicate n []))∧wr.heap[w.heap.size]? = some (.cells #[.slice a1 n c1,.slice a2 kvs.length c2,.int .i64 m.goal,.int .i64 m.var] 25)∧Below w.heap.size w wr) (fun i _=>kvs.length - (intOf i).toNat)
 case atStart=>exact⟨0,_,by omega,rfl,HGM.out,HQM.out,HBM.out⟩
 case round =>
  obtain⟨k,cells,hk,rfl,hg,hqr,hbw⟩:=hrel
  have HG:Hid (zBr wr B n cells (dueF (kvs.take k) (List.replicate n []))):=hg
  have HQR:Hid (wr.heap[w.heap.size]? = some (.cells #[.slice a1 n c1,.slice a2 kvs.length c2,.int .i64 m.goal,.int .i64 m.var] 25)):=hqr
  have HBW:Hid (Below w.heap.size w wr):=hbw
  clear hg hqr hbw
  by_cases hlt:k<kvs.length
  ·obtain⟨x,hx⟩:∃x,kvs[k]? = some x:=⟨kvs[k],by simp[hlt]⟩
   obtain⟨bk,ok,hbk,hlk,hcells⟩:=HKR.out k x hx
   have hkx:=HKO.out x (List.mem_of_getElem? hx)
   obtain⟨vv,vc,vr,vl,c⟩:=x
   have HX:Hid (kvs[k]? = some ⟨vv,vc,vr,vl,c⟩):=hx
   have hge:m.cons.getD k zIv=c:=by
    rw[←HKC.out,List.getD_eq_getElem?_getD,List.getElem?_map,hx];rfl
   have hlv:zA5 c<n:=HLT.out c (by rw[←HKC.out];exact List.mem_map.2 ⟨_,List.mem_of_getElem? hx,rfl⟩)
   subst hbk
   have d0:=(HBW.out.cell (p:=⟨bk,ok+k * 6,none⟩) hlk).trans (hcells 0 _ rfl)
   have d1:=(HBW.out.cell (p:=⟨bk,ok+k * 6+1,none⟩) hlk).trans (hcells 1 _ rfl)
   have d2:=(HBW.out.cell (p:=⟨bk,ok+k * 6+2,none⟩) hlk).trans (hcells 2 _ rfl)
   have d3:=(HBW.out.cell (p:=⟨bk,ok+k * 6+3,none⟩) hlk).trans (hcells 3 _ rfl)
   have d4:=(HBW.out.cell (p:=⟨bk,ok+k * 6+4,none⟩) hlk).trans (hcells 4 _ rfl)
   have d5:=(HBW.out.cell (p:=⟨bk,ok+k * 6+5,none⟩) hlk).trans (hcells 5 _ rfl)
   have dl:bk<wr.heap.size:=Nat.lt_of_lt_of_le hlk HBW.out.size
   obtain⟨⟨b1,e1,h1,_,_⟩,⟨b2,e2,h2,_,_⟩,⟨b3,e3,h3,_,_⟩,⟨b4,e4,h4,_,_⟩⟩:=hkx
   dsimp only at h1 h2 h3 h4 d0 d1 d2 d3 d4 d5
   subst h1 h2 h3 h4
   have q0:=blk9 HQR.out 0 _ rfl
   have q1:=blk9 HQR.out 1 _ rfl
   have q2:=blk9 HQR.out 2 _ rfl
   have q3:=blk9 HQR.out 3 _ rfl
   have ql:=(Array.getElem?_eq_some_iff.1 HQR.out).1
   have HSK:Hid (∀Y,Below w.heap.size w Y→Calls Tryz.prog 65 #[modV (.slice a1 n c1) (.slice (some ⟨bk,ok,none⟩) kvs.length c2) m,.int .i64 (k:Int)] Y fun e w'=>∃x,e=.returned (.tuple #[x,.int .i64 0])∧IArg w' x (zAQ c)∧Below Y.heap.size Y w'):=fun Y hY=>by
    have:=HSC.out Y k (by rw[HKL.out];exact hlt) hY
    rw[hge] at this
    exact this
   have hlz:=HLZ.out c (by rw[←HKC.out];exact List.mem_map.2 ⟨_,List.mem_of_getElem? HX.out,rfl⟩)
   clear hcells hx hge
   go_wp2_with fail
   refine (HSK.out _ (HBW.out.trans ((zAA _ _).mono HBW.out.size))).mono ?_
   rintro e w1 ⟨xs,rfl,hx1,hb1⟩
   obtain⟨xa,xc,rfl,hxl,hxr⟩:=hx1
   have hB1:Below wr.heap.size wr w1:=(zAA _ _).trans (hb1.mono (by simp))
   have HB1:Hid (Below w.heap.size w w1):=HBW.out.trans (hB1.mono HBW.out.size)
   have HG1:Hid (zBr w1 B n cells (dueF (kvs.take k) (List.replicate n []))):=HG.out.kept hB1
   have HQ1:Hid (w1.heap[w.heap.size]? = some (.cells #[.slice a1 n c1,.slice (some ⟨bk,ok,none⟩) kvs.length c2,.int .i64 m.goal,.int .i64 m.var] 25)):=(hB1.block _ ql).trans HQR.out
   have hnb:w1.heap[wr.heap.size]? = some (.cells #[.int .i64 c.kind,.slice b1 c.vars.length e1,.slice b2 c.consts.length e2,.int .i64 c.n,.slice b3 c.rows.length e3,.slice b4 c.lits.length e4] 100):=(hb1.block _ (by simp)).trans (heap_alloc_new wr (.cells #[.int .i64 c.kind,.slice b1 c.vars.length e1,.slice b2 c.consts.length e2,.int .i64 c.n,.slice b3 c.rows.length e3,.slice b4 c.lits.length e4] 100))
   have f0:=blk9 hnb 0 _ rfl
   have f1:=blk9 hnb 1 _ rfl
   have f2:=blk9 hnb 2 _ rfl
   have f3:=blk9 hnb 3 _ rfl
   have f4:=blk9 hnb 4 _ rfl
   have f5:=blk9 hnb 5 _ rfl
   have fl:=(Array.getElem?_eq_some_iff.1 hnb).1
   have hbs:=HB1.out.size
   obtain⟨L,hL⟩:∃L,zAQ c=L:=⟨_,rfl⟩
   rw[hL] at hxl hxr hlz ⊢
   have HN:Hid (dueF (kvs.take (k+1)) (List.replicate n [])=(dueF (kvs.take k) (List.replicate n [])).set (zA5 c) ((dueF (kvs.take k) (List.replicate n [])).getD (zA5 c) []++[(⟨.slice b1 c.vars.length e1,.slice b2 c.consts.length e2,.slice b3 c.rows.length e3,.slice b4 c.lits.length e4,c⟩:KV)])):=zJP kvs k _ HX.out _
   obtain⟨M,hM⟩:∃M,dueF (kvs.take k) (List.replicate n [])=M:=⟨_,rfl⟩
   have HMS:Hid (∀(v:Nat) (r:List KV),M[v]? = some r→r.length≤8):=fun v r hr=>by
    have hvl:=(List.getElem?_eq_some_iff.1 hr).1
    rw[←hM,zD5] at hvl
    have:=zFi (kvs.take k) (List.replicate n []) v hvl
    rw[hM,List.getD_eq_getElem?_getD,hr] at this
    simp only[Option.getD_some] at this
    have h0:(List.replicate n ([]:List KV)).getD v []=[]:=by rw[List.getD_eq_getElem?_getD,List.getElem?_replicate];split <;> rfl
    rw[h0,List.nil_append] at this
    rw[this]
    refine Nat.le_trans (List.length_filter_le _ _) ?_
    rw[List.length_take];omega
   have HXO:Hid (∀(i:Nat) (x:Value) (g:Nat),cells[i]? = some x→x.ownBlock=some g→g<wr.heap.size):=fun i x g hx hg=>by
    obtain⟨k1,k0,k2,_⟩:=HG.out
    have hil:=(List.getElem?_eq_some_iff.1 hx).1
    have hl:=k1.1
    obtain⟨y,hy,hoy⟩:=k2 i _ (List.getElem?_eq_getElem (by rw[k0];omega))
    rw[hx] at hy;cases hy
    exact (hoy.lt g hg).2
   rw[hM] at HN HG1
   clear hM hL HG HQR hb1 d0 d1 d2 d3 d4 d5 dl q0 q1 q2 q3 ql HSK hnb
   have hML:M.length=n:=HG1.out.2.1
   rcases hlz with ⟨hl0,hv0⟩ | ⟨q0,hq0,hz0'⟩
   ·subst hl0
    rw[hv0] at HN hlv
    obtain⟨r,hr⟩:∃r,M[0]? = some r:=⟨M[0]'(by omega),by rw[List.getElem?_eq_getElem (by omega)]⟩
    have HR:Hid (M[0]? = some r):=hr
    have hrl:=HMS.out _ _ hr
    have HN2:Hid (dueF (kvs.take (k+1)) (List.replicate n [])=M.set 0 (r++[(⟨.slice b1 c.vars.length e1,.slice b2 c.consts.length e2,.slice b3 c.rows.length e3,.slice b4 c.lits.length e4,c⟩:KV)])):=by
     show _=_
     rw[HN.out,List.getD_eq_getElem?_getD,hr];rfl
    obtain⟨htop,_,hrws,_⟩:=HG1.out
    obtain⟨x,hx,hox⟩:=hrws 0 r hr
    have HXX:Hid (cells[0]? = some x):=hx
    obtain⟨ax,cx,rfl⟩:=zAC hox
    have hcx:w1.cell? ⟨B,0,none⟩=some (.slice ax r.length cx):=by rw[htop.cellAt 0 (by omega)];exact hx
    have hlB:B<w1.heap.size:=(htop.lt B rfl).2
    have hvn:0<n:=by omega
    have hvn2:((0:Nat):Int)<(n:Int):=by omega
    go_upto_region 9 with (fail)
    obtain⟨q,hq⟩:∃q,wr.heap.size=q:=⟨_,rfl⟩
    have HXQ:Hid (some q≠(Value.slice ax r.length cx).ownBlock):=fun h=>by
     have h1:=HXO.out _ _ q hx h.symm
     omega
    rw[hq] at f0 f1 f2 f3 f4 f5 fl ⊢
    have hqw:w.heap.size<w1.heap.size:=by omega
    clear hr hx htop hrws HN hq
    go_region_law
     (first
      | (rw[if_pos (by rfl)];refine zAg _ _ _ 23 rfl (B+1) 100 i0 _ 6 112 Tryz.underConsD hi hz0 hz1 hz2 rfl (by decide) _ _ _ rfl (hox.drew.alloc _) ⟨w1.heap.size,0,none⟩ 1 1 (kvC (⟨.slice b1 c.vars.length e1,.slice b2 c.consts.length e2,.slice b3 c.rows.length e3,.slice b4 c.lits.length e4,c⟩:KV)) rfl rfl (zHe w1.drew (⟨.slice b1 c.vars.length e1,.slice b2 c.consts.length e2,.slice b3 c.rows.length e3,.slice b4 c.lits.length e4,c⟩:KV)) (by intro u hu;simp[kvC] at hu;rcases hu with rfl | rfl | rfl | rfl | rfl | rfl <;> rfl) ?_ ?_ ?_ ?_;(unfold maxLen;omega);omega;(simp;omega);intro v4 w4 hown4 hg4 hat4;obtain⟨av,cv,hv4⟩:=zAC hown4;subst hv4;have ht4:w4.ownsRow B 23 1 (.slice (some ⟨B,0,none⟩) n n) n cells:=(HG1.out.1.drew.alloc _).kept hg4 (Or.inr (fun h=>by have:=(hox.lt B h.symm).1;omega));have hcB:w4.cell? ⟨B,0,none⟩=some (.slice ax r.length cx):=by rw[ht4.cellAt 0 (by omega)];exact HXX.out
         have hfB:w4.frozen? ⟨B,0,none⟩=false:=ht4.frozenAt 0
         have hl4:B<w4.heap.size:=(ht4.lt B rfl).2))
    all_goals
     have hown5:w4.ownsRow (B+1) 100 6 (.slice av (r.length+1) cv) (r++[(⟨.slice b1 c.vars.length e1,.slice b2 c.consts.length e2,.slice b3 c.rows.length e3,.slice b4 c.lits.length e4,c⟩:KV)]).length ((r++[(⟨.slice b1 c.vars.length e1,.slice b2 c.consts.length e2,.slice b3 c.rows.length e3,.slice b4 c.lits.length e4,c⟩:KV)]).flatMap kvC):=by
      have e:(r++[(⟨.slice b1 c.vars.length e1,.slice b2 c.consts.length e2,.slice b3 c.rows.length e3,.slice b4 c.lits.length e4,c⟩:KV)]).flatMap kvC=r.flatMap kvC++kvC (⟨.slice b1 c.vars.length e1,.slice b2 c.consts.length e2,.slice b3 c.rows.length e3,.slice b4 c.lits.length e4,c⟩:KV):=by simp
      rw[e,List.length_append];exact hown4
     have HP:Hid (zBr (w4.setCell ⟨B,0,none⟩ (.slice av (r.length+1) cv)) B n (cells.set 0 (.slice av (r.length+1) cv)) (M.set 0 (r++[(⟨.slice b1 c.vars.length e1,.slice b2 c.consts.length e2,.slice b3 c.rows.length e3,.slice b4 c.lits.length e4,c⟩:KV)]))) :=
      (HG1.out.kept ((Below.refl _ _).drew.alloc (Nat.le_refl _) _)).push HR.out HXX.out hown5 hg4 hat4
     have HB5:Hid (Below w.heap.size w (w4.setCell ⟨B,0,none⟩ (.slice av (r.length+1) cv))) :=
      ((HB1.out.drew.alloc HB1.out.size _).grown hg4 (by have:=HB1.out.size;simp;omega) (fun g h=>by have:=(hox.lt g h).1;omega)).setCell (by simp only;omega) _
     have HQ5:Hid ((w4.setCell ⟨B,0,none⟩ (.slice av (r.length+1) cv)).heap[w.heap.size]? = some (.cells #[.slice a1 n c1,.slice (some ⟨bk,ok,none⟩) kvs.length c2,.int .i64 m.goal,.int .i64 m.var] 25)):=by
      have h1:=((Below.refl w1.heap.size w1).drew.alloc (Nat.le_refl _) (.cells #[.int .i64 c.kind,.slice b1 c.vars.length e1,.slice b2 c.consts.length e2,.int .i64 c.n,.slice b3 c.rows.length e3,.slice b4 c.lits.length e4] 100)).block w.heap.size hqw
      have h2:=hg4.block w.heap.size (by simp;omega) (fun e=>by have:=(hox.lt _ e.symm).1;omega)
      exact (Below.heap_setCell _ _ _ _ (by simp only;omega)).trans (h2.trans (h1.trans HQ1.out))
     go_wp2
     go_roundw
     case rel=>exact⟨k+1,_,by omega,by go_num,by rw[HN2.out];exact HP.out,HQ5.out,HB5.out⟩
     case measure=>simp[intOf];omega
   ·obtain⟨v,hv⟩:∃v,zA5 c=v:=⟨_,rfl⟩
    rw[hv] at HN hlv hz0'
    have hqm:(q0:Int)+1≤9223372036854775807:=by unfold maxLen at hxl;omega
    have g2:IntKind.i64.wrap (q0:Int)=(q0:Int):=by rw[IntKind.wrap_i64];omega
    obtain⟨bz,oz,hbz,hlz,cz⟩:=hxr q0 _ hz0'
    subst hbz
    clear hxr hz0'
    obtain⟨r,hr⟩:∃r,M[v]? = some r:=⟨M[v]'(by omega),by rw[List.getElem?_eq_getElem (by omega)]⟩
    have HR:Hid (M[v]? = some r):=hr
    have hrl:=HMS.out _ _ hr
    have HN2:Hid (dueF (kvs.take (k+1)) (List.replicate n [])=M.set v (r++[(⟨.slice b1 c.vars.length e1,.slice b2 c.consts.length e2,.slice b3 c.rows.length e3,.slice b4 c.lits.length e4,c⟩:KV)])):=by
     show _=_
     rw[HN.out,List.getD_eq_getElem?_getD,hr];rfl
    obtain⟨htop,_,hrws,_⟩:=HG1.out
    obtain⟨x,hx,hox⟩:=hrws v r hr
    have HXX:Hid (cells[v]? = some x):=hx
    obtain⟨ax,cx,rfl⟩:=zAC hox
    have hcx:w1.cell? ⟨B,v,none⟩=some (.slice ax r.length cx):=by rw[htop.cellAt v (by omega)];exact hx
    have hlB:B<w1.heap.size:=(htop.lt B rfl).2
    have hvn:v<n:=by omega
    have hvn2:((v:Nat):Int)<(n:Int):=by omega
    go_upto_region 9 with (fail)
    obtain⟨q,hq⟩:∃q,wr.heap.size=q:=⟨_,rfl⟩
    have HXQ:Hid (some q≠(Value.slice ax r.length cx).ownBlock):=fun h=>by
     have h1:=HXO.out _ _ q hx h.symm
     omega
    rw[hq] at f0 f1 f2 f3 f4 f5 fl ⊢
    have hqw:w.heap.size<w1.heap.size:=by omega
    clear hr hx htop hrws HN hq
    go_region_law
     (first
      | (rw[if_pos (by rfl)];refine zAg _ _ _ 23 rfl (B+1) 100 i0 _ 6 112 Tryz.underConsD hi hz0 hz1 hz2 rfl (by decide) _ _ _ rfl (hox.drew.alloc _) ⟨w1.heap.size,0,none⟩ 1 1 (kvC (⟨.slice b1 c.vars.length e1,.slice b2 c.consts.length e2,.slice b3 c.rows.length e3,.slice b4 c.lits.length e4,c⟩:KV)) rfl rfl (zHe w1.drew (⟨.slice b1 c.vars.length e1,.slice b2 c.consts.length e2,.slice b3 c.rows.length e3,.slice b4 c.lits.length e4,c⟩:KV)) (by intro u hu;simp[kvC] at hu;rcases hu with rfl | rfl | rfl | rfl | rfl | rfl <;> rfl) ?_ ?_ ?_ ?_;(unfold maxLen;omega);omega;(simp;omega);intro v4 w4 hown4 hg4 hat4;obtain⟨av,cv,hv4⟩:=zAC hown4;subst hv4;have ht4:w4.ownsRow B 23 1 (.slice (some ⟨B,0,none⟩) n n) n cells:=(HG1.out.1.drew.alloc _).kept hg4 (Or.inr (fun h=>by have:=(hox.lt B h.symm).1;omega));have hcB:w4.cell? ⟨B,v,none⟩=some (.slice ax r.length cx):=by rw[ht4.cellAt v (by omega)];exact HXX.out
         have hfB:w4.frozen? ⟨B,v,none⟩=false:=ht4.frozenAt v
         have hl4:B<w4.heap.size:=(ht4.lt B rfl).2))
    all_goals
     have hown5:w4.ownsRow (B+1) 100 6 (.slice av (r.length+1) cv) (r++[(⟨.slice b1 c.vars.length e1,.slice b2 c.consts.length e2,.slice b3 c.rows.length e3,.slice b4 c.lits.length e4,c⟩:KV)]).length ((r++[(⟨.slice b1 c.vars.length e1,.slice b2 c.consts.length e2,.slice b3 c.rows.length e3,.slice b4 c.lits.length e4,c⟩:KV)]).flatMap kvC):=by
      have e:(r++[(⟨.slice b1 c.vars.length e1,.slice b2 c.consts.length e2,.slice b3 c.rows.length e3,.slice b4 c.lits.length e4,c⟩:KV)]).flatMap kvC=r.flatMap kvC++kvC (⟨.slice b1 c.vars.length e1,.slice b2 c.consts.length e2,.slice b3 c.rows.length e3,.slice b4 c.lits.length e4,c⟩:KV):=by simp
      rw[e,List.length_append];exact hown4
     have HP:Hid (zBr (w4.setCell ⟨B,v,none⟩ (.slice av (r.length+1) cv)) B n (cells.set v (.slice av (r.length+1) cv)) (M.set v (r++[(⟨.slice b1 c.vars.length e1,.slice b2 c.consts.length e2,.slice b3 c.rows.length e3,.slice b4 c.lits.length e4,c⟩:KV)]))) :=
      (HG1.out.kept ((Below.refl _ _).drew.alloc (Nat.le_refl _) _)).push HR.out HXX.out hown5 hg4 hat4
     have HB5:Hid (Below w.heap.size w (w4.setCell ⟨B,v,none⟩ (.slice av (r.length+1) cv))) :=
      ((HB1.out.drew.alloc HB1.out.size _).grown hg4 (by have:=HB1.out.size;simp;omega) (fun g h=>by have:=(hox.lt g h).1;omega)).setCell (by simp only;omega) _
     have HQ5:Hid ((w4.setCell ⟨B,v,none⟩ (.slice av (r.length+1) cv)).heap[w.heap.size]? = some (.cells #[.slice a1 n c1,.slice (some ⟨bk,ok,none⟩) kvs.length c2,.int .i64 m.goal,.int .i64 m.var] 25)):=by
      have h1:=((Below.refl w1.heap.size w1).drew.alloc (Nat.le_refl _) (.cells #[.int .i64 c.kind,.slice b1 c.vars.length e1,.slice b2 c.consts.length e2,.int .i64 c.n,.slice b3 c.rows.length e3,.slice b4 c.lits.length e4] 100)).block w.heap.size hqw
      have h2:=hg4.block w.heap.size (by simp;omega) (fun e=>by have:=(hox.lt _ e.symm).1;omega)
      exact (Below.heap_setCell _ _ _ _ (by simp only;omega)).trans (h2.trans (h1.trans HQ1.out))
     go_wp2
     go_roundw
     case rel=>exact⟨k+1,_,by omega,by go_num,by rw[HN2.out];exact HP.out,HQ5.out,HB5.out⟩
     case measure=>simp[intOf];omega
  ·have HN:Hid (kvs.take k=kvs):=List.take_of_length_le (by omega)
   go_wp2
   go_ret
   rw[HN.out] at HG
   exact⟨_,_,_,rfl,HG.out,hBw,HBW.out,fun r hr x hx=>HK0.out x (zKX kvs n r hr x hx),fun v r hr=>by
    rw[←HKC.out]
    have hvl:=(List.getElem?_eq_some_iff.1 hr).1
    rw[zD5] at hvl
    exact zKY kvs n v (by simpa using hvl) r hr⟩
end Go.Proofs.YtdjbejlbmaiocafGreatDoor
