/- What the proof leans on, part 32. -/
import Derived.Test.YtndcpnlaadikoaaGreatDoorPartBe
import Derived.Test.YtndcpnlaadikoaaGreatDoorPartAv
import Derived.Test.YtndcpnlaadikoaaGreatDoorPartAf
import Derived.Test.YtndcpnlaadikoaaGreatDoorPartAy
import Derived.Test.YtndcpnlaadikoaaGreatDoorPartBb
set_option maxRecDepth 100000
set_option maxHeartbeats 3200000
namespace Go.Proofs.YtndcpnlaadikoaaGreatDoor
open Go.RowKit
theorem zDU.fr {X:Nat→Prop} {w w':World} {B n:Nat} {cells:List Value} {M:List (List KV)} (h:zDU w B n cells M) (hf:Fr X w w') (hX:∀k,X k→k<B):zDU w' B n cells M:=by
 obtain⟨h1,h0,h2,h3⟩:=h;refine⟨zEC h1 hf fun g hg hx=>?_,h0,fun i r hr=>?_,h3⟩
 ·have:=(h1.lt g hg).1;have:=hX g hx;omega
 ·obtain⟨y,hy,hoy⟩:=h2 i r hr
  exact⟨y,hy,zEC hoy hf fun g hg hx=>by have:=(hoy.lt g hg).1;have:=hX g hx;omega⟩
structure LsC (w0 W2:World) (q:EaB) (bO:Nat) (m:Mod) (cells:List Value) (M:List (List KV)):Prop where
 b0:Below w0.heap.size w0 W2
 bOw:w0.heap.size≤bO
 bOl:bO<W2.heap.size
 qR:q.bR=W2.heap.size
 qV:q.bV=W2.heap.size+1
 qB:q.bB=W2.heap.size+2
 qF:q.bF=W2.heap.size+3
 qN:q.N=W2.heap.size
 qT:q.FT=69
 qc:q.c1=.pointer (some ⟨bO,0,none⟩)
 cT:W2.cell? ⟨q.bT,0,none⟩=some (.func (.func q.FT) #[] #[q.c1])
 nT:q.bT≠bO
 cM:W2.cell? ⟨q.bM,0,none⟩=some q.sv
 nM:q.bM≠bO
 cD:W2.cell? ⟨q.bD,0,none⟩=some (.slice (some ⟨q.B,0,none⟩) m.vars.length m.vars.length)
 nD:q.bD≠bO
 mv:VArg w0 q.sv m.vars
 gk:zDU W2 q.B m.vars.length cells M
 nB:bO<q.B
 ko:∀r∈M,∀x∈r,KOk w0 x
 du:∀(v:Nat) (r:List KV),M[v]? = some r→r.map (·.c)=dueP m.cons v
 dv:∀v,v<m.vars.length→cells[v]? = some (q.dv v)
 n6:m.vars.length≤6
structure LsJ (W2:World) (q:EaB) (bO:Nat) (m:Mod) (s:List (List Int)) (vals:List Int) (w:World):Prop where
 fr:Fr (fun k=>k=bO) W2 w
 len:vals.length=m.vars.length
 own:w.ownsRow q.N 3 1 (.slice (some ⟨q.bR,0,none⟩) m.vars.length m.vars.length) m.vars.length (vals.map (Value.int .i64))
 cV:w.cell? ⟨q.bV,0,none⟩=some (.slice (some ⟨q.bR,0,none⟩) m.vars.length m.vars.length)
 cB:w.cell? ⟨q.bB,0,none⟩=some (.func (.func 129) #[] #[.pointer (some ⟨q.bV,0,none⟩)])
 cF:w.cell? ⟨q.bF,0,none⟩=some (.func (.func 130) #[] q.caps)
 out:∃ov,w.heap[bO]? = some (.cells #[ov] 56)∧LLr (W2.heap.size+4) w ov s
 n1:W2.heap.size+4≤w.heap.size
 cap:s.length≤200
theorem LsJ.below0 {w0 W2:World} {q:EaB} {bO:Nat} {m:Mod} {cells:List Value} {M:List (List KV)} (hc:LsC w0 W2 q bO m cells M) {s:List (List Int)} {vals:List Int} {w:World} (h:LsJ W2 q bO m s vals w):Below w0.heap.size w0 w :=
 ⟨h.fr.os.trans hc.b0.os,h.fr.tape.trans hc.b0.tape,h.fr.output.trans hc.b0.output,Nat.le_trans hc.b0.size h.fr.size,fun k hk=>(h.fr.block k (Nat.lt_of_lt_of_le hk hc.b0.size) (by have:=hc.bOw;omega)).trans (hc.b0.block k hk)⟩
theorem LsJ.at9 {w0 W2:World} {q:EaB} {bO:Nat} {m:Mod} {cells:List Value} {M:List (List KV)} (hc:LsC w0 W2 q bO m cells M) {s:List (List Int)} {vals:List Int} {w:World} (h:LsJ W2 q bO m s vals w):EaAt q m.vars m.cons vals w where
 len:=h.len
 own:=h.own
 cV:=h.cV
 cT:=(h.fr.cell (p:=⟨q.bT,0,none⟩) (World.block_lt_of_cell? W2 _ hc.cT) hc.nT).trans hc.cT
 cM:=(h.fr.cell (p:=⟨q.bM,0,none⟩) (World.block_lt_of_cell? W2 _ hc.cM) hc.nM).trans hc.cM
 mv:=VArg.below (h.below0 hc) hc.mv
 cD:=(h.fr.cell (p:=⟨q.bD,0,none⟩) (World.block_lt_of_cell? W2 _ hc.cD) hc.nD).trans hc.cD
 due:=fun v hv=>by
  have hg:=hc.gk.fr h.fr (fun k hk=>by subst hk;exact hc.nB)
  have hM:v<M.length:=by rw[hg.2.1];exact hv
  obtain⟨x,h1,h2,h3⟩:=hg.carg (h.below0 hc) hc.ko v M[v] (List.getElem?_eq_getElem hM);have h4:w.cell? ⟨q.B,v,none⟩=some (q.dv v):=by rw[hg.1.cellAt v (by omega)];exact hc.dv v hv
  rw[h4] at h1;cases h1
  rw[hc.du v M[v] (List.getElem?_eq_getElem hM)] at h3;exact⟨h4,h3⟩
 cB:=h.cB
 cF:=h.cF
theorem LsJ.step {w0 W2:World} {q:EaB} {bO:Nat} {m:Mod} {cells:List Value} {M:List (List KV)} (hc:LsC w0 W2 q bO m cells M) {s s':List (List Int)} {vals:List Int} {w w':World} (h:LsJ W2 q bO m s vals w)
 (hf:Fr (fun k=>k=bO∨W2.heap.size+4≤k) w w') (ho:∃ov,w'.heap[bO]? = some (.cells #[ov] 56)∧LLr (W2.heap.size+4) w' ov s') (hs:s'.length≤200):LsJ W2 q bO m s' vals w' where
 fr:=⟨hf.os.trans h.fr.os,hf.tape.trans h.fr.tape,hf.output.trans h.fr.output,Nat.le_trans h.fr.size hf.size,fun k hk hx=>(hf.block k (Nat.lt_of_lt_of_le hk h.fr.size) (by intro hy;rcases hy with hy | hy;exact hx hy;omega)).trans (h.fr.block k hk hx)⟩
 len:=h.len
 own:=zEC h.own hf (fun g hg hx=>by
  have:q.bR=g:=by simpa[Value.ownBlock] using hg
  have:=hc.qR;have:=hc.bOl;rcases hx with hx | hx <;> omega)
 cV:=(hf.cell (p:=⟨q.bV,0,none⟩) (World.block_lt_of_cell? w _ h.cV) (by have:=hc.qV;have:=hc.bOl;simp only;omega)).trans h.cV
 cB:=(hf.cell (p:=⟨q.bB,0,none⟩) (World.block_lt_of_cell? w _ h.cB) (by have:=hc.qB;have:=hc.bOl;simp only;omega)).trans h.cB
 cF:=(hf.cell (p:=⟨q.bF,0,none⟩) (World.block_lt_of_cell? w _ h.cF) (by have:=hc.qF;have:=hc.bOl;simp only;omega)).trans h.cF
 out:=ho
 n1:=Nat.le_trans h.n1 hf.size
 cap:=hs
theorem zPr (s:List (List Int)) (x:List Int) (h:s.length≤200):(zEB s x).2.length≤200:=by
 unfold zEB
 split
 ·exact h
 ·rw[List.length_append];simp;omega
theorem zPs {w0 W2:World} {q:EaB} {bO:Nat} {m:Mod} {cells:List Value} {M:List (List KV)} (hc:LsC w0 W2 q bO m cells M):Told9 q m.vars m.cons zEB (LsJ W2 q bO m) where
 enters:=fun args w'=>by
  rw[hc.qT];simp[callFunc,go_sem,Tryz.func69,Tryz.f69]
 at9:=fun s vals w h=>h.at9 hc
 below:=fun s vals w w' h hb=>h.step hc (Fr.below hb) (by
  obtain⟨ov,h1,h2⟩:=h.out;exact⟨ov,(hb.block bO (Array.getElem?_eq_some_iff.1 h1).1).trans h1,h2.at fun g _ hg=>hb.block g hg⟩) h.cap
 set:=fun s vals w v x h hv=>{
  fr:=h.fr.setNew (p:=⟨q.bR,v,none⟩) (by have:=hc.qR;simp only;omega) _
  len:=by rw[List.length_set];exact h.len
  own:=by
   have:=(h.own.stored v (.int .i64 x)).1;rwa [←List.map_set] at this
  cV:=(World.cell?_of_block (w:=w) (Below.heap_setCell _ _ _ _ (by have:=hc.qR;have:=hc.qV;simp only;omega))).trans h.cV
  cB:=(World.cell?_of_block (w:=w) (Below.heap_setCell _ _ _ _ (by have:=hc.qR;have:=hc.qB;simp only;omega))).trans h.cB
  cF:=(World.cell?_of_block (w:=w) (Below.heap_setCell _ _ _ _ (by have:=hc.qR;have:=hc.qF;simp only;omega))).trans h.cF
  out:=by
   obtain⟨ov,h1,h2⟩:=h.out;exact⟨ov,(Below.heap_setCell _ _ _ _ (by have:=hc.qR;have:=hc.bOl;simp only;omega)).trans h1,h2.at fun g hg _=>Below.heap_setCell _ _ _ _ (by have:=hc.qR;simp only;omega)⟩
  n1:=by simpa using h.n1
  cap:=h.cap }
 call:=fun s vals w h=>by
  obtain⟨ov,h1,h2⟩:=h.out;rw[hc.qT,hc.qc];have ho:=h.own;rw[←h.len] at ho ⊢;refine (zPq bO (W2.heap.size+4) s vals (by have:=hc.n6;have:=h.len;omega) h.cap _ ov w (zDa ho) h1 h2 h.n1 (by have:=hc.bOl;omega)).mono ?_
  rintro e w' ⟨hf,rfl,ho'⟩;exact⟨rfl,h.step hc hf ho' (zPr s vals h.cap)⟩
theorem LLr.mono {B B':Nat} {w:World} {v:Value} {acc:List (List Int)} (h:LLr B w v acc) (hb:B'≤B):LLr B' w v acc:=by
 obtain⟨cells,h1,h2⟩:=h;refine⟨cells,h1.mono hb,fun i r hr=>?_⟩
 obtain⟨x,hx,ho⟩:=h2 i r hr;exact⟨x,hx,ho.mono hb⟩
theorem zG8 (w:World) (b:Nat) (hb:w.heap.size=b) (cs:Array Value) (t:TypeId) (v:Value) (h:cs[0]? = some v):(w.alloc (.cells cs t)).cell? ⟨b,0,none⟩=some v:=by
 subst hb;exact blk9 (heap_alloc_new _ _) 0 v h
def eaQ (n bO bM bT b B:Nat) (sv:Value) (cells:List Value):EaB:=⟨b+1+1,bT,bM,b,b+1+1+1,b+1+1+1+1,b+1,B,b+1,69,.pointer (some ⟨bO,0,none⟩),sv,fun v=>cells.getD v (.slice none n 0)⟩
def eaW (n bM bT B:Nat) (w1:World):World :=
 ((((w1.alloc (.cells #[.slice (some ⟨B,0,none⟩) n n] 192)).alloc (.cells (madeCells #[.int .i64 0] n) 3)).alloc (.cells #[.slice (some ⟨w1.heap.size+1,0,none⟩) n n] 42)).alloc (.cells #[.func (.func 129) #[] #[.pointer (some ⟨w1.heap.size+1+1,0,none⟩)]] 194)).alloc (.cells #[.func (.func 130) #[] #[.pointer (some ⟨w1.heap.size+1+1,0,none⟩),.pointer (some ⟨bT,0,none⟩),.pointer (some ⟨bM,0,none⟩),.pointer (some ⟨w1.heap.size,0,none⟩),.pointer (some ⟨w1.heap.size+1+1+1,0,none⟩),.pointer (some ⟨w1.heap.size+1+1+1+1,0,none⟩)]] 195)
theorem zOG (m:Mod) (w0 w1:World) (bO bM bT B:Nat) (sv:Value) (cells:List Value) (M:List (List KV)) (h6:m.vars.length≤6) (hb:Below w0.heap.size w0 w1) (bOw:w0.heap.size≤bO) (hO:w1.heap[bO]? = some (.cells #[.slice none 0 0] 56))
 (hM:w1.cell? ⟨bM,0,none⟩=some sv) (nM:bM≠bO) (hT:w1.cell? ⟨bT,0,none⟩=some (.func (.func 69) #[] #[.pointer (some ⟨bO,0,none⟩)])) (nT:bT≠bO) (mv:VArg w0 sv m.vars) (gk:zDU w1 B m.vars.length cells M) (nB:bO<B)
 (ko:∀r∈M,∀x∈r,KOk w0 x) (du:∀(v:Nat) (r:List KV),M[v]? = some r→r.map (·.c)=dueP m.cons v) :
 LsC w0 (w1.alloc (.cells #[.slice (some ⟨B,0,none⟩) m.vars.length m.vars.length] 192)) (eaQ m.vars.length bO bM bT w1.heap.size B sv cells) bO m cells M ∧
 LsJ (w1.alloc (.cells #[.slice (some ⟨B,0,none⟩) m.vars.length m.vars.length] 192)) (eaQ m.vars.length bO bM bT w1.heap.size B sv cells) bO m [] (zBS m.vars.length) (eaW m.vars.length bM bT B w1):=by
 have lO:=(Array.getElem?_eq_some_iff.1 hO).1;have lM:=World.block_lt_of_cell? w1 _ hM;have lT:=World.block_lt_of_cell? w1 _ hT;have hzl:(zBS m.vars.length).length=m.vars.length:=by simp[zBS]
 have r1:=zKj (w1.alloc (.cells #[.slice (some ⟨B,0,none⟩) m.vars.length m.vars.length] 192)) m.vars.length (w1.heap.size+1) h6 (by simp)
 have e1:(w1.alloc (.cells #[.slice (some ⟨B,0,none⟩) m.vars.length m.vars.length] 192)).heap.size=w1.heap.size+1:=by simp
 rw[e1] at r1;have hlen:cells.length=m.vars.length:=by have:=gk.1.1;omega
 refine⟨⟨hb.alloc hb.size _,bOw,by simp;omega,by simp[eaQ],by simp[eaQ],by simp[eaQ],by simp[eaQ],by simp[eaQ],rfl,rfl,(World.cell?_alloc_past _ _ _ lT).trans hT,nT,(World.cell?_alloc_past _ _ _ lM).trans hM,nM,?_,?_,mv,gk.kept (zAA _ _),nB,ko,du,fun v hv=>?_,h6⟩,
  ⟨?_,hzl,?_,?_,?_,?_,?_,by unfold eaW;simp,by simp⟩⟩
 ·exact zG8 _ _ rfl _ _ _ rfl
 ·show w1.heap.size≠bO;omega
 ·show cells[v]? = some (cells.getD v _)
  rw[List.getD_eq_getElem?_getD,List.getElem?_eq_getElem (by omega)];rfl
 ·unfold eaW
  exact (((Fr.refl _ _).alloc _).alloc _).alloc _ |>.alloc _
 ·exact ((r1.alloc _).alloc _).alloc _
 ·exact (World.cell?_alloc_past _ _ _ (by simp[eaQ])).trans ((World.cell?_alloc_past _ _ _ (by simp[eaQ])).trans (zG8 _ _ (by simp[eaQ]) _ _ _ rfl))
 ·exact (World.cell?_alloc_past _ _ _ (by simp[eaQ])).trans (zG8 _ _ (by simp[eaQ]) _ _ _ rfl)
 ·exact zG8 _ _ (by simp[eaQ]) _ _ _ rfl
 ·refine⟨.slice none 0 0,?_,LLr.none _ _⟩
  unfold eaW;exact (((((zAA _ _).alloc (by simp) _).alloc (by simp;omega) _).alloc (by simp;omega) _).alloc (by simp;omega) _ |>.block bO lO).trans hO
theorem zPt (m:Mod) (hm:zAG m=0) (vs cs:Value) (w0 w:World) (hma:MArg w0 vs cs m) (hb:Below w0.heap.size w0 w) (bO:Nat) (hbO:w0.heap.size≤bO) (hO:w.heap[bO]? = some (.cells #[.slice none 0 0] 56)) :
 Calls Tryz.prog 68 #[modV vs cs m,.func (.func 69) #[] #[.pointer (some ⟨bO,0,none⟩)]] w fun e w'=>Below w0.heap.size w0 w'∧e=.returned (.bool (runT zEB (allL m) []).1)∧∃ov,w'.heap[bO]? = some (.cells #[ov] 56)∧LLr w0.heap.size w' ov (runT zEB (allL m) []).2:=by
 have HMA:Hid (MArg w0 vs cs m):=hma;have HM:Hid (zAG m=0):=hm;have HB:Hid (Below w0.heap.size w0 w):=hb;have HO:Hid (w.heap[bO]? = some (.cells #[.slice none 0 0] 56)):=hO;have h6:m.vars.length≤6:=(zAe m hm).2.1;obtain⟨⟨a1,c1,rfl,hm1,_⟩,a2,c2,rfl,_,_⟩:=hma;have hmk:=run_make_row' (P:=Tryz.prog) 42 3 (.int .i64 0) 8 Tryz.underInts7 Tryz.infoInt7 rfl .i64 .i64 m.vars.length (by omega) (by omega)
 unfold maxLen at hm1;obtain⟨hm11,hm12⟩:=hm1;obtain⟨RR,hRR⟩:∃RR,runT zEB (allL m) []=RR:=⟨_,rfl⟩;have HRR:Hid (runT zEB (allL m) []=RR):=hRR;rw[hRR];have hbl:bO<w.heap.size:=(Array.getElem?_eq_some_iff.1 hO).1;unfold modV;clear hm hb hO hRR;go_enter Tryz.func68,Tryz.ntmps68
 go_wp2_with fail
 have HBX:Hid (Below w.heap.size w ((w.alloc (.cells #[.slice a1 m.vars.length c1,.slice a2 m.cons.length c2,.int .i64 m.goal,.int .i64 m.var] 25)).alloc (.cells #[.func (.func 69) #[] #[.pointer (some ⟨bO,0,none⟩)]] 122))):=(zAA _ _).alloc (by simp) _
 refine (zPb m HM.out _ _ w0 _ HMA.out (HB.out.trans (HBX.out.mono HB.out.size))).mono ?_;rintro e w1 ⟨B,cells,M,rfl,hgk,hBw,hb1,hko,hdu⟩;have HGK:Hid (zDU w1 B m.vars.length cells M):=hgk;have HB1:Hid (Below w.heap.size w w1):=HBX.out.trans (hb1.mono HBX.out.size);have HKO:Hid (∀r∈M,∀x∈r,KOk w0 x):=hko;have HDU:Hid (∀(v:Nat) (r:List KV),M[v]? = some r→r.map (·.c)=dueP m.cons v):=hdu
 have hs1:w.heap.size+2≤w1.heap.size:=by have:=hb1.size;simp at this;omega
 have HBW:Hid (w.heap.size+2≤B):=by have h:=hBw;simp at h;exact h
 have hM1:w1.heap[w.heap.size]? = some (.cells #[.slice a1 m.vars.length c1,.slice a2 m.cons.length c2,.int .i64 m.goal,.int .i64 m.var] 25):=(hb1.block _ (by simp;omega)).trans (((zAA _ _).block _ (by simp)).trans (heap_alloc_new _ _))
 have hT1:w1.heap[w.heap.size+1]? = some (.cells #[.func (.func 69) #[] #[.pointer (some ⟨bO,0,none⟩)]] 122):=(hb1.block _ (by simp)).trans (by have h:=heap_alloc_new (w.alloc (.cells #[.slice a1 m.vars.length c1,.slice a2 m.cons.length c2,.int .i64 m.goal,.int .i64 m.var] 25)) (.cells #[.func (.func 69) #[] #[.pointer (some ⟨bO,0,none⟩)]] 122);rw[World.size_alloc] at h;exact h)
 have q0:w1.cell? ⟨w.heap.size,0,none⟩=some (.slice a1 m.vars.length c1):=blk9 hM1 0 _ rfl;have ql:w.heap.size<w1.heap.size:=by omega
 have HM1:=hid0 hM1;have HT1:=hid0 hT1;clear hgk hb1 hko hdu hBw hM1 hT1;have HBG:=hid0 (zOG m w0 w1 bO w.heap.size (w.heap.size+1) B (.slice a1 m.vars.length c1) cells M h6 (HB.out.trans (HB1.out.mono HB.out.size)) hbO ((HB1.out.block bO hbl).trans HO.out) q0 (by omega) (blk9 HT1.out 0 _ rfl) (by omega) HMA.out.1 HGK.out (by have:=HBW.out;omega) HKO.out HDU.out)
 unfold eaW at HBG;go_wp2_with fail
 have hfr:=zRX (eaQ m.vars.length bO w.heap.size (w.heap.size+1) w1.heap.size B (.slice a1 m.vars.length c1) cells) m HM.out zEB _ (zPs HBG.out.1) m.vars.length 0 [] (zBS m.vars.length) [] _ (by omega) rfl rfl (fun i hi=>by simp at hi) HBG.out.2
 refine hfr.mono ?_;rintro e w9 ⟨rfl,vals',_,hj⟩;have HJ:=hid0 hj;have HBE:=hid0 (hj.below0 HBG.out.1);have HOU:=hid0 hj.out;rw[show runT zEB (zEA m.vars m.cons m.vars.length []) []=RR from HRR.out] at HOU ⊢
 clear hj hfr HJ;obtain⟨r1,r2⟩:=RR
 dsimp only
 go_wp2
 go_ret
 obtain⟨ov,h1,h2⟩:=HOU.out;exact⟨HBE.out,rfl,ov,h1,h2.mono (by have:=HB.out.size;have:=HB1.out.size;simp;omega)⟩
theorem zRY (m:Mod):runT zEB (allL m) []=(decide ((allL m).length≤200),(allL m).take 200):=by
 rw[zKe (allL m) [] (by simp)]
 simp
theorem zKx (m:Mod) (vs cs:Value) (w:World) (hma:MArg w vs cs m) :
 Calls Tryz.prog 27 #[modV vs cs m] w fun e w'=>Below w.heap.size w w'∧∃v,e=.returned (.tuple #[v,.bool (zHu m).2.1,.int .i64 (zHu m).2.2])∧LLr w.heap.size w' v (zHu m).1:=by
 have HMA:Hid (∀Y,Below w.heap.size w Y→MArg Y vs cs m):=fun Y h=>MArg.below h hma
 have HM0:Hid (MArg w vs cs m):=hma;obtain⟨⟨a1,c1,rfl,_,_⟩,a2,c2,rfl,_,_⟩:=hma;obtain⟨L,hL⟩:∃L,zHu m=L:=⟨_,rfl⟩;rw[hL];have HL:Hid (zHu m=L):=hL;unfold modV;clear hL;go_enter Tryz.func27,Tryz.ntmps27
 go_wp2_with fail
 refine (zA9 m _ _ _ (HMA.out _ (zAA _ _))).mono ?_;rintro e w1 ⟨rfl,hb1⟩;have HB1:Hid (Below w.heap.size w w1):=(zAA _ _).trans (hb1.mono (by simp))
 have hM1:w1.heap[w.heap.size]? = some (.cells #[.slice a1 m.vars.length c1,.slice a2 m.cons.length c2,.int .i64 m.goal,.int .i64 m.var] 25):=(hb1.block _ (by simp)).trans (heap_alloc_new _ _)
 have q0:=blk9 hM1 0 _ rfl;have q1:=blk9 hM1 1 _ rfl;have q2:=blk9 hM1 2 _ rfl;have q3:=blk9 hM1 3 _ rfl;have ql:=(Array.getElem?_eq_some_iff.1 hM1).1;clear hb1 hM1;by_cases h0:zAG m=0
 ·have HE:Hid (L=((allL m).take 200,decide ((allL m).length≤200),0)):=by show _=_;rw[←HL.out];unfold zHu;rw[if_pos h0]
  rw[h0];have HC:Hid (zAG m=0):=h0;clear h0;go_wp2_with fail
  refine (zPt m HC.out _ _ w _ HM0.out (HB1.out.alloc HB1.out.size _) w1.heap.size HB1.out.size (heap_alloc_new _ _)).mono ?_;rintro e w2 ⟨hb2,rfl,ov,ho,hl⟩;rw[zRY] at hl ⊢
  dsimp only at hl ⊢
  obtain⟨TT,hTT⟩:∃TT,(allL m).take 200=TT:=⟨_,rfl⟩;rw[hTT] at hl HE;clear hTT;obtain⟨ao,co,hof⟩:=hl.form;subst hof;have HLL:=hid0 hl;have HB2:=hid0 hb2;have k0:=blk9 ho 0 _ rfl;have kl:=(Array.getElem?_eq_some_iff.1 ho).1;obtain⟨Z,hZ⟩:∃Z,decide ((allL m).length≤200)=Z:=⟨_,rfl⟩;rw[hZ] at HE ⊢;clear hl hb2 ho hZ;go_wp2
  refine bodyPost_ret (by simp[results,Tryz.results27,go_sem, *];try rfl) rfl ?_
  rw[HE.out];exact⟨HB2.out,_,rfl,HLL.out⟩
 ·have HE:Hid (L=([],false,zAG m)):=by show _=_;rw[←HL.out];unfold zHu;rw[if_neg h0]
  have h1:(zAG m != 0)=true:=by simpa using h0
  go_wp2
  refine bodyPost_ret (by simp[results,Tryz.results27,go_sem, *];try rfl) rfl ?_
  rw[HE.out];exact⟨HB1.out,_,rfl,LLr.none _ _⟩
theorem zPu (m:Mod) (hm:zAG m=0):∀pts∈ptsM m,∀z∈pts,z<2 ^ 36:=by
 intro pts hp;obtain⟨c,hcm,rfl⟩:=List.mem_map.1 hp;obtain⟨j,hj⟩:=List.mem_iff_getElem?.1 hcm;exact zGL m hm j c hj
theorem zTG {w W:World} {r:Nat} {sv pv:Value} {vs:List MVar} {pt:List (List Nat)} (hr:w.heap.size≤r) (hrW:r<W.heap.size) (hb:Below w.heap.size w W) (hv:VArg w sv vs) (hT:TabT w) (hp:PRow (r+1) W pv pt) (hl:∀pts∈pt,∀z∈pts,z<2 ^ 36):Rul W r sv pv vs pt:=by
 refine⟨hrW,fun w' hf=>?_⟩
 have hb2:Below w.heap.size w w':=⟨hf.os.trans hb.os,hf.tape.trans hb.tape,hf.output.trans hb.output,Nat.le_trans hb.size hf.size,fun k hk=>(hf.block k (Nat.lt_of_lt_of_le hk hb.size) (by omega)).trans (hb.block k hk)⟩
 exact⟨VArg.below hb2 hv,(hp.fr hf (fun g hg=>by omega)).arg hl,hT.below hb2⟩
theorem zPv (m:Mod) (hm:zAG m=0) (vs cs:Value) (w:World) (hma:MArg w vs cs m) (hT:TabT w) :
 Calls Tryz.prog 82 #[modV vs cs m] w fun e w'=>∃r pv,e=.returned (.pointer (some ⟨r,0,none⟩))∧Rul w' r vs pv m.vars (ptsM m)∧RulD w' w' r vs pv (.slice none 0 0) []∧w.heap.size≤r∧Below w.heap.size w w'∧PRow (r+1) w' pv (ptsM m):=by
 obtain⟨i0,hi0,hz0,hz1,hz2⟩:=info_parts Tryz.infoPts;have HMA:Hid (∀w',Below w.heap.size w w'→MArg w' vs cs m):=fun w' h=>MArg.below h hma
 have HVW:Hid (VArg w vs m.vars):=hma.1;have HT:Hid (TabT w):=hT;have HM:Hid (zAG m=0):=hm;have h8:m.cons.length≤8:=(zAe m hm).2.2.1;obtain⟨⟨a1,c1,rfl,_,_⟩,⟨a2,c2,rfl,_,_⟩⟩:=hma;unfold modV;obtain⟨L,hL⟩:∃L,ptsM m=L:=⟨_,rfl⟩;have HL:Hid (ptsM m=L):=hL;have HLL:Hid (L.length=m.cons.length):=by show _=_;rw[←hL];unfold ptsM;rw[List.length_map]
 rw[hL];clear hL;clear hm hT;go_enter Tryz.func82,Tryz.ntmps82
 go_wp2_with fail
 have HB0:Hid (Below w.heap.size w ((w.alloc (.cells #[.slice a1 m.vars.length c1,.slice a2 m.cons.length c2,.int .i64 m.goal,.int .i64 m.var] 25)).alloc (.cells #[.slice a1 m.vars.length c1,.slice none 0 0,.slice none 0 0] 141))):=(zAA _ _).alloc (by simp) _
 have HQ:Hid (((w.alloc (.cells #[.slice a1 m.vars.length c1,.slice a2 m.cons.length c2,.int .i64 m.goal,.int .i64 m.var] 25)).alloc (.cells #[.slice a1 m.vars.length c1,.slice none 0 0,.slice none 0 0] 141)).heap[w.heap.size]? = some (.cells #[.slice a1 m.vars.length c1,.slice a2 m.cons.length c2,.int .i64 m.goal,.int .i64 m.var] 25)):=((zAA (w.alloc (.cells #[.slice a1 m.vars.length c1,.slice a2 m.cons.length c2,.int .i64 m.goal,.int .i64 m.var] 25)) (.cells #[.slice a1 m.vars.length c1,.slice none 0 0,.slice none 0 0] 141)).block w.heap.size (by simp)).trans (heap_alloc_new w _)
 have HBK:Hid (((w.alloc (.cells #[.slice a1 m.vars.length c1,.slice a2 m.cons.length c2,.int .i64 m.goal,.int .i64 m.var] 25)).alloc (.cells #[.slice a1 m.vars.length c1,.slice none 0 0,.slice none 0 0] 141)).heap[w.heap.size+1]? = some (.cells #[.slice a1 m.vars.length c1,.slice none 0 0,.slice none 0 0] 141)):=by
  have h:=heap_alloc_new (w.alloc (.cells #[.slice a1 m.vars.length c1,.slice a2 m.cons.length c2,.int .i64 m.goal,.int .i64 m.var] 25)) (.cells #[.slice a1 m.vars.length c1,.slice none 0 0,.slice none 0 0] 141);rw[World.size_alloc] at h;exact h
 have HS0:Hid (((w.alloc (.cells #[.slice a1 m.vars.length c1,.slice a2 m.cons.length c2,.int .i64 m.goal,.int .i64 m.var] 25)).alloc (.cells #[.slice a1 m.vars.length c1,.slice none 0 0,.slice none 0 0] 141)).heap.size=w.heap.size+2):=by show _=_;simp
 obtain⟨W,hW⟩:∃W,((w.alloc (.cells #[.slice a1 m.vars.length c1,.slice a2 m.cons.length c2,.int .i64 m.goal,.int .i64 m.var] 25)).alloc (.cells #[.slice a1 m.vars.length c1,.slice none 0 0,.slice none 0 0] 141))=W:=⟨_,rfl⟩;rw[hW] at HB0 HQ HBK HS0 ⊢;clear hW;go_loopw [12] (fun i wr=>∃(k:Nat) (pv:Value),k≤m.cons.length∧i=.int .i64 k∧Hid (PRow (w.heap.size+2) wr pv (L.take k))∧Hid (wr.heap[w.heap.size+1]? = some (.cells #[.slice a1 m.vars.length c1,pv,.slice none 0 0] 141))∧Hid (Below (w.heap.size+1) W wr)) (fun i _=>m.cons.length - (intOf i).toNat)
 case atStart=>exact⟨0,.slice none 0 0,by omega,rfl,⟨[],World.ownsRow_nil _ _ _ _,fun i pts h=>by simp at h⟩,HBK,Below.refl _ _⟩
 case round =>
  obtain⟨k,pv,hk,rfl,HROW,HBLK,HBW⟩:=hrel;have HBN:Hid (Below w.heap.size w wr):=HB0.out.trans (HBW.out.mono (by omega))
  have HSZ:Hid (w.heap.size+2≤wr.heap.size):=by have:=HBW.out.size;have:=HS0.out;show _≤_;omega
  have HMB:Hid (wr.heap[w.heap.size]? = some (.cells #[.slice a1 m.vars.length c1,.slice a2 m.cons.length c2,.int .i64 m.goal,.int .i64 m.var] 25)):=(HBW.out.block w.heap.size (by omega)).trans HQ.out
  have k0:wr.cell? ⟨w.heap.size,0,none⟩=some (.slice a1 m.vars.length c1):=blk9 HMB.out 0 _ rfl;have k1:wr.cell? ⟨w.heap.size,1,none⟩=some (.slice a2 m.cons.length c2):=blk9 HMB.out 1 _ rfl;have k2:wr.cell? ⟨w.heap.size,2,none⟩=some (.int .i64 m.goal):=blk9 HMB.out 2 _ rfl;have k3:wr.cell? ⟨w.heap.size,3,none⟩=some (.int .i64 m.var):=blk9 HMB.out 3 _ rfl;obtain⟨cells,hcw,hrows⟩:=HROW.out;have HCW:Hid (wr.ownsRow (w.heap.size+2) 139 1 pv (L.take k).length cells):=hcw;have HRW:Hid (∀(i:Nat) (p:List Nat),(L.take k)[i]? = some p→∃x,cells[i]? = some x∧wr.ownsRow (w.heap.size+2) 136 1 x p.length (u64s p)):=hrows;obtain⟨ap,cp,hpv⟩:=zAC hcw;have HTL:Hid ((L.take k).length=k):=by show _=_;rw[List.length_take,HLL.out];omega
  rw[HTL.out] at hpv HCW;subst hpv;have g1:wr.cell? ⟨w.heap.size+1,1,none⟩=some (.slice ap k cp):=blk9 HBLK.out 1 _ rfl;have lr:w.heap.size<wr.heap.size:=by have:=HSZ.out;omega
  have lr1:w.heap.size+1<wr.heap.size:=by have:=HSZ.out;omega
  clear hcw hrows;by_cases hlt:k<m.cons.length
  ·obtain⟨c,hc⟩:∃c,m.cons[k]? = some c:=⟨m.cons[k],by simp[hlt]⟩
   have HLK:Hid (L[k]? = some (zAK m.vars c)):=by show _=_;rw[←HL.out];unfold ptsM;rw[List.getElem?_map,hc];rfl
   have HPT:Hid (∀Y,Below wr.heap.size wr Y→Calls Tryz.prog 120 #[.agg #[.slice a1 m.vars.length c1,.slice a2 m.cons.length c2,.int .i64 m.goal,.int .i64 m.var],.int .i64 (k:Int)] Y fun e w'=>∃x,e=.returned x∧w'.ownsRow Y.heap.size 136 1 x (zAK m.vars c).length (u64s (zAK m.vars c))∧Below Y.heap.size Y w'):=fun Y hY =>
    zGK m k c _ _ Y HM.out hc (HMA.out _ (HBN.out.trans (hY.mono HBN.out.size)))
   have HTN:Hid (L.take (k+1)=L.take k++[zAK m.vars c]):=by show _=_;rw[List.take_add_one,HLK.out];rfl
   obtain⟨pts,hpts⟩:∃pts,zAK m.vars c=pts:=⟨_,rfl⟩;rw[hpts] at HPT HTN;clear hc hpts;go_wp2_with fail
   go_region_law
    (first
      | (rw[if_pos (by rfl)];refine wp_append_own _ _ _ 138 rfl (w.heap.size+2) 139 i0 _ 1 24 Tryz.underPts hi0 hz0 hz1 hz2 rfl (by decide) _ _ _ rfl (hw3.alloc _) ⟨w3.heap.size,0,none⟩ 1 1 [.slice ax pts.length cx] rfl rfl (zRL w3 (.slice ax pts.length cx)) (by intro u hu;simp at hu;subst hu;rfl) ?_ ?_ ?_ ?_;(unfold maxLen;omega);omega;(have:=hB3.size;have:=HSZ.out;simp;omega);intro v4 w4 hown4 hg4 _;have hP:PRow (w.heap.size+2) w4 v4 (L.take k++[pts]):=PRow.push (by rw[HTL.out];exact hw3.alloc _) (fun i p hi=>(hr3 i p hi).imp fun y hy=>⟨hy.1,hy.2.alloc _⟩) (hx3.alloc _) hg4 (by rw[HTL.out]) hown4;obtain⟨a9,b9,hv9⟩:=zAC hown4;subst hv9;have hk4:=zBF (((zAA w3 _).block (w.heap.size+1) l3).trans hbk3) hg4 (hw3.alloc _) (by decide);have d2:w4.cell? ⟨w.heap.size+1,1,none⟩=some (.slice ap k cp):=blk9 hk4 1 _ rfl;have z2:w4.frozen? ⟨w.heap.size+1,1,none⟩=false:=frz9 hk4 1)
      | (rw[if_pos (by rfl)];go_simp;go_at_call 120;refine (HPT.out _ (Below.refl _ _).drew).mono ?_;rintro e w3 ⟨x,rfl,hx,hb3⟩;obtain⟨ax,cx,rfl⟩:=zAC hx;have hB3:Below wr.heap.size wr w3:=(Below.refl _ _).drew.trans hb3;have c3:w3.cell? ⟨w.heap.size+1,1,none⟩=some (.slice ap k cp):=(hB3.cell (p:=⟨w.heap.size+1,1,none⟩) lr1).trans g1;have hw3:w3.ownsRow (w.heap.size+2) 139 1 (.slice ap k cp) k cells:=zAB HCW.out hB3;have hr3:∀(i:Nat) (p:List Nat),(L.take k)[i]? = some p→∃x,cells[i]? = some x∧w3.ownsRow (w.heap.size+2) 136 1 x p.length (u64s p):=fun i p hi=>(HRW.out i p hi).imp fun y hy=>⟨hy.1,zAB hy.2 hB3⟩;have hx3:w3.ownsRow (w.heap.size+2) 136 1 (.slice ax pts.length cx) pts.length (u64s pts):=World.ownsRow.mono hx HSZ.out;have l3:w.heap.size+1<w3.heap.size:=Nat.lt_of_lt_of_le lr1 hB3.size;have hbk3:=(hB3.block (w.heap.size+1) lr1).trans HBLK.out;dsimp only))
   all_goals
    have HR4:Hid (PRow (w.heap.size+2) (w4.setCell ⟨w.heap.size+1,1,none⟩ (.slice a9 (k+1) b9)) (.slice a9 (k+1) b9) (L.take (k+1))):=by
     rw[HTN.out];exact hP.fr (X:=fun g=>g=w.heap.size+1) (Fr.setX (X:=fun g=>g=w.heap.size+1) (Fr.refl _ _) (p:=⟨w.heap.size+1,1,none⟩) rfl _) (fun g hg=>by omega)
    have HK4:Hid ((w4.setCell ⟨w.heap.size+1,1,none⟩ (.slice a9 (k+1) b9)).heap[w.heap.size+1]? = some (.cells #[.slice a1 m.vars.length c1,.slice a9 (k+1) b9,.slice none 0 0] 141)):=by show _=_;rw[heap_setCell_same w4 (w.heap.size+1) 1 _ _ _ hk4];rfl
    have HB4:Hid (Below (w.heap.size+1) W (w4.setCell ⟨w.heap.size+1,1,none⟩ (.slice a9 (k+1) b9))):=((((HBW.out.trans (hB3.mono (by have:=HSZ.out;omega))).alloc (by have:=hB3.size;have:=HSZ.out;omega) _).grown hg4 (by have:=hB3.size;have:=HSZ.out;simp;omega) (fun g hg=>by have:=((hw3.alloc (.cells #[.slice ax pts.length cx] 139)).lt g hg).1;omega))).setCell (show w.heap.size+1≤w.heap.size+1 from Nat.le_refl _) _
    clear hP hx hb3 hB3 c3 hw3 hr3 hx3 l3 hbk3 hown4 hg4 hk4 k0 k1 k2 k3 g1 HROW HBLK HBW;go_wp2
    go_roundw
    case rel=>exact⟨k+1,_,by omega,by go_num,HR4,HK4,HB4⟩
    case measure=>simp[intOf];omega
  ·have hke:k=m.cons.length:=by omega
   have HFIN:Hid (PRow (w.heap.size+2) wr (.slice ap k cp) L):=by have:=HROW.out;rw[List.take_of_length_le (by rw[HLL.out];omega)] at this;exact this
   have HRU:Hid (Rul wr (w.heap.size+1) (.slice a1 m.vars.length c1) (.slice ap k cp) m.vars L):=zTG (by omega) lr1 HBN.out HVW.out HT.out HFIN.out (by rw[←HL.out];exact zPu m HM.out)
   have HRD:Hid (RulD wr wr (w.heap.size+1) (.slice a1 m.vars.length c1) (.slice ap k cp) (.slice none 0 0) []):=⟨HBLK.out,World.ownsRow_nil _ _ _ _,(fun z hz=>by cases hz),Fr.refl _ _⟩
   have hle:¬((k:Int)<(m.cons.length:Int)):=by omega
   clear hke k0 k1 k2 k3 g1;go_wp2
   go_ret
   exact⟨w.heap.size+1,rfl,_,HRU.out,HRD.out,by omega,HBN.out,HFIN.out⟩
open Go.RowKit Go.Maps
theorem zND {w w1 W:World} {s r mb:Nat} {sv pv:Value} {vs:List MVar} {pt:List (List Nat)} {fuel:Nat} (hv:VArg w sv vs) (hT:TabT w) (hb1:Below w.heap.size w w1) (hr:w.heap.size≤r) (hm:w.heap.size≤mb) (hs:w1.heap.size≤s) (hmr:mb<r∨w1.heap.size≤mb)
 (hp:PRow (r+1) w1 pv pt) (hl:∀pts∈pt,∀z∈pts,z<2 ^ 36) (hbW:Below w1.heap.size w1 W)
 (hR:W.heap[r]? = some (.cells #[sv,pv,.slice none 0 0] 141)) (hS:W.heap[s]? = some (.cells #[sv,.pointer (some ⟨r,0,none⟩),.int .i64 (fuel:Int),.slice none 0 0,.map (some mb),.slice none 0 0] 116))
 (hM:W.ownsMap Tryz.prog 136 (unitElem (H:=Unit)) mb 0 (setU [])):SkB W s r mb sv pv vs pt∧SkD W W s r mb sv pv (.slice none 0 0) (.slice none 0 0) (.slice none 0 0) [] [] ⟨[],fuel,[],[]⟩:=by
 refine⟨⟨(Array.getElem?_eq_some_iff.1 hR).1,(Array.getElem?_eq_some_iff.1 hS).1,hM.lt,fun w' hf=>?_⟩,⟨hR,hS,World.ownsRow_nil _ _ _ _,(fun z hz=>by cases hz),⟨World.ownsRow_nil _ _ _ _,(fun x hx=>by cases hx)⟩,rfl,hM,World.ownsRow_nil _ _ _ _,(fun x hx=>by cases hx),Fr.refl _ _⟩⟩
 have hb2:Below w.heap.size w w':=⟨hf.os.trans (hbW.os.trans hb1.os),hf.tape.trans (hbW.tape.trans hb1.tape),hf.output.trans (hbW.output.trans hb1.output),Nat.le_trans (Nat.le_trans hb1.size hbW.size) hf.size,fun k hk=>by
  have h1:=hb1.size;have h2:=hbW.size;exact (hf.block k (by omega) (by unfold XS;omega)).trans ((hbW.block k (by omega)).trans (hb1.block k hk))⟩
 refine⟨VArg.below hb2 hv,?_,hT.below hb2⟩;have hf1:Fr (fun k=>k=r∨k=mb∧mb<r) w1 w':=⟨hf.os.trans hbW.os,hf.tape.trans hbW.tape,hf.output.trans hbW.output,Nat.le_trans hbW.size hf.size,fun k hk hn=>by
  have h2:=hbW.size;exact (hf.block k (by omega) (by unfold XS;omega)).trans (hbW.block k hk)⟩
 exact (hp.fr hf1 (fun g hg=>by omega)).arg hl
def NewQ (m:Mod) (vs:Value) (fuel:Nat) (w W:World) (s:Nat):Prop:=∃r mb pv,SkB W s r mb vs pv m.vars (ptsM m)∧SkD W W s r mb vs pv (.slice none 0 0) (.slice none 0 0) (.slice none 0 0) [] [] ⟨[],fuel,[],[]⟩∧Below w.heap.size w W∧w.heap.size≤r∧w.heap.size≤s∧w.heap.size≤mb
theorem zPw (m:Mod) (hm:zAG m=0) (fuel:Nat) (vs cs:Value) (w:World) (hma:MArg w vs cs m) (hT:TabT w) :
 Calls Tryz.prog 65 #[modV vs cs m,.int .i64 (fuel:Int)] w fun e W=>∃s,e=.returned (.pointer (some ⟨s,0,none⟩))∧NewQ m vs fuel w W s:=by
 have HMA:Hid (∀w',Below w.heap.size w w'→MArg w' vs cs m):=fun w' h=>MArg.below h hma
 have HT:Hid (∀w',Below w.heap.size w w'→TabT w'):=fun w' h=>hT.below h
 have HLT:Hid (∀pts∈ptsM m,∀z∈pts,z<2 ^ 36):=zPu m hm;have HOF:Hid (∀Z,Below w.heap.size w Z→Calls Tryz.prog 82 #[modV vs cs m] Z fun e w'=>∃r pv,e=.returned (.pointer (some ⟨r,0,none⟩))∧w'.heap[r]? = some (.cells #[vs,pv,.slice none 0 0] 141)∧Z.heap.size≤r∧Below Z.heap.size Z w'∧PRow (r+1) w' pv (ptsM m)):=fun Z hZ =>
  (zPv m hm vs cs Z (HMA.out _ hZ) (HT.out _ hZ)).mono (by rintro e w' ⟨r,pv,h1,_,h3,h4,h5,h6⟩;exact⟨r,pv,h1,h3.blk,h4,h5,h6⟩)
 have HV:Hid (VArg w vs m.vars):=hma.1;obtain⟨⟨a1,c1,rfl,_,_⟩,⟨a2,c2,rfl,_,_⟩⟩:=hma;unfold modV at *;have hmm:=@run_makeMap Tryz.prog;clear hm hT;go_enter Tryz.func65,Tryz.ntmps65
 go_wp2_with fail
 have hbY:Below w.heap.size w (w.alloc (.cells #[.slice a1 m.vars.length c1,.slice a2 m.cons.length c2,.int .i64 m.goal,.int .i64 m.var] 25)):=zAA _ _;obtain⟨Y,hY⟩:∃Y,w.alloc (.cells #[.slice a1 m.vars.length c1,.slice a2 m.cons.length c2,.int .i64 m.goal,.int .i64 m.var] 25)=Y:=⟨_,rfl⟩;have d0:Y.cell? ⟨w.heap.size,0,none⟩=some (.slice a1 m.vars.length c1):=by rw[←hY];simp
 have d1:Y.cell? ⟨w.heap.size,1,none⟩=some (.slice a2 m.cons.length c2):=by rw[←hY];simp
 have d2:Y.cell? ⟨w.heap.size,2,none⟩=some (.int .i64 m.goal):=by rw[←hY];simp
 have d3:Y.cell? ⟨w.heap.size,3,none⟩=some (.int .i64 m.var):=by rw[←hY];simp
 have dl:w.heap.size<Y.heap.size:=by rw[←hY];simp
 rw[hY] at hbY ⊢;have HBY:Hid (Below w.heap.size w Y):=hbY;clear hY hbY;go_region_law
  (first
    | (rw[if_pos (by rfl)];go_simp;go_at_call 82;refine (HOF.out _ HBY.out.drew).mono ?_;rintro e w3 ⟨r,pv,rfl,hr3,hrr,hb3,hp3⟩;have hB3:Below Y.heap.size Y w3:=(Below.refl _ _).drew.trans hb3;have d0':=(hB3.cell (p:=⟨w.heap.size,0,none⟩) dl).trans d0;have dl':w.heap.size<w3.heap.size:=Nat.lt_of_lt_of_le dl hB3.size;dsimp only)
    | (rw[if_pos (by rfl)];go_simp;go_at_call 82;refine (HOF.out _ (HBY.out.drew.alloc HBY.out.size _)).mono ?_;rintro e w3 ⟨r,pv,rfl,hr3,hrr,hb3,hp3⟩;have hB4:Below Y.heap.size Y w3:=((Below.refl _ _).drew.alloc (Nat.le_refl _) _).trans (hb3.mono (by simp));have d0':=(hB4.cell (p:=⟨w.heap.size,0,none⟩) dl).trans d0;have dl':w.heap.size<w3.heap.size:=Nat.lt_of_lt_of_le dl hB4.size;dsimp only))
 all_goals
  first
   | (have HQ:Hid (NewQ m (.slice a1 m.vars.length c1) fuel w ((w3.alloc (.map #[] 0)).alloc (.cells #[.slice a1 m.vars.length c1,.pointer (some ⟨r,0,none⟩),.int .i64 (fuel:Int),.slice none 0 0,.map (some w3.heap.size),.slice none 0 0] 116)) (w3.heap.size+1)):=by
       have hbw:Below w.heap.size w w3:=HBY.out.trans (hB3.mono HBY.out.size);have hbW:Below w3.heap.size w3 ((w3.alloc (.map #[] 0)).alloc (.cells #[.slice a1 m.vars.length c1,.pointer (some ⟨r,0,none⟩),.int .i64 (fuel:Int),.slice none 0 0,.map (some w3.heap.size),.slice none 0 0] 116)):=(zAA _ _).alloc (by simp) _
       have hsz:=hbw.size;have hry:Y.heap.size≤r:=hrr;have hS:=heap_alloc_new (w3.alloc (.map #[] 0)) (.cells #[.slice a1 m.vars.length c1,.pointer (some ⟨r,0,none⟩),.int .i64 (fuel:Int),.slice none 0 0,.map (some w3.heap.size),.slice none 0 0] 116);rw[World.size_alloc] at hS;exact⟨r,w3.heap.size,pv,(zND HV.out (HT.out _ (Below.refl _ _)) hbw (by omega) (by omega) (by omega) (Or.inr (Nat.le_refl _)) hp3 HLT.out hbW ((hbW.block r (Array.getElem?_eq_some_iff.1 hr3).1).trans hr3) hS ((World.ownsMap_made _ _ _ _).alloc _)).1,(zND HV.out (HT.out _ (Below.refl _ _)) hbw (by omega) (by omega) (by omega) (Or.inr (Nat.le_refl _)) hp3 HLT.out hbW ((hbW.block r (Array.getElem?_eq_some_iff.1 hr3).1).trans hr3) hS ((World.ownsMap_made _ _ _ _).alloc _)).2,hbw.trans (hbW.mono hsz),by omega,by omega,by omega⟩
      go_wp2
      go_ret
      exact⟨_,rfl,HQ.out⟩)
   | (have HQ:Hid (NewQ m (.slice a1 m.vars.length c1) fuel w (w3.alloc (.cells #[.slice a1 m.vars.length c1,.pointer (some ⟨r,0,none⟩),.int .i64 (fuel:Int),.slice none 0 0,.map (some Y.heap.size),.slice none 0 0] 116)) w3.heap.size):=by
       have hbw:Below w.heap.size w w3:=HBY.out.trans (hB4.mono HBY.out.size);have hbW:Below w3.heap.size w3 (w3.alloc (.cells #[.slice a1 m.vars.length c1,.pointer (some ⟨r,0,none⟩),.int .i64 (fuel:Int),.slice none 0 0,.map (some Y.heap.size),.slice none 0 0] 116)):=zAA _ _;have hsz:=hbw.size;have hry:Y.heap.size+1≤r:=by simpa using hrr
       have hS:=heap_alloc_new w3 (.cells #[.slice a1 m.vars.length c1,.pointer (some ⟨r,0,none⟩),.int .i64 (fuel:Int),.slice none 0 0,.map (some Y.heap.size),.slice none 0 0] 116);have hmd:(Y.drew.alloc (.map #[] 0)).ownsMap Tryz.prog 136 (unitElem (H:=Unit)) Y.heap.size 0 (setU []):=World.ownsMap_made Y.drew _ _ _;have hM:=(zKt hmd hb3).alloc (.cells #[.slice a1 m.vars.length c1,.pointer (some ⟨r,0,none⟩),.int .i64 (fuel:Int),.slice none 0 0,.map (some Y.heap.size),.slice none 0 0] 116);exact⟨r,Y.heap.size,pv,(zND HV.out (HT.out _ (Below.refl _ _)) hbw (by omega) (by omega) (by omega) (Or.inl (by omega)) hp3 HLT.out hbW ((hbW.block r (Array.getElem?_eq_some_iff.1 hr3).1).trans hr3) hS hM).1,(zND HV.out (HT.out _ (Below.refl _ _)) hbw (by omega) (by omega) (by omega) (Or.inl (by omega)) hp3 HLT.out hbW ((hbW.block r (Array.getElem?_eq_some_iff.1 hr3).1).trans hr3) hS hM).2,hbw.trans (hbW.mono hsz),by omega,by omega,by omega⟩
      go_wp2
      go_ret
      exact⟨_,rfl,HQ.out⟩)
end Go.Proofs.YtndcpnlaadikoaaGreatDoor
