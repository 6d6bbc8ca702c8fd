/- What the proof leans on, part 11. -/
import Derived.Test.YtndcpnlaadikoaaGreatDoorPartAi
set_option maxRecDepth 100000
set_option maxHeartbeats 3200000
open Go.Proofs.Tryz
namespace Go.Proofs.YtndcpnlaadikoaaGreatDoor
open Go.RowKit
theorem aV (l:List Int):∀(lo hi:Int),l.Pairwise (·<·)->(∀n∈l,lo<=n/\n<=hi)->(l.length:Int)<=max 0 (hi - lo+1):=by
 induction l with
 | nil=>intro lo hi _ _;simp;omega
 | cons a r ih =>
   intro lo hi hp hb;have h1:=ih (a+1) hi (RU.1 hp).2 (λn hn=>by
    have:=(RU.1 hp).1 n hn;have:=hb n (Y2 _ hn);omega)
   have h2:=hb a (Zk ..);rw[Xe]
   push_cast
   omega
theorem aU (m:Mod) (s:Sto) (hm:Zs m=0) (hs:DQ m.vars s=0) (i:Nat) (r:List Int) (hr:s[i]? = some r):r.length<=6:=by
 obtain⟨h1,h2,h3⟩:=(xa _ _).1 hs;have hi:i<s.length:=(ZN.1 hr).1;obtain⟨v,hv⟩:∃v,m.vars[i]? = some v:=⟨m.vars[i]'(by omega),by simp⟩
 have Rr:=Il m hm i v hv;have VO:=(xb _ _ _).1 h2 i v r hv hr;have Dd:=W8.1 h3 r (Zz hr);have:=aV r v.lo v.hi ((pH r).1 Dd) (λn hn=>by
  have:=W8.1 VO n hn;simpa[xd] using this)
 omega
theorem Dc {w:World} {base:Nat} {v:Value} {r:List Int} (h:w.ownsRow base 3 1 v r.length (r.map (Value.int .i64))):IArg w v r:=by
 rcases h.2 with ⟨rfl,hn⟩ | ⟨g,cap,cur,rfl,hg,hh,X',Yb,_,_⟩
 ·have:r=[]:=Xf hn
  subst this;exact⟨none,0,rfl,⟨Z2 _,YI _⟩,λi z hz=>by simp at hz⟩
 refine⟨_,cap,rfl,⟨X',Yb⟩,λi z hz=>⟨g,0,rfl,(Z8.1 hh).1,?_⟩⟩
 have hi:i<r.length:=(ZN.1 hz).1;rw[Zn,h.cellAt i (by omega),YN,hz];rfl
theorem aT {w:World} {base base':Nat} {e:TypeId} {size:Nat} {v:Value} {n:Nat} {xs:List Value} (h:w.ownsRow base e size v n xs) (hb:base'<=base):w.ownsRow base' e size v n xs:=by
 refine⟨h.1,?_⟩;rcases h.2 with hn | ⟨g,cap,cur,hv,hg,r⟩
 ·exact .inl hn
 exact .inr ⟨g,cap,cur,hv,ZT hb hg,r⟩
theorem LT {w w':World} {base:Nat} {e:TypeId} {size:Nat} {v:Value} {n:Nat} {xs:List Value} (h:w.ownsRow base e size v n xs) (hk:∀g,v.ownBlock=some g->w'.heap[g]? = w.heap[g]?):w'.ownsRow base e size v n xs:=by
 refine⟨h.1,?_⟩;rcases h.2 with hn | ⟨g,cap,cur,hv,hg,hh,r⟩
 ·exact .inl hn
 exact .inr ⟨g,cap,cur,hv,hg,by rw[hk g (by rw[hv];rfl)];exact hh,r⟩
def Hm (w:World) (base B n:Nat) (cells:List Value) (M:Sto) (k:Nat):Prop :=
 w.ownsRow base 42 1 (.slice (some ⟨B,0,none⟩) n n) n cells /\
 (∀i r,i<k->M[i]? = some r->∃x,cells[i]? = some x/\w.ownsRow (B+1) 3 1 x r.length (r.map (Value.int .i64))) /\
 (∀i,k<=i->i<n->cells[i]? = some (.slice none 0 0))
def Jm (w:World) (base B n:Nat) (cells:List Value) (M:Sto) (k K:Nat) (acc:List Int):Prop :=
 w.ownsRow base 42 1 (.slice (some ⟨B,0,none⟩) n n) n cells /\
 (∀i r,i<k->M[i]? = some r->∃x,cells[i]? = some x/\w.ownsRow (B+1) 3 1 x r.length (r.map (Value.int .i64))/\∀g,x.ownBlock=some g->g<K) /\
 (∃x,cells[k]? = some x/\w.ownsRow K 3 1 x acc.length (acc.map (Value.int .i64))) /\
 (∀i,k<i->i<n->cells[i]? = some (.slice none 0 0))/\B<K/\K<=w.heap.size/\k<n
theorem Jm.done {w:World} {base B n:Nat} {cells:List Value} {M:Sto} {k K:Nat} {acc:List Int} (h:Jm w base B n cells M k K acc) (hM:M[k]? = some acc):Hm w base B n cells M (k+1):=by
 obtain⟨h1,h2,⟨x,hx,ho⟩,h4,h5,_,_⟩:=h;refine⟨h1,λi r hi hr=>?_,λi hi hn=>h4 i (by omega) hn⟩
 by_cases ET:i<k
 ·obtain⟨y,hy,M8,_⟩:=h2 i r ET hr
  exact⟨y,hy,M8⟩
 obtain rfl:i=k:=by omega
 rw[hM] at hr;cases hr;exact⟨x,hx,aT ho (by omega)⟩
theorem Jm.kept {w w':World} {base B n:Nat} {cells:List Value} {M:Sto} {k K:Nat} {acc:List Int} (h:Jm w base B n cells M k K acc) (hb:Bw w w'):Jm w' base B n cells M k K acc:=by
 obtain⟨h1,h2,⟨x,hx,ho⟩,h4,h5,h6,h7⟩:=h;refine⟨YZ h1 hb,λi r hi hr=>?_,⟨x,hx,YZ ho hb⟩,h4,h5,ZT h6 hb.size,h7⟩
 obtain⟨y,hy,M8,hg⟩:=h2 i r hi hr;exact⟨y,hy,YZ M8 hb,hg⟩
theorem Hm.kept {w w':World} {base B n:Nat} {cells:List Value} {M:Sto} {k:Nat} (h:Hm w base B n cells M k) (hb:Bw w w'):Hm w' base B n cells M k:=by
 obtain⟨h1,h2,h3⟩:=h;refine⟨YZ h1 hb,λi r hi hr=>?_,h3⟩
 obtain⟨y,hy,M8⟩:=h2 i r hi hr;exact⟨y,hy,YZ M8 hb⟩
theorem Jm.push {w w3:World} {base B n:Nat} {cells:List Value} {M:Sto} {k K:Nat} {acc:List Int} {x v3:Value} {z:Int} (h:Jm w base B n cells M k K acc) (hx:cells[k]? = some x)
 (ho:w3.ownsRow K 3 1 v3 (acc++[z]).length ((acc++[z]).map (Value.int .i64))) (hg:w.grownBy w3 x.ownBlock) :
 Jm (w3.setCell ⟨B,k,none⟩ v3) base B n (cells.set k v3) M k K (acc++[z]):=by
 obtain⟨h1,h2,⟨y,hy,M8⟩,h4,h5,h6,h7⟩:=h;rw[hx] at hy;cases hy;have zU:∀g,x.ownBlock=some g->K<=g:=λg hg=>(M8.lt g hg).1
 have hB:B<w.heap.size:=(h1.lt B rfl).2;have ZP:some B≠x.ownBlock:=λh=>by have:=zU B h.symm;omega
 have vu:w3.ownsRow base 42 1 (.slice (some ⟨B,0,none⟩) n n) n cells:=h1.kept hg (Or.inr ZP);have Zr:cells.length=n:=by have:=h1.1;omega
 refine⟨(vu.stored k v3).1,λi r hi hr=>?_,⟨v3,by rw[Uu (by omega)],?_⟩,λi hi hn=>by rw[WE (by omega)];exact h4 i hi hn,h5,?_,h7⟩
 ·obtain⟨y,hy,M7,nU⟩:=h2 i r hi hr
  refine⟨y,by rw[WE (by omega)];exact hy,?_,nU⟩
  have vt:w3.ownsRow (B+1) 3 1 y r.length (r.map (Value.int .i64)):=by
   refine M7.kept hg ?_;cases Nn:y.ownBlock with
   | none=>exact Or.inl rfl
   | some g =>
     refine Or.inr λhe=>?_
     have:=zU g he.symm;have:=nU g Nn;omega
  refine LT vt λg hg2=>Below.heap_setCell _ _ _ _ ?_
  have:=(M7.lt g hg2).1;simp only;omega
 ·refine LT ho λg hg2=>Below.heap_setCell _ _ _ _ ?_
  have:=(ho.lt g hg2).1;simp only;omega
 have:=hg.size;simp;omega
theorem Hm.rarg {w:World} {base B n:Nat} {cells:List Value} {M:Sto} (h:Hm w base B n cells M n) (hM:M.length=n):RArg w (.slice (some ⟨B,0,none⟩) n n) M:=by
 obtain⟨h1,h2,_⟩:=h;have hB:B<w.heap.size:=(h1.lt B rfl).2;have SF:n<=maxLen:=by
  rcases h1.2 with ⟨h',_⟩ | ⟨g,cap,cur,h',_,_,X',Yb,_⟩
  ·cases h'
  exact ZT X' Yb
 refine⟨_,n,by rw[hM],⟨by omega,SF⟩,λi r hr=>?_⟩
 have hi:i<n:=by rw[<-hM];exact (ZN.1 hr).1
 obtain⟨x,hx,ho⟩:=h2 i r hi hr;exact⟨B,0,x,rfl,hB,by rw[Zn,h1.cellAt i (by omega)];exact hx,Dc ho⟩
def Old (N:Nat) (w:World) (P:World->Prop):Prop:=∃w0:World,w0.heap.size<=N/\P w0/\Bw w0 w
theorem Old.below {N:Nat} {w w':World} {P:World->Prop} (h:Old N w P) (hb:Below N w w'):Old N w' P:=by
 obtain⟨w0,h1,h2,h3⟩:=h;exact⟨w0,h1,h2,h3.trans (hb.mono h1)⟩
theorem aS (vals:List Int) (k:Nat) (x:Int) (h:∀y∈vals,-50<=y/\y<=50) (hx:-50<=x/\x<=50):∀y∈vals.set k x,-50<=y/\y<=50:=by
 intro y hy;rcases List.mem_or_eq_of_mem_set hy with h1 | h1
 ·exact h y h1
 rw[h1];exact hx
def zT (N bs bm bc:Nat):Array Value:=#[.pointer (some ⟨bs,0,none⟩),.pointer (some ⟨bm,0,none⟩),.pointer (some ⟨bc,0,none⟩),.pointer (some ⟨N+1,0,none⟩),.pointer (some ⟨N+2,0,none⟩),.pointer (some ⟨N+3,0,none⟩)]
def u64s (l:List Nat):List Value:=l.map λ(z:Nat)=>Value.int .u64 (z:Int)
def PtsS (N bs bm bc:Nat) (m:Mod) (con:Nat) (vs cs sv:Value) (scope vals:List Int) (out:List Nat) (w:World):Prop :=
 N+4<=w.heap.size /\
 Old N w (λu=>MArg u vs cs m/\IArg u sv scope/\u.cell? ⟨bs,0,none⟩=some sv/\u.cell? ⟨bm,0,none⟩=some vs/\u.cell? ⟨bm,1,none⟩=some cs/\u.cell? ⟨bc,0,none⟩=some (.int .i64 con)) /\
 w.ownsRow N 3 1 (.slice (some ⟨N,0,none⟩) vals.length vals.length) vals.length (vals.map (Value.int .i64)) /\
 w.cell? ⟨N+1,0,none⟩=some (.slice (some ⟨N,0,none⟩) vals.length vals.length) /\
 w.cell? ⟨N+3,0,none⟩=some (.func (.func 196) #[] (zT N bs bm bc)) /\
 ∃ov,w.ownsRow N 139 1 (.slice (some ⟨N+2,0,none⟩) 1 1) 1 [ov]/\w.ownsRow (N+4) 136 1 ov out.length (u64s out)
section
variable {N bs bm bc con:Nat} {m:Mod} {vs cs sv:Value} {scope vals:List Int} {out:List Nat} {w w':World}
theorem PtsS.below (h:PtsS N bs bm bc m con vs cs sv scope vals out w) (hb:Bw w w'):PtsS N bs bm bc m con vs cs sv scope vals out w':=by
 obtain⟨h1,h2,h3,h4,h5,ov,h6,h7⟩:=h;exact⟨ZT h1 hb.size,h2.below (hb.mono (by omega)),YZ h3 hb,(hb.cell (p:=⟨N+1,0,none⟩) (by simp only;omega)).trans h4,(hb.cell (p:=⟨N+3,0,none⟩) (by simp only;omega)).trans h5,ov,YZ h6 hb,YZ h7 hb⟩
theorem PtsS.old (h:PtsS N bs bm bc m con vs cs sv scope vals out w):MArg w vs cs m/\IArg w sv scope/\w.cell? ⟨bs,0,none⟩=some sv/\w.cell? ⟨bm,0,none⟩=some vs/\w.cell? ⟨bm,1,none⟩=some cs/\w.cell? ⟨bc,0,none⟩=some (.int .i64 con) /\
 (bs<w.heap.size/\bm<w.heap.size/\bc<w.heap.size):=by
 obtain⟨_,⟨w0,g0,⟨g1,g2,g3,g4,g5,g6⟩,gb⟩,_⟩:=h;have l1:=World.block_lt_of_cell? w0 _ g3;have l2:=World.block_lt_of_cell? w0 _ g4;have l3:=World.block_lt_of_cell? w0 _ g6;have hs:=gb.size;simp only at l1 l2 l3;exact⟨MArg.below gb g1,IArg.below gb g2,(gb.cell (p:=⟨bs,0,none⟩) l1).trans g3,(gb.cell (p:=⟨bm,0,none⟩) l2).trans g4,(gb.cell (p:=⟨bm,1,none⟩) l2).trans g5,(gb.cell (p:=⟨bc,0,none⟩) l3).trans g6,by omega,by omega,by omega⟩
theorem PtsS.vals_arg (h:PtsS N bs bm bc m con vs cs sv scope vals out w):IArg w (.slice (some ⟨N,0,none⟩) vals.length vals.length) vals:=JA h.2.2.1
theorem PtsS.set (h:PtsS N bs bm bc m con vs cs sv scope vals out w) (k:Nat) (x:Int) :
 PtsS N bs bm bc m con vs cs sv scope (vals.set k x) out (w.setCell ⟨N,k,none⟩ (.int .i64 x))/\Below N w (w.setCell ⟨N,k,none⟩ (.int .i64 x)):=by
 obtain⟨h1,h2,h3,h4,h5,ov,h6,h7⟩:=h;have hb:Below N w (w.setCell ⟨N,k,none⟩ (.int .i64 x)):=(Z6 _ _).setCell (show N<=N from Z2 N) _
 have hk:∀g,g≠N->(w.setCell ⟨N,k,none⟩ (.int .i64 x)).heap[g]? = w.heap[g]? := λg hg=>Below.heap_setCell _ _ _ _ (λh=>hg h)
 refine⟨⟨by have:=hb.size;omega,h2.below hb,?_,?_,(WD (hk _ (by simp only;omega))).trans h5,ov,LT h6 λg hg=>?_,LT h7 λg hg=>?_⟩,hb⟩
 ·rw[Nu,List.map_set]
  exact (h3.stored k (.int .i64 x)).1
 ·rw[Nu]
  exact (WD (hk _ (by simp only;omega))).trans h4
 ·have zS:g=N+2:=by injection hg with e;exact e.symm
  exact hk g (by omega)
 have:=(h7.lt g hg).1;exact hk _ (by omega)
theorem PtsS.put {z:Nat} {v3 ov:Value} {w2:World} (h:PtsS N bs bm bc m con vs cs sv scope vals out w) (ho:w.ownsRow N 139 1 (.slice (some ⟨N+2,0,none⟩) 1 1) 1 [ov]) (hr:w.ownsRow (N+4) 136 1 ov out.length (u64s out))
 (hw:w2.ownsRow (N+4) 136 1 v3 (out++[z]).length (u64s (out++[z]))) (hg:w.grownBy w2 ov.ownBlock) :
 PtsS N bs bm bc m con vs cs sv scope vals (out++[z]) (w2.setCell ⟨N+2,0,none⟩ v3)/\Below N w (w2.setCell ⟨N+2,0,none⟩ v3):=by
 obtain⟨h1,h2,h3,h4,h5,_⟩:=h;have vq:∀g,ov.ownBlock=some g->N+4<=g:=λg hg=>(hr.lt g hg).1
 have Z5:Below N w w2:=(Z6 _ _).grown hg (by omega) (λk hk=>by have:=vq k hk;omega)
 have hb:Below N w (w2.setCell ⟨N+2,0,none⟩ v3):=Z5.setCell (by simp only;omega) _
 have hk:∀g,g<N+4->g≠N+2->(w2.setCell ⟨N+2,0,none⟩ v3).heap[g]? = w.heap[g]? := λg Jl zS =>
  (Below.heap_setCell _ _ _ _ (λh=>zS h)).trans (hg.block g (by omega) (λhe=>by have:=vq g he.symm;omega))
 refine⟨⟨by have:=hg.size;simp;omega,h2.below hb,LT h3 λg Db=>?_,(WD (hk _ (by simp only;omega) (by simp only;omega))).trans h4,(WD (hk _ (by simp only;omega) (by simp only;omega))).trans h5,v3,?_,LT hw λg Db=>?_⟩,hb⟩
 ·have zS:g=N:=by injection Db with e;exact e.symm
  exact hk g (by omega) (by omega)
 ·have h6:w2.ownsRow N 139 1 (.slice (some ⟨N+2,0,none⟩) 1 1) 1 [ov]:=ho.kept hg (Or.inr λhe=>by have:=vq (N+2) he.symm;omega)
  exact (h6.stored 0 v3).1
 have:=(hw.lt g Db).1;exact Below.heap_setCell _ _ _ _ (λh=>by simp only at h;omega)
end
theorem nT (vs:List MVar) (c:MCon):∀(r a b:List Int) (q:Nat),UQ r a b->VP vs c r a q=VP vs c r b q
 | [],a,b,q,h=>by
   unfold VP;rw[show a=b from RS λw=>h.2 w (λv hv=>by cases hv)]
 | v :: r,a,b,q,h=>by
   unfold VP
   congr 1
   funext x
   exact nT vs c r _ _ _ (h.set x)
theorem nS (vs:List MVar) (hv:XU vs) (c:MCon):∀(r vals:List Int) (q:Nat),(VP vs c r vals q).length<=6 ^ r.length
 | [],vals,q=>by
   unfold VP
   split <;> simp
 | v :: r,vals,q=>by
   unfold VP;have hs:(Qj (ZF vs v.toNat).lo (ZF vs v.toNat).hi).length<=6:=by
    have:=hv.2 v.toNat;unfold WN at this;unfold Qj;simp only[YU,List.length_range];exact this
   have key:∀l:List Int,(l.flatMap λx=>VP vs c r (vals.set v.toNat x) (q ||| 2 ^ (6 * v.toNat+(x - (ZF vs v.toNat).lo).toNat))).length<=l.length * 6 ^ r.length:=by
    intro l
    induction l with
    | nil=>simp
    | cons a l ih =>
      rw[Qw,ZC,Xe];have:=nS vs hv c r (vals.set v.toNat a) (q ||| 2 ^ (6 * v.toNat+(a - (ZF vs v.toNat).lo).toNat))
      rw[W5];omega
   have h1:=key (Qj (ZF vs v.toNat).lo (ZF vs v.toNat).hi);have h2:(Qj (ZF vs v.toNat).lo (ZF vs v.toNat).hi).length * 6 ^ r.length<=6 * 6 ^ r.length:=O4 _ hs;rw[Xe,Nat.pow_succ];omega
def ptsN (vs:List MVar) (c:MCon) (v:Nat) (r vals:List Int) (a:Nat) (lo:Int) (j:Nat):List Nat :=
 (List.range j).flatMap λ(i:Nat)=>VP vs c r (vals.set v (lo+(i:Int))) (a ||| 2 ^ (6 * v+i))
theorem nR (vs:List MVar) (c:MCon) (v:Nat) (r vals:List Int) (a:Nat) (lo:Int) (j:Nat):ptsN vs c v r vals a lo (j+1)=ptsN vs c v r vals a lo j++VP vs c r (vals.set v (lo+(j:Int))) (a ||| 2 ^ (6 * v+j)):=by
 unfold ptsN;rw[List.range_succ,RW];simp
theorem aR (vs:List MVar) (c:MCon) (v:Nat) (r vals:List Int) (a:Nat):ptsN vs c v r vals a (ZF vs v).lo (WN (ZF vs v))=VP vs c ((v:Int) :: r) vals a:=by
 conv=>rhs;unfold VP
 unfold ptsN Qj WN;rw[List.flatMap_map,YK]
 congr 1
 funext i
 rw[show ((ZF vs v).lo+(i:Int) - (ZF vs v).lo).toNat=i by omega]
theorem nQ (vs:List MVar) (hv:XU vs) (c:MCon) (v:Nat) (r vals:List Int) (a:Nat) (lo:Int):∀j,(ptsN vs c v r vals a lo j).length<=j * 6 ^ r.length
 | 0=>by simp[ptsN]
 | j+1=>by
   rw[nR,ZC,W5];have h1:=nQ vs hv c v r vals a lo j;have h2:=nS vs hv c r (vals.set v (lo+(j:Int))) (a ||| 2 ^ (6 * v+j))
   omega
theorem nP (vs:List MVar) (hv:Vb vs) (c:MCon):∀(r vals:List Int) (a:Nat),(∀v∈r,0<=v/\v<(vs.length:Int))->a<2 ^ 36->∀p∈VP vs c r vals a,p<2 ^ 36
 | [],vals,a,_,ha,p,hp=>by
   unfold VP at hp
   split at hp
   ·rw[Zh.1 hp];exact ha
   cases hp
 | v :: r,vals,a,hr,ha,p,hp=>by
   unfold VP at hp;obtain⟨x,hx,hp⟩:=UV.1 hp;obtain⟨h1,h2⟩:=(Hz _ _ _).1 hx;have OK:=hr v (Zk ..);refine nP vs hv c r _ _ (λy hy=>hr y (Y2 _ hy)) (Dn ha (vO vs hv v.toNat _ (by omega) ?_)) p hp
   unfold WN;omega
theorem aQ:(prog.info? 42).map (λi=>(i.zero,i.size,i.bytes))=some (some (.slice none 0 0),1,24):=by kernel_rfl
theorem Hl:(prog.info? 3).map (λi=>(i.zero,i.size,i.bytes))=some (some (.int .i64 0),1,8):=by kernel_rfl
theorem aP:prog.underlying 153=some (.slice 42):=by kernel_rfl
theorem aO (n:Nat) (hn:n<=6) (w:World):∃w',Sem.run prog (Instr.makeSlice 153 (.int .i64 (n:Int)) (.int .i64 (n:Int))) w=.ok (.slice (some ⟨w.heap.size,0,none⟩) n n) w' /\
 (∀M,Hm w' w.heap.size w.heap.size n (List.replicate n (.slice none 0 0)) M 0)/\Bw w w':=by
 obtain⟨i0,hi,Ze,Y_,Zb⟩:=info_parts aQ;obtain⟨w',XW,Z9,hg⟩:=run_makeSlice_full w w.heap.size 153 42 i0 (.slice none 0 0) 1 aP hi Ze Y_ .i64 .i64 n (by omega) (by rw[Zb];omega) (by unfold maxLen;omega) (Z2 _)
 refine⟨w',XW,λM=>⟨?_,λi r hi=>absurd hi (Nat.not_lt_zero _),λi _ hn=>by simp[hn]⟩,(Z6 _ _).grown hg (Z2 _) (λk h=>by cases h)⟩
 have:(Value.slice none 0 0).cells=#[.slice none 0 0]:=rfl;rw[this,Nat.mul_one,toList_madeCells_one] at Z9;exact Z9
theorem Jk (w:World) (z:Int):∀(j:Nat) (u:Value),[Value.int .i64 z][j]? = some u->(w.alloc (.cells #[.int .i64 z] 3)).cell? ((⟨w.heap.size,0,none⟩:Addr).add j)=some u:=by
 intro j u hj
 match j,hj with
 | 0,hj=>simp at hj;subst hj;simp[Addr.add]
theorem Da:(prog.info? 136).map (λi=>(i.zero,i.size,i.bytes))=some (some (.int .u64 0),1,8):=by kernel_rfl
theorem aN:prog.underlying 139=some (.slice 136):=by kernel_rfl
theorem nO (w:World) (z:Nat):∀(j:Nat) (u:Value),[Value.int .u64 (z:Int)][j]? = some u->(w.alloc (.cells #[.int .u64 (z:Int)] 136)).cell? ((⟨w.heap.size,0,none⟩:Addr).add j)=some u:=by
 intro j u hj
 match j,hj with
 | 0,hj=>simp at hj;subst hj;simp[Addr.add]
theorem aM (N bs bm bc:Nat) (m:Mod) (con:Nat) (c:MCon) (vs cs sv:Value) (scope vals:List Int) (a:Nat) (out:List Nat) (w:World)
 (hc:m.cons[con]? = some c) (KN:conE vals.length c=0) (OJ:∀x∈vals,-50<=x/\x<=50) (SC:out.length<=10000000)
 (hT:PtsS N bs bm bc m con vs cs sv scope vals out w) :
 Calls prog 196 #[.int .i64 (scope.length:Int),.int .u64 (a:Int),.pointer (some ⟨bs,0,none⟩),.pointer (some ⟨bm,0,none⟩),.pointer (some ⟨bc,0,none⟩),.pointer (some ⟨N+1,0,none⟩),.pointer (some ⟨N+2,0,none⟩),.pointer (some ⟨N+3,0,none⟩)] w λe w'=>e=.returned (.tuple #[]) /\
  PtsS N bs bm bc m con vs cs sv scope vals (out++if YL c vals then [a] else []) w'/\Below N w w':=by
 obtain⟨Y8,vp,d0,d1,d2,d3,l0,l1,l2⟩:=hT.old;obtain⟨⟨av,cv,rfl,_,_⟩,⟨ac,cc,Wx,vo,Tb⟩⟩:=Y8;subst Wx;obtain⟨asv,csv,R',Hk,_⟩:=vp;subst R';obtain⟨bb,off,vv,vc,vr,vl,Wv,Nc,c0,c1,c2,c3,c4,c5,hK⟩:=Tb con c hc;subst Wv;have HK:Hid (∀w':World,Bw w w'->KArg w' vv vc vr vl c):=λw' h=>KArg.below h hK
 have Ww:Hid (∀w':World,Bw w w'->IArg w' (.slice (some ⟨N,0,none⟩) vals.length vals.length) vals):=λw' h=>IArg.below h hT.vals_arg
 obtain⟨⟨q1,r1,h1,_,_⟩,⟨q2,r2,h2,_,_⟩,⟨q3,r3,h3,_,_⟩,⟨q4,r4,h4,_,_⟩⟩:=hK;subst h1;subst h2;subst h3;subst h4;have VY:con<m.cons.length:=(ZN.1 hc).1;have d4:=hT.2.2.2.1;have l4:N+1<w.heap.size:=by have:=hT.1;omega
 have vm:Hid (N<=w.heap.size):=by have:=hT.1;exact (by omega:N<=w.heap.size)
 have HT:=hI hT;have SB:=hI OJ;have S5:=hI KN;unfold maxLen at vo Hk;obtain⟨aL,vo⟩:=vo;obtain⟨vk,Hk⟩:=Hk;obtain⟨i0,hi,Ze,Y_,Zb⟩:=info_parts Da;obtain⟨O,hO⟩:∃O,(out++if YL c vals then [a] else [])=O:=⟨_,rfl⟩
 have HO:=hI hO
 rw[hO];clear hT OJ KN Tb hc hO;go_enter func196,ntmps196
 go_wp2_with fail
 go_region_held3 (λw'=>Bw w w'/\w'.cell? ⟨bm,1,none⟩=some (.slice (some ⟨bb,off,none⟩) m.cons.length cc)/\w'.cell? ⟨bc,0,none⟩=some (.int .i64 con)/\w'.cell? ⟨bb,off+con * 6,none⟩=some (.int .i64 c.kind)/\w'.cell? ⟨bb,off+con * 6+1,none⟩=some (.slice q1 c.vars.length r1)/\w'.cell? ⟨bb,off+con * 6+2,none⟩=some (.slice q2 c.consts.length r2)/\w'.cell? ⟨bb,off+con * 6+3,none⟩=some (.int .i64 c.n)/\w'.cell? ⟨bb,off+con * 6+4,none⟩=some (.slice q3 c.rows.length r3)/\w'.cell? ⟨bb,off+con * 6+5,none⟩=some (.slice q4 c.lits.length r4)/\w'.cell? ⟨N+1,0,none⟩=some (.slice (some ⟨N,0,none⟩) vals.length vals.length))
  ((refine (λ(hB:Bw w _)=>⟨hB,(hB.cell (p:=⟨bm,1,none⟩) l1).trans d2,(hB.cell (p:=⟨bc,0,none⟩) l2).trans d3,(hB.cell (p:=⟨bb,off+con * 6,none⟩) Nc).trans c0,(hB.cell (p:=⟨bb,off+con * 6+1,none⟩) Nc).trans c1,(hB.cell (p:=⟨bb,off+con * 6+2,none⟩) Nc).trans c2,(hB.cell (p:=⟨bb,off+con * 6+3,none⟩) Nc).trans c3,(hB.cell (p:=⟨bb,off+con * 6+4,none⟩) Nc).trans c4,(hB.cell (p:=⟨bb,off+con * 6+5,none⟩) Nc).trans c5,(hB.cell (p:=⟨N+1,0,none⟩) l4).trans d4⟩:Bw w _->_) ?_;first | exact (Z6 _ _).drew | exact Yu))
  (first
    | (go_at_call 98;refine (wO c vals _ _ _ _ _ _ (HK.o _ (Z6 _ _).drew) (Ww.o _ (Z6 _ _).drew) S5.o SB.o).mono ?_;rintro e w1 ⟨rfl,LS⟩;have Yu:Bw w w1:=⟨LS.os,LS.tape,LS.output,LS.size,LS.block⟩))
 have Hj:=hI (HT.o.below Yu);have nN:Below N w w1:=Yu.mono vm.o;clear LS Yu c0 c1 c2 c3 c4 c5 d0 d1 d2 d3 d4 l0 l1 l2 l4 Nc;cases hq:YL c vals
 ·have HE:Hid (out=O):=by show _=_;have:=HO.o;rw[hq] at this;simpa using this
  clear hq;go_wp2
  (try simp only[Exit.inBlock,Exit.then])
  refine bodyPost_ret (results_none rfl _ _ _) rfl ?_;refine⟨rfl,?_,nN⟩;rw[<-HE.o];exact Hj.o
 have HE:Hid (out++[a]=O):=by show _=_;have:=HO.o;rw[hq] at this;simpa using this
 clear hq;obtain⟨Y',_,_,_,_,ov,ho,hr⟩:=Hj.o;obtain⟨ax,cx,rfl⟩:=ZJ hr;have LR:w1.cell? ⟨N+2,0,none⟩=some (.slice ax out.length cx):=ho.cellAt 0 (by omega)
 have YM:N+2<w1.heap.size:=by omega
 go_wp2_with (at_builtin;refine wpList_append_own _ rfl _ _ 139 rfl (N+4) 136 i0 (.int .u64 0) 1 8 underlying139 hi Ze Y_ Zb rfl (by decide) _ _ _ rfl (hr.alloc _) ⟨w1.heap.size,0,none⟩ 1 1 [.int .u64 (a:Int)] rfl rfl ?c1 ?c2 ?c3 ?c4 ?c5 ?_)
 case c1=>exact nO w1 a
 case c2=>intro u hu;rcases Zh.1 hu with rfl;rfl
 case c3=>unfold maxLen;omega
 case c4=>omega
 case c5=>simp;omega
 intro v3 w3 ZX Z1 _;have Zw:w3.ownsRow (N+4) 136 1 v3 (out++[a]).length (u64s (out++[a])):=by
  unfold u64s;rw[ZC,YY];exact ZX
 have SA:=(Hj.o.below (Z4 _ _)).put (ho.alloc _) (hr.alloc _) Zw Z1;have HP:=hI SA.1;have Yp:Hid (Below N w (w3.setCell ⟨N+2,0,none⟩ v3)):=nN.trans (((Z6 _ _).alloc (by omega) _).trans SA.2)
 have LQ:w3.ownsRow N 139 1 (.slice (some ⟨N+2,0,none⟩) 1 1) 1 [.slice ax out.length cx]:=(ho.alloc _).kept Z1 (Or.inr (λh=>by have:=(hr.lt (N+2) h.symm).1;omega))
 have nM:w3.cell? ⟨N+2,0,none⟩=some (.slice ax out.length cx):=LQ.cellAt 0 (by omega)
 have nL:w3.frozen? ⟨N+2,0,none⟩=false:=LQ.frozenAt 0;obtain⟨av',cv',rfl⟩:=ZJ Zw;rw[show (out++[a]).length=out.length+1 by simp] at HP Yp
 clear ZX Z1 Zw hr ho LR LQ SA;go_wp2
 (try simp only[Exit.inBlock,Exit.then])
 refine bodyPost_ret (results_none rfl _ _ _) rfl ?_;exact⟨rfl,by rw[<-HE.o];exact HP.o,Yp.o⟩
theorem aK {w:World} {b off c n:Nat} {l:List MVar} (h:VArg w (.slice (some ⟨b,off,none⟩) n c) l) (j:Nat) (hj:j<l.length) :
 b<w.heap.size/\w.cell? ⟨b,off+j * 3+1,none⟩=some (.int .i64 (ZF l j).lo)/\w.cell? ⟨b,off+j * 3+2,none⟩=some (.int .i64 (ZF l j).hi):=by
 obtain⟨a,c',hv,_,hr⟩:=h;obtain⟨_,b',off',ha,hb,_,c1,c2⟩:=hr j _ (E1 hj)
 injection hv with e1 _ _
 rw[ha] at e1;cases e1
 exact⟨hb,c1,c2⟩
theorem aJ (N bs bm bc:Nat) (m:Mod) (con:Nat) (c:MCon) (vs cs sv:Value) (scope:List Int) (hm:Zs m=0) (hc:m.cons[con]? = some c) (XV:∀v∈scope,0<=v/\v<(m.vars.length:Int)) (hs8:scope.length<=8) :
 ∀(rest:List Int) (k:Nat) (vals:List Int) (a:Nat) (out:List Nat) (w:World),scope.drop k=rest->k<=scope.length->vals.length=m.vars.length->(∀x∈vals,-50<=x/\x<=50)->a<2 ^ 36->out.length+6 ^ rest.length<=10000000 ->
  PtsS N bs bm bc m con vs cs sv scope vals out w ->
  Calls prog 196 #[.int .i64 k,.int .u64 a,.pointer (some ⟨bs,0,none⟩),.pointer (some ⟨bm,0,none⟩),.pointer (some ⟨bc,0,none⟩),.pointer (some ⟨N+1,0,none⟩),.pointer (some ⟨N+2,0,none⟩),.pointer (some ⟨N+3,0,none⟩)] w λe w'=>e=.returned (.tuple #[]) /\
   ∃vals',PtsS N bs bm bc m con vs cs sv scope vals' (out++VP m.vars c rest vals a) w'/\vals'.length=m.vars.length/\(∀x∈vals',-50<=x/\x<=50)/\UQ rest vals vals'/\Below N w w':=by
 have TY:=hI XV;have Ww:Hid (Vb m.vars):=LZ m hm;have S5:Hid (conE m.vars.length c=0):=Ik m hm con c hc;have HC:=hI hc;clear XV hm hc;intro rest
 induction rest with
 | nil =>
   intro k vals a out w ES hk X8 OJ ha SC hT;have PG:k=scope.length:=by
    have:=congrArg List.length ES;simp at this;omega
   subst PG;refine (aM N bs bm bc m con c vs cs sv scope vals a out w HC.o (by rw[X8];exact S5.o) OJ (by simp at SC;omega) hT).mono ?_
   rintro e w' ⟨rfl,h1,h2⟩;exact⟨rfl,vals,h1,X8,OJ,UQ.refl _ _,h2⟩
 | cons v rest ih =>
   intro k vals a out w ES hk X8 OJ ha SC hT;have TM:k<scope.length:=by
    have:=congrArg List.length ES;simp at this;omega
   have Hi:scope[k]? = some v:=by
    have h:=congrArg (λq:List Int=>q[0]?) ES
    simpa using h
   have C_:scope.drop (k+1)=rest:=by
    have h:=congrArg List.tail ES;simpa using h
   obtain⟨Lj,hv1⟩:=TY.o v (Zz Hi);obtain⟨j,rfl⟩:∃j:Nat,v=(j:Int):=⟨v.toNat,by omega⟩
   have Mc:j<m.vars.length:=by omega
   obtain⟨Y8,vp,d0,d1,_,_,_,_,_⟩:=hT.old;obtain⟨⟨av,cv,U1,KW,nK⟩,_⟩:=Y8;obtain⟨_,b,off,zR,zQ,_,f1,f2⟩:=nK j _ (E1 Mc);subst zR;subst U1;obtain⟨asv,csv,R',Hk,M6⟩:=vp;obtain⟨b2,o2,has,ZY,e0⟩:=M6 k _ Hi;subst has;subst R';unfold maxLen at Hk KW;obtain⟨vk,Hk⟩:=Hk;obtain⟨aI,KW⟩:=KW;obtain⟨lo,YM⟩:∃lo,(ZF m.vars j).lo=lo:=⟨_,rfl⟩;obtain⟨hi,Wc⟩:∃hi,(ZF m.vars j).hi=hi:=⟨_,rfl⟩;obtain⟨n,hn⟩:∃n,WN (ZF m.vars j)=n:=⟨_,rfl⟩;have WP:=hI YM;have OZ:=hI Wc;have Ug:=Ww.o.2 j Mc;have vN:n<=6:=by rw[<-hn];exact Ww.o.1.2 j
   have Nh:(n:Int)=hi+1 - lo:=by rw[<-hn,<-YM,<-Wc];unfold WN;omega
   rw[YM] at f1 Ug;rw[Wc] at f2 Ug;have H6:=hI Ww.o.1.1;have HT:=hI hT;have SB:=hI OJ;have Hh:=hI X8;have HA:=hI ha;have Hg:Hid (ptsN m.vars c j rest vals a lo n=VP m.vars c ((j:Int) :: rest) vals a):=by show _=_;rw[<-YM,<-hn];exact aR m.vars c j rest vals a
   obtain⟨X,hX⟩:∃X,6 ^ rest.length=X:=⟨_,rfl⟩;have nJ:out.length+6 * X<=10000000:=by
    rw[Xe,Nat.pow_succ] at SC;omega
   have vj:Hid (∀jj,(ptsN m.vars c j rest vals a lo jj).length<=jj * X):=λjj=>by rw[<-hX];exact nQ m.vars Ww.o.1 c j rest vals a lo jj
   have aH:Hid (∀(vals:List Int) (a:Nat) (out:List Nat) (w:World),vals.length=m.vars.length->(∀x∈vals,-50<=x/\x<=50)->a<2 ^ 36->out.length+X<=10000000 ->
    PtsS N bs bm bc m con (.slice (some ⟨b,off,none⟩) m.vars.length cv) cs (.slice (some ⟨b2,o2,none⟩) scope.length csv) scope vals out w ->
    Calls prog 196 #[.int .i64 ((k:Int)+1),.int .u64 a,.pointer (some ⟨bs,0,none⟩),.pointer (some ⟨bm,0,none⟩),.pointer (some ⟨bc,0,none⟩),.pointer (some ⟨N+1,0,none⟩),.pointer (some ⟨N+2,0,none⟩),.pointer (some ⟨N+3,0,none⟩)] w λe w'=>e=.returned (.tuple #[]) /\
     ∃vals',PtsS N bs bm bc m con (.slice (some ⟨b,off,none⟩) m.vars.length cv) cs (.slice (some ⟨b2,o2,none⟩) scope.length csv) scope vals' (out++VP m.vars c rest vals a) w'/\vals'.length=m.vars.length/\(∀x∈vals',-50<=x/\x<=50)/\UQ rest vals vals'/\Below N w w'):=by
    intro vals1 a1 out1 w1 q1 q2 q3 q4 q5;exact ih (k+1) vals1 a1 out1 w1 C_ (by omega) q1 q2 q3 (by rw[hX];exact q4) q5
   have KT:Hid (∀(jj:Nat) (w':World),jj<n->VArg w' (.slice (some ⟨b,off,none⟩) m.vars.length cv) m.vars->Calls prog 197 #[.slice (some ⟨b,off,none⟩) m.vars.length cv,.int .i64 j,.int .i64 (lo+(jj:Int))] w' λe w''=>e=.returned (.int .u64 ((2 ^ (6 * j+jj):Nat):Int))/\w''=w'):=by
    intro jj w' Jj vi;have h1:=om m.vars Ww.o.1 j (lo+(jj:Int)) _ w' vi Mc (by rw[WP.o];omega) (by rw[OZ.o];omega) (by rw[WP.o,OZ.o];omega)
    rw[WP.o,show (lo+(jj:Int) - lo).toNat=jj by omega] at h1
    exact h1
   have Hu:Hid (∀jj,jj<n->2 ^ (6 * j+jj)<2 ^ 36):=λjj Jj=>vO m.vars Ww.o j jj Mc (by omega)
   have g0:((k:Int)==(scope.length:Int))=false:=by simp;omega
   have aG:k<8:=by omega
   clear hT OJ ES X8 SC nK M6 ih hX C_ Hi Lj hv1 YM Wc hn ha;go_enter func196,ntmps196
   go_wp2_with fail
   clear d0 d1 e0 f1 f2;go_loopw [11] (λi wr=>∃(jj:Nat) (vals':List Int),jj<=n/\i=.int .i64 (lo+(jj:Int))/\PtsS N bs bm bc m con (.slice (some ⟨b,off,none⟩) m.vars.length cv) cs (.slice (some ⟨b2,o2,none⟩) scope.length csv) scope vals' (out++ptsN m.vars c j rest vals a lo jj) wr/\Hid (vals'.length=m.vars.length/\(∀x∈vals',-50<=x/\x<=50)/\UQ ((j:Int) :: rest) vals vals')/\Below N w wr) (λi _=>(hi+1 - intOf i).toNat)
   case atStart=>exact⟨0,vals,by omega,by simp,by simpa[ptsN] using HT.o,⟨Hh.o,SB.o,UQ.refl _ _⟩,Z6 _ _⟩
   obtain⟨jj,vals',Jj,rfl,nI,hH,Z3⟩:=hrel;have Ji:=hI nI;have ZW:=hI Z3;clear nI Z3;obtain⟨Y8,_,_,d1,_,_,_,lm,_⟩:=Ji.o.old;obtain⟨lb,f1,f2⟩:=aK Y8.1 j Mc;rw[WP.o] at f1;rw[OZ.o] at f2;clear Y8;by_cases Z7:jj<n
   ·have V4:lo+(jj:Int)<=hi:=by omega
    have aF:j<vals'.length:=by rw[hH.o.1];exact Mc
    have d4:=Ji.o.2.2.2.1;have Yo:=Ji.o.2.2.1;have aE:N+4<=wr.heap.size:=Ji.o.1;obtain⟨y,hy⟩:∃y,vals'[j]? = some y:=⟨vals'[j],by simp[aF]⟩
    have cN:wr.cell? ⟨N,j,none⟩=some (.int .i64 y):=by rw[Yo.cellAt j (by omega),YN,hy];rfl
    have zN:=Yo.frozenAt j;have Hf:=Ji.o.set j (lo+(jj:Int));have OV:-50<=lo+(jj:Int)/\lo+(jj:Int)<=50:=by omega
    have Yx:=hI Hf.1;have UZ:Hid (Below N w (wr.setCell ⟨N,j,none⟩ (.int .i64 (lo+(jj:Int))))):=ZW.o.trans Hf.2;have R9:Hid ((vals'.set j (lo+(jj:Int))).length=m.vars.length):=by show _=_;rw[Nu];exact hH.o.1
    have KM:Hid (∀y∈vals'.set j (lo+(jj:Int)),-50<=y/\y<=50):=aS _ _ _ hH.o.2.1 OV;have aD:Hid ((out++ptsN m.vars c j rest vals a lo jj).length+X<=10000000):=by
     have h1:=vj.o jj;have h2:jj * X<=5 * X:=O4 _ (by omega)
     show _<=_;rw[ZC];omega
    have XA:Hid (ptsN m.vars c j rest vals a lo (jj+1)=ptsN m.vars c j rest vals a lo jj++VP m.vars c rest (vals'.set j (lo+(jj:Int))) (a ||| 2 ^ (6 * j+jj))):=by
     show _=_;rw[nR]
     congr 1
     have h:=(hH.o.2.2).set (lo+(jj:Int));exact nT m.vars c rest _ _ _ h
    have vh:Hid (UQ ((j:Int) :: rest) vals (vals'.set j (lo+(jj:Int)))):=(hH.o.2.2).trans (UQ.of_set rest vals' (j:Int) (lo+(jj:Int)));have UO:=Hu.o jj Z7;obtain⟨t,ht⟩:∃t,2 ^ (6 * j+jj)=t:=⟨_,rfl⟩;have N8:=KT.o jj;rw[ht] at UO XA N8;have aC:Hid (∀(w':World),VArg w' (.slice (some ⟨b,off,none⟩) m.vars.length cv) m.vars->Calls prog 197 #[.slice (some ⟨b,off,none⟩) m.vars.length cv,.int .i64 j,.int .i64 (lo+(jj:Int))] w' λe w''=>e=.returned (.int .u64 (t:Int))/\w''=w'):=λw' h=>N8 w' Z7 h
    have Jq:=bits_or_u64_nat a t (by have:=HA.o;omega) (by omega)
    obtain⟨a2,PI⟩:∃a2,a ||| t=a2:=⟨_,rfl⟩
    have QP:Hid (a2<2 ^ 36):=by rw[<-PI];exact Dn HA.o UO
    rw[PI] at Jq XA;clear hy Yo Hf hH OV ht N8 UO PI;go_wp2_with fail
    obtain⟨W2,KL⟩:∃W2,wr.setCell ⟨N,j,none⟩ (.int .i64 (lo+(jj:Int)))=W2:=⟨_,rfl⟩;rw[KL] at Yx UZ ⊢;clear KL d1 f1 f2 d4 cN zN lm lb aE;obtain⟨Y8,_,_,d1,_,_,_,lm,_⟩:=Yx.o.old;have d5:=Yx.o.2.2.2.2.1;unfold zT at d5;have zP:Hid (VArg W2.drew (.slice (some ⟨b,off,none⟩) m.vars.length cv) m.vars):=VArg.below (Z6 _ _).drew Y8.1;have vg:Hid (PtsS N bs bm bc m con (.slice (some ⟨b,off,none⟩) m.vars.length cv) cs (.slice (some ⟨b2,o2,none⟩) scope.length csv) scope (vals'.set j (lo+(jj:Int))) (out++ptsN m.vars c j rest vals a lo jj) W2.drew):=Yx.o.below (Z6 _ _).drew;clear Y8;have zO:IntKind.i64.wrap ((k:Int)+1)=(k:Int)+1:=by simp[IntKind.wrap,IntKind.signed,IntKind.bits];omega
    go_region_held3 (λw'=>w'.cell? ⟨N+3,0,none⟩=some (.func (.func 196) #[] #[.pointer (some ⟨bs,0,none⟩),.pointer (some ⟨bm,0,none⟩),.pointer (some ⟨bc,0,none⟩),.pointer (some ⟨N+1,0,none⟩),.pointer (some ⟨N+2,0,none⟩),.pointer (some ⟨N+3,0,none⟩)])/\w'.cell? ⟨bm,0,none⟩=some (.slice (some ⟨b,off,none⟩) m.vars.length cv))
     (first | exact⟨d5,d1⟩ | assumption | exact⟨Rm,hd1⟩)
     (first
       | (go_at_call 197;refine (aC.o _ zP.o).mono ?_;rintro e w2 ⟨rfl,rfl⟩)
       | (go_at_call 196;refine (aH.o _ _ _ _ R9.o KM.o QP.o aD.o vg.o).mono ?_;rintro e w2 ⟨rfl,v2,ER,Yn,C',C9,C8⟩;have Rm:=ER.2.2.2.2.1;unfold zT at Rm;have hd1:=ER.old.2.2.2.1))
    have TX:Hid (PtsS N bs bm bc m con (.slice (some ⟨b,off,none⟩) m.vars.length cv) cs (.slice (some ⟨b2,o2,none⟩) scope.length csv) scope v2 (out++ptsN m.vars c j rest vals a lo (jj+1)) w2):=by
     rw[XA.o,<-SO];exact ER
    have zM:Hid (v2.length=m.vars.length/\(∀x∈v2,-50<=x/\x<=50)/\UQ ((j:Int) :: rest) vals v2):=⟨Yn,C',vh.o.trans (UQ.cons _ C9)⟩;have ZI:Hid (Below N w w2):=UZ.o.trans ((Z6 _ _).drew.trans C8);clear ER Yn C' C9 C8 Rm hd1;go_wp2
    go_roundw
    case rel=>exact⟨jj+1,v2,by omega,by go_num,TX.o,zM,ZI.o⟩
    case measure=>simp[intOf];omega
   have V4:¬(lo+(jj:Int)<=hi):=by omega
   have M5:jj=n:=by omega
   have HF:Hid (PtsS N bs bm bc m con (.slice (some ⟨b,off,none⟩) m.vars.length cv) cs (.slice (some ⟨b2,o2,none⟩) scope.length csv) scope vals' (out++VP m.vars c ((j:Int) :: rest) vals a) wr):=by
    have h:=Ji.o;rw[M5,Hg.o] at h;exact h
   clear M5;go_wp2
   go_end0
   exact⟨rfl,vals',HF.o,hH.o.1,hH.o.2.1,hH.o.2.2,ZW.o⟩
end Go.Proofs.YtndcpnlaadikoaaGreatDoor
