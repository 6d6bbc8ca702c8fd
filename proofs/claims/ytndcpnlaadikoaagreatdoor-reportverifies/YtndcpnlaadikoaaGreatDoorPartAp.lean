/- What the proof leans on, part 16. -/
import Derived.Test.YtndcpnlaadikoaaGreatDoorPartAo
set_option maxRecDepth 100000
set_option maxHeartbeats 6400000
open Go.Proofs.Tryz
namespace Go.Proofs.YtndcpnlaadikoaaGreatDoor
open Go.RowKit
theorem um {P:Program} (w:World) {o:Oper} {a:Act} {K:Act->World->Prop} {Q:Exit->Act->World->Prop} (s x:Operand) (t:TypeId)
 (ho:o.op=.call { callee:=.builtin .append,args:=#[s,x],argTypes:=#[t,t] })
 (base:Nat) (e:TypeId) (i:TypeInfo) (z:Value) (size bytes:Nat) (ht:P.underlying t=some (.slice e)) (hi:P.info? e=some i) (hz:i.zero=some z)
 (CH:i.size=size) (hby:i.bytes=bytes) (hzs:z.cells.size=size) (Y':0<size)
 (v:Value) (n:Nat) (xs:List Value) (hs:a.eval s=v) (Z9:w.ownsRow base e size v n xs)
 (ad:Addr) (m c:Nat) (news:List Value) (hx:a.eval x=.slice (some ad) m c) (hl:news.length=m * size) (WX:∀j u,news[j]? = some u->w.cell? (ad.add j)=some u) (h1:∀u∈news,u.oneCell'=true)
 (h63:n+m<=maxLen) (GV:(n+m) * bytes<=140737488355328) (Yv:base<=w.heap.size)
 (h:∀v' w',w'.ownsRow base e size v' (n+m) (xs++news)->w.grownBy w' v.ownBlock->(v'.ownBlock=v.ownBlock∨v'.ownBlock=some w.heap.size)->K (a.put o.dst v') w'):o.wp P a w K Q:=by
 obtain⟨v',w',hr,h2,h3,_,h4⟩:=run_append_own_at (P:=P) (w:=w) base t o.type e i z size bytes ht hi hz CH hby hzs Y' v n xs Z9 ad m c news hl WX h1 h63 GV Yv;unfold Oper.wp execOp;simp only[ho,resolve,invoke,builtin,Sem.run_bind,Sem.run_pure,Result.andThen_ok,Qu,VH,T9,hs,hx,hr];exact h v' w' h2 h3 h4
def Pq (w:World) (B n:Nat) (cells:List Value) (M:Sto):Prop :=
 w.ownsRow B 42 1 (.slice (some ⟨B,0,none⟩) n n) n cells/\M.length=n /\
 (∀(i:Nat) (r:List Int),M[i]? = some r->∃x,cells[i]? = some x/\w.ownsRow (B+1) 3 1 x r.length (r.map (Value.int .i64))) /\
 (∀(i j:Nat) (x y:Value) (g:Nat),i≠j->cells[i]? = some x->cells[j]? = some y->x.ownBlock=some g->y.ownBlock≠some g)
theorem Pq.kept {w w':World} {B n:Nat} {cells:List Value} {M:Sto} (h:Pq w B n cells M) (hb:Bw w w'):Pq w' B n cells M:=by
 obtain⟨h1,h0,h2,h3⟩:=h;refine⟨YZ h1 hb,h0,λi r hr=>?_,h3⟩
 obtain⟨y,hy,M8⟩:=h2 i r hr;exact⟨y,hy,YZ M8 hb⟩
theorem Pq.push {w w3:World} {B n:Nat} {cells:List Value} {M:Sto} {k:Nat} {r:List Int} {x v3:Value} {z:Int} (h:Pq w B n cells M) (hM:M[k]? = some r) (hx:cells[k]? = some x)
 (ho:w3.ownsRow (B+1) 3 1 v3 (r++[z]).length ((r++[z]).map (Value.int .i64))) (hg:w.grownBy w3 x.ownBlock) (VL:v3.ownBlock=x.ownBlock∨v3.ownBlock=some w.heap.size) :
 Pq (w3.setCell ⟨B,k,none⟩ v3) B n (cells.set k v3) (M.set k (r++[z])):=by
 obtain⟨h1,h0,h2,h4⟩:=h;obtain⟨y,hy,M8⟩:=h2 k r hM;rw[hx] at hy;cases hy;have zU:∀g,x.ownBlock=some g->B+1<=g:=λg hg=>(M8.lt g hg).1
 have hB:B<w.heap.size:=(h1.lt B rfl).2;have ZP:some B≠x.ownBlock:=λh=>by have:=zU B h.symm;omega
 have vu:w3.ownsRow B 42 1 (.slice (some ⟨B,0,none⟩) n n) n cells:=h1.kept hg (Or.inr ZP);have Zr:cells.length=n:=by have:=h1.1;omega
 have KF:k<n:=by rw[<-h0];exact (ZN.1 hM).1
 have MW:∀(j:Nat) (y:Value),j≠k->cells[j]? = some y->∀g,y.ownBlock=some g->g<w.heap.size:=λj y hj hy g hg=>by
  have vJ:j<n:=by rw[<-Zr];exact (ZN.1 hy).1
  obtain⟨y',mN,ho'⟩:=h2 j M[j] (by rw[ZA (by omega)])
  rw[hy] at mN;cases mN;exact (ho'.lt g hg).2
 refine⟨(vu.stored k v3).1,by simpa using h0,λi q hq=>?_,λi j y u g Ky ED GU hg1=>?_⟩
 ·by_cases ET:i=k
  ·subst ET
   rw[Uu (by omega)] at hq
   cases hq
   refine⟨v3,by rw[Uu (by omega)],LT ho λg hg2=>Below.heap_setCell _ _ _ _ ?_⟩
   have:=(ho.lt g hg2).1;simp only;omega
  rw[WE (by omega)] at hq
  obtain⟨y,hy,M7⟩:=h2 i q hq;refine⟨y,by rw[WE (by omega)];exact hy,?_⟩
  have vt:w3.ownsRow (B+1) 3 1 y q.length (q.map (Value.int .i64)):=by
   refine M7.kept hg ?_;cases Nn:y.ownBlock with
   | none=>exact Or.inl rfl
   | some g=>exact Or.inr λhe=>h4 i k y x g ET hy hx Nn he.symm
  refine LT vt λg hg2=>Below.heap_setCell _ _ _ _ ?_
  have:=(M7.lt g hg2).1;simp only;omega
 by_cases ET:i=k
 ·subst ET
  rw[Uu (by omega)] at ED
  cases ED
  rw[WE (by omega)] at GU
  rcases VL with VL | VL
  ·rw[VL] at hg1
   exact h4 _ j x u g Ky hx GU hg1
  rw[VL] at hg1;intro hu;have:=MW j u (Ne.symm Ky) GU g hu;have:=Zl hg1;omega
 rw[WE (by omega)] at ED
 by_cases T1:j=k
 ·subst T1
  rw[Uu (by omega)] at GU
  cases GU
  rcases VL with VL | VL
  ·rw[VL]
   exact h4 i _ y x g Ky ED hx hg1
  rw[VL];intro hu;have:=MW i y Ky ED g hg1;have:=Zl hu;omega
 rw[WE (by omega)] at GU
 exact h4 i j y u g Ky ED GU hg1
theorem Pq.rarg {w:World} {B n:Nat} {cells:List Value} {M:Sto} (h:Pq w B n cells M):RArg w (.slice (some ⟨B,0,none⟩) n n) M:=by
 obtain⟨h1,h0,h2,_⟩:=h;have hB:B<w.heap.size:=(h1.lt B rfl).2;have SF:n<=maxLen:=by
  rcases h1.2 with ⟨h',_⟩ | ⟨g,cap,cur,h',_,_,X',Yb,_⟩
  ·cases h'
  exact ZT X' Yb
 refine⟨_,n,by rw[h0],⟨by omega,SF⟩,λi r hr=>?_⟩
 have hi:i<n:=by rw[<-h0];exact (ZN.1 hr).1
 obtain⟨x,hx,ho⟩:=h2 i r hr;exact⟨B,0,x,rfl,hB,by rw[Zn,h1.cellAt i (by omega)];exact hx,Dc ho⟩
theorem zOR (vs:List MVar) (Zf:Vb vs) (p:Nat) (hp:∀i,p.testBit i=true->(zAN vs).testBit i=true):∀l∈VE vs p,0<=l.var/\l.var<(vs.length:Int)/\-100<=l.n/\l.n<=100:=by
 intro l hl;unfold VE at hl;obtain⟨i,hi,rfl⟩:=Zj.1 hl;unfold Sb at hi;have hb:=hp i (WC.1 hi).2;unfold zAN ofP at hb;rw[OS vs Zf.1] at hb;simp only[ZB,decide_eq_true_eq] at hb;have h1:=Zf.2 (i / 6) hb.1;have h2:=Zf.1.2 (i / 6);simp only;omega
theorem zOS (ls:Cla) (k:Nat) (l:MLit) (h:ls[k]? = some l) (s:Sto):T4 (ls.take (k+1)) s=(T4 (ls.take k) s).set l.var.toNat ((T4 (ls.take k) s).getD l.var.toNat []++[l.n]):=by
 rw[Y1,h];generalize ls.take k=q
 induction q generalizing s with
 | nil=>simp[T4]
 | cons x r ih=>simp only[O3];unfold T4;exact ih _
theorem uk:∀(c:Cla) (s:Sto) (v:Nat),((T4 c s).getD v []).length<=(s.getD v []).length+c.length
 | [],s,v=>by simp[T4]
 | l :: r,s,v=>by
   unfold T4;have:=uk r (s.set l.var.toNat (s.getD l.var.toNat []++[l.n])) v;have h2:((s.set l.var.toNat (s.getD l.var.toNat []++[l.n])).getD v []).length<=(s.getD v []).length+1:=by
    by_cases he:l.var.toNat=v
    ·subst he
     by_cases hl:l.var.toNat<s.length
     ·simp[hl]
     simp[Nat.le_of_not_lt hl]
    simp[he]
   rw[Xe];omega
theorem mM {base:Nat} {w:World} {a:Option Addr} {c:Nat} {l:Cla} (h:LOwn base w (.slice a l.length c) l) (i:Nat) (t:MLit) (hi:l[i]? = some t):∃b off,a=some ⟨b,off,none⟩/\b<w.heap.size /\
 w.cell? ⟨b,off+i * 3,none⟩=some (.int .i64 t.var)/\w.cell? ⟨b,off+i * 3+1,none⟩=some (.int .i64 t.op)/\w.cell? ⟨b,off+i * 3+2,none⟩=some (.int .i64 t.n):=by
 obtain⟨a',c',he,_,h2⟩:=h.arg;cases he
 exact h2 i t hi
theorem zQi (vs:List MVar) (Zf:Vb vs) (p:Nat) (hp:∀i,p.testBit i=true->(zAN vs).testBit i=true) (sv:Value) (w:World) (hv:VArg w sv vs) (hT:TabT w) :
 Calls prog 125 #[sv,.int .u64 p] w λe w'=>∃B cells,e=.returned (.slice (some ⟨B,0,none⟩) vs.length vs.length)/\Pq w' B vs.length cells (Xk vs p)/\w.heap.size<=B/\Bw w w':=by
 have h6:=Zf.1.1;have Tp:Hid (∀Y,Bw w Y->Calls prog 154 #[sv,.int .u64 p] Y λe w'=>∃x,e=.returned x/\LOwn Y.heap.size w' x (VE vs p)/\Bw Y w'):=λY hY=>va vs Zf p hp sv Y (VArg.below hY hv) (hT.below hY)
 have P6:Hid (∀l∈VE vs p,0<=l.var/\l.var<(vs.length:Int)/\-100<=l.n/\l.n<=100):=zOR vs Zf p hp;have Rn:=E3 vs p;unfold Xk;obtain⟨ls,zW⟩:∃ls,VE vs p=ls:=⟨_,rfl⟩;rw[zW] at Tp P6 Rn ⊢;obtain⟨a,c,rfl,_,_⟩:=hv;obtain⟨n,hn⟩:∃n,vs.length=n:=⟨_,rfl⟩;rw[hn] at Tp P6 h6 ⊢;obtain⟨wm,XW,Rg,Ta⟩:=aO n h6 w;have MV:Hid (Pq wm w.heap.size n (List.replicate n (.slice none 0 0)) (List.replicate n [])):=by
  obtain⟨k1,k2,k3⟩:=Rg (List.replicate n []);refine⟨k1,by simp,λi r hr=>?_,λi j x y g _ hx _ hg=>?_⟩
  ·have hi:i<n:=by have:=(ZN.1 hr).1;simpa using this
   have:r=[]:=by rw[O6,if_pos hi] at hr;exact (Zl hr).symm
   subst this;exact⟨_,k3 i (YI _) hi,ZH _ _ _ _⟩
  rw[O6] at hx
  split at hx
  ·cases hx;cases hg
  cases hx
 have Vq:=hI Ta;obtain⟨B,hB⟩:∃B,B=w.heap.size:=⟨_,rfl⟩;rw[<-hB] at XW MV;have Jv:w.heap.size<=B:=by omega
 obtain⟨i0,hi,Ze,Y_,Zb⟩:=info_parts Hl;clear Rg Ta hB zW Zf hp hT hn;go_enter func125,ntmps125
 go_wp2_with fail
 clear XW;refine (Tp.o _ Vq.o).mono ?_;rintro e w1 ⟨x,rfl,Z9,Z5⟩;obtain⟨K,hK⟩:∃K,wm.heap.size=K:=⟨_,rfl⟩;rw[hK] at Z9;have WP:=hI Z9;have HG1:Hid (Pq w1 B n (List.replicate n (.slice none 0 0)) (List.replicate n [])):=MV.o.kept Z5;have ZU:=hI (Vq.o.trans (Z5.mono Vq.o.size));obtain⟨al,cl,rfl⟩:=ZJ (show w1.ownsRow _ _ _ _ _ _ from Z9)
 clear hK Z9 Z5 MV Vq Tp;go_wp2_with fail
 go_loopw [15] (λi wr=>∃(k:Nat) (cells:List Value),k<=ls.length/\i=.int .i64 k/\Pq wr B n cells (T4 (ls.take k) (List.replicate n []))/\LOwn K wr (.slice al (List.length ls) cl) ls/\Bw w wr) (λi _=>ls.length - (intOf i).toNat)
 case atStart=>exact⟨0,_,by omega,rfl,HG1.o,WP.o,ZU.o⟩
 obtain⟨k,cells,hk,rfl,hg,YM,Z3⟩:=hrel;have HG:=hI hg;have GT:=hI YM;have ZW:=hI Z3;clear hg YM Z3;by_cases Z7:k<ls.length
 ·obtain⟨l,hl⟩:∃l,ls[k]? = some l:=⟨ls[k],by simp[Z7]⟩
  have HN:Hid (T4 (ls.take (k+1)) (List.replicate n [])=(T4 (ls.take k) (List.replicate n [])).set l.var.toNat ((T4 (ls.take k) (List.replicate n [])).getD l.var.toNat []++[l.n])):=zOS ls k l hl _;obtain⟨b0,b1,b2,b3⟩:=P6.o l (Zz hl);obtain⟨M,hM⟩:∃M,T4 (ls.take k) (List.replicate n [])=M:=⟨_,rfl⟩;rw[hM] at HN HG;have hML:M.length=n:=HG.o.2.1;obtain⟨lv,lo,ln⟩:=l;simp only at b0 b1 b2 b3;obtain⟨v,rfl⟩:∃v:Nat,lv=(v:Int):=⟨lv.toNat,by omega⟩
  obtain⟨r,hr⟩:∃r,M[v]? = some r:=⟨M[v],by rw[ZA (by omega)]⟩
  have HR:=hI hr;have YE:Hid (T4 (ls.take (k+1)) (List.replicate n [])=M.set v (r++[ln])):=by
   show _=_;rw[HN.o];simp only[YK];rw[ZO,hr];rfl
  have uj:r.length<=36:=by
   have:=uk (ls.take k) (List.replicate n []) v;rw[hM,ZO,hr] at this;simp only[RQ,X_] at this;have h0:((List.replicate n ([]:List Int)).getD v []).length=0:=by simp[show v<n by omega]
   omega
  obtain⟨P5,_,MU,_⟩:=HG.o;obtain⟨x,hx,Xc⟩:=MU v r hr;have HX:=hI hx;obtain⟨ax,cx,rfl⟩:=ZJ Xc;have CT:wr.cell? ⟨B,v,none⟩=some (.slice ax r.length cx):=by rw[P5.cellAt v (by omega)];exact hx
  have mL:B<wr.heap.size:=(P5.lt B rfl).2;obtain⟨ad,off,OT,Tn,XN,X',Yb⟩:=mM GT.o k _ hl;subst OT;simp only at XN X' Yb;have Qn:=ZW.o.size;clear hl hr hx hM P5 MU HN;go_wp2_with fail
  obtain⟨Y,hY⟩:∃Y,wr.alloc (.cells #[.int .i64 (v:Int),.int .i64 lo,.int .i64 ln] 76)=Y:=⟨_,rfl⟩;rw[hY];have LJ:Bw wr Y:=by rw[<-hY];exact Z4 _ _
  have mK:Hid (Pq Y B n cells M):=HG.o.kept LJ;have ui:Hid (LOwn K Y (.slice (some ⟨ad,off,none⟩) (List.length ls) cl) ls):=YZ (show wr.ownsRow _ _ _ _ _ _ from GT.o) LJ
  have WI:Hid (Bw w Y):=ZW.o.trans (LJ.mono Qn);have Kx:Y.ownsRow (B+1) 3 1 (.slice ax r.length cx) r.length (r.map (Value.int .i64)):=YZ Xc LJ;have d0:Y.cell? ⟨wr.heap.size,0,none⟩=some (.int .i64 (v:Int)):=by rw[<-hY];simp
  have d2:Y.cell? ⟨wr.heap.size,2,none⟩=some (.int .i64 ln):=by rw[<-hY];simp
  have dl:wr.heap.size<Y.heap.size:=by rw[<-hY];simp
  have dB:Y.cell? ⟨B,v,none⟩=some (.slice ax r.length cx):=(LJ.cell (p:=⟨B,v,none⟩) mL).trans CT;have dlB:B<Y.heap.size:=by omega
  have Vo:v<n:=by omega
  have hvn2:(v:Int)<(n:Int):=by omega
  obtain⟨q,hq⟩:∃q,wr.heap.size=q:=⟨_,rfl⟩;have HXQ:Hid (some q≠(Value.slice ax r.length cx).ownBlock):=λh=>by have:=(Xc.lt q h.symm).2;omega
  rw[hq] at d0 d2 dl ⊢;clear XN X' Yb CT Xc hY LJ hq HG GT mL Tn;go_region_law
   (first
     | (rw[if_pos (by rfl)];refine um _ _ _ 42 rfl (B+1) 3 i0 _ 1 8 underlying42 hi Ze Y_ Zb rfl (by decide) _ _ _ rfl (Kx.drew.alloc _) ⟨Y.heap.size,0,none⟩ 1 1 [.int .i64 ln] rfl rfl (Jk Y.drew ln) (by intro u hu;simp at hu;subst hu;rfl) ?_ ?_ ?_ ?_;(unfold maxLen;omega);omega;(simp;omega);intro v4 w4 Zw SG uh;obtain⟨av,cv,hv4⟩:=ZJ Zw;subst hv4;have GS:w4.ownsRow B 42 1 (.slice (some ⟨B,0,none⟩) n n) n cells:=(mK.o.1.drew.alloc _).kept SG (Or.inr (λh=>by have:=(Kx.lt B h.symm).1;omega));have nM:w4.cell? ⟨B,v,none⟩=some (.slice ax r.length cx):=by rw[GS.cellAt v (by omega)];exact HX.o
        have nL:w4.frozen? ⟨B,v,none⟩=false:=GS.frozenAt v;have Ar:B<w4.heap.size:=(GS.lt B rfl).2;have e0:w4.cell? ⟨q,0,none⟩=some (.int .i64 (v:Int)):=SG.cell ((((Z6 _ _).drew.alloc (Z2 _) _:Bw Y _).cell (p:=⟨q,0,none⟩) dl).trans d0) HXQ.o;have el:q<w4.heap.size:=by have:=SG.size;simp at this;omega))
  all_goals
   have XK:w4.ownsRow (B+1) 3 1 (.slice av (r.length+1) cv) (r++[ln]).length ((r++[ln]).map (Value.int .i64)):=by
    rw[ZC,YY];exact Zw
   have HP:Hid (Pq (w4.setCell ⟨B,v,none⟩ (.slice av (r.length+1) cv)) B n (cells.set v (.slice av (r.length+1) cv)) (M.set v (r++[ln]))) :=
    (mK.o.kept ((Z6 _ _).drew.alloc (Z2 _) _)).push HR.o HX.o XK SG uh
   have Xx:Hid (Bw w (w4.setCell ⟨B,v,none⟩ (.slice av (r.length+1) cv))) :=
    ((WI.o.drew.alloc WI.o.size _).grown SG (by have:=WI.o.size;simp;omega) (λg h=>by have:=(Kx.lt g h).1;omega)).setCell (by simp only;omega) _
   have LI:Hid (LOwn K (w4.setCell ⟨B,v,none⟩ (.slice av (r.length+1) cv)) (.slice (some ⟨ad,off,none⟩) (List.length ls) cl) ls):=by
    have h1:(Y.drew.alloc (.cells #[.int .i64 ln] 3)).ownsRow K 76 3 (.slice (some ⟨ad,off,none⟩) (List.length ls) cl) ls.length (U_ ls):=(show Y.drew.ownsRow _ _ _ _ _ _ from ui.o).alloc _
    have h2:=P_ h1 SG (Kx.drew.alloc _) (by decide)
    rcases GS.2 with ⟨h',_⟩ | ⟨g,cap,cur,h',_,hh,_⟩
    ·cases h'
    cases h'
    exact V_ h2 hh (by decide) v _
   go_wp2
   go_roundw
   case rel=>exact⟨k+1,_,by omega,by go_num,by rw[YE.o];exact HP.o,LI.o,Xx.o⟩
   case measure=>simp[intOf];omega
 have HN:Hid (ls.take k=ls):=Zi (by omega)
 go_wp2
 go_ret
 rw[HN.o] at HG;exact⟨_,_,rfl,HG.o,Jv,ZW.o⟩
section
open Go.RowKit Go.Maps
theorem ug:Keyed prog 136:=int_keyed underlying136
theorem uf:prog.underlying 114=some (.map 136 282):=by kernel_rfl
def setU {H:Type} (l:List Nat):DataW H:=setOf (.agg []) (l.map λz:Nat=>Lit.int .u64 (z:Int))
theorem mJ (x:Nat):∀l:List Nat,l.any ((λy:Lit=>y.sameKey (.int .u64 (x:Int))) ∘ λz:Nat=>Lit.int .u64 (z:Int))=l.contains x
 | []=>rfl
 | a :: r=>by
   rw[Qr,List.contains_cons,mJ x r]
   congr 1
   show decide (IntKind.u64=IntKind.u64/\(a:Int)=(x:Int))=(x==a);by_cases e:a=x
   ·subst e
    simp
   have e':¬x=a:=λh=>e h.symm
   have e2:¬(a:Int)=(x:Int):=λh=>e (by omega)
   simp[e2,e']
theorem mI {H:Type} (l:List Nat) (x:Nat):Maps.has (setU (H:=H) l) (.int .u64 (x:Int))=l.contains x:=by
 unfold setU;rw[has_setOf _ _ _ (λy hy=>by obtain⟨_,_,rfl⟩:=Zj.1 hy;trivial),List.any_map]
 exact mJ x _
theorem zSQ {H:Type} (l:List Nat) (x:Nat):setU (H:=H) (l++[x])=(setU l).put (.int .u64 (x:Int)) (.agg []):=by
 unfold setU;rw[YY];exact setOf_snoc _ _ _
theorem zUZ (z:Nat) (h:z<2 ^ 36):keyOf prog 136 (.int .u64 (z:Int))=some (.int .u64 (z:Int)):=keyOf_int_mk underlying136 (WalkArith.wf_u64 (by omega))
theorem EC {w:World} {B:Nat} {e:TypeId} {s n:Nat} {v:Value} {xs:List Value} {k:TypeId} {R:Value->Option (DataW Unit×List MemPlace)} {b m:Nat} {D:DataW Unit} (h:w.ownsRow B e s v n xs) (hm:w.ownsMap prog k R b m D):v.ownBlock≠some b:=by
 intro he;obtain⟨es,clock,hb,_⟩:=hm;rcases h.2 with ⟨rfl,_⟩ | ⟨g,cap,cur,rfl,_,hg,_⟩
 ·cases he
 have:g=b:=by simpa[Value.ownBlock] using he
 subst this;rw[hb] at hg;cases hg
theorem CG {w:World} {q:Nat} {cs:Array Value} {t:TypeId} {k:TypeId} {R:Value->Option (DataW Unit×List MemPlace)} {b m:Nat} {D:DataW Unit} (h:w.heap[q]? = some (.cells cs t)) (hm:w.ownsMap prog k R b m D):q≠b:=by
 rintro rfl;obtain⟨es,clock,hb,_⟩:=hm;rw[hb] at h;cases h
def TNo (t:TypeId):Prop:=t≠141/\t≠116/\t≠136/\t≠39/\t≠76
structure TFr (w w':World):Prop where
 os:w'.os=w.os
 tape:w'.tape=w.tape
 output:w'.output=w.output
 size:w.heap.size<=w'.heap.size
 block:∀(k:Nat) (cs:Array Value) (t:TypeId) (z:Nat×Nat),w.heap[k]? = some (.cells cs t z)->TNo t->w'.heap[k]? = w.heap[k]?
theorem TFr.refl (w:World):TFr w w:=⟨rfl,rfl,rfl,Z2 _,λ_ _ _ _ _ _=>rfl⟩
theorem TFr.trans {a b c:World} (h:TFr a b) (k:TFr b c):TFr a c :=
 ⟨k.os.trans h.os,k.tape.trans h.tape,k.output.trans h.output,ZT h.size k.size,λq cs t z hq ht=>(k.block q cs t z ((h.block q cs t z hq ht).trans hq) ht).trans (h.block q cs t z hq ht)⟩
theorem TFr.below {w w':World} (h:Bw w w'):TFr w w':=⟨h.os,h.tape,h.output,h.size,λk _ _ _ hk _=>h.block k (Z8.1 hk).1⟩
theorem TFr.grown {w w':World} {B:Nat} {e:TypeId} {s n:Nat} {v:Value} {xs:List Value} (ho:w.ownsRow B e s v n xs) (hg:w.grownBy w' v.ownBlock) (he:¬TNo e):TFr w w' :=
 ⟨hg.os,hg.tape,hg.output,hg.size,λk cs t z hk ht=>hg.block k (Z8.1 hk).1 λh=>by
   rcases ho.2 with ⟨rfl,_⟩ | ⟨g,cap,cur,rfl,_,hh,_⟩
   ·cases h
   ·have:k=g:=by simpa[Value.ownBlock] using h
    subst this;have:=hk.symm.trans hh;simp only[Option.some.injEq,Obj.cells.injEq] at this;rw[this.2.1] at ht;exact he ht⟩
theorem TFr.set {w:World} {C:Nat} {cs:Array Value} {t:TypeId} (hC:w.heap[C]? = some (.cells cs t)) (he:¬TNo t) (i:Nat) (u:Value):TFr w (w.setCell ⟨C,i,none⟩ u) :=
 ⟨rfl,rfl,rfl,by simp,λk cs' t' z hk ht=>by
   refine Below.heap_setCell w ⟨C,i,none⟩ u k ?_;rintro rfl;have:=hk.symm.trans hC;simp only[Option.some.injEq,Obj.cells.injEq] at this;rw[this.2.1] at ht;exact he ht⟩
theorem TFr.map {w w':World} {k:TypeId} {R:Value->Option (DataW Unit×List MemPlace)} {b m:Nat} {D:DataW Unit} (hm:w.ownsMap prog k R b m D) (hg:w.grownBy w' (some b)):TFr w w' :=
 ⟨hg.os,hg.tape,hg.output,hg.size,λq cs t z hq ht=>hg.block q (Z8.1 hq).1 λh=>by
   obtain⟨es,clock,h1,_⟩:=hm;rw[<-Zl h] at h1;rw[h1] at hq;cases hq⟩
theorem mH:¬TNo 136:=λh=>h.2.2.1 rfl
theorem zUa:¬TNo 39:=λh=>h.2.2.2.1 rfl
theorem zWC:¬TNo 76:=λh=>h.2.2.2.2 rfl
theorem zz:¬TNo 116:=λh=>h.2.1 rfl
theorem mG:¬TNo 141:=λh=>h.1 rfl
theorem TFr.own {w w':World} {B:Nat} {e:TypeId} {s n:Nat} {v:Value} {xs:List Value} (h:TFr w w') (ho:w.ownsRow B e s v n xs) (he:TNo e):w'.ownsRow B e s v n xs :=
 ⟨ho.1,by
   rcases ho.2 with hn | ⟨g,cap,cur,hv,hg,hh,r⟩
   ·exact .inl hn
   ·exact .inr ⟨g,cap,cur,hv,hg,(h.block g cur e (0,0) hh he).trans hh,r⟩⟩
def XS (s r mb:Nat) (k:Nat):Prop:=k=r∨k=s∨k=mb
structure SkB (W:World) (s r mb:Nat) (sv pv:Value) (vs:List MVar) (pt:List (List Nat)):Prop where
 rlt:r<W.heap.size
 slt:s<W.heap.size
 mlt:mb<W.heap.size
 keep:∀w',Fr (XS s r mb) W w'->VArg w' sv vs/\zGg w' pv pt/\TabT w'
structure SkD (W w:World) (s r mb:Nat) (sv pv cv prv pav:Value) (L:List SV) (M:List Nat) (S:Sk):Prop where
 blkR:w.heap[r]? = some (.cells #[sv,pv,cv] 141)
 blkS:w.heap[s]? = some (.cells #[sv,.pointer (some ⟨r,0,none⟩),.int .i64 (S.fuel:Int),prv,.map (some mb),pav] 116)
 own:w.ownsRow W.heap.size 136 1 cv S.cs.length (u64s S.cs)
 lt36:∀z∈S.cs,z<2 ^ 36
 prf:zCQ W.heap.size w prv L
 prfE:L.map (·.1)=S.proof
 map:w.ownsMap prog 136 (unitElem (H:=Unit)) mb M.length (setU M)
 path:LOwn W.heap.size w pav S.path
 apart:∀x∈L,∀g,x.2.ownBlock=some g->pav.ownBlock≠some g
 fr:Fr (XS s r mb) W w
variable {W w w' w1 w2:World} {s r mb:Nat} {sv pv cv prv pav v':Value} {L:List SV} {M:List Nat} {S:Sk} {vs:List MVar} {pt:List (List Nat)}
theorem mF {k:TypeId} {R:Value->Option (DataW Unit×List MemPlace)} {b m:Nat} {D:DataW Unit} (h:w.ownsMap prog k R b m D) (hb:Bw w w'):w'.ownsMap prog k R b m D:=by
 obtain⟨es,clock,h1,h2⟩:=h;exact⟨es,clock,(hb.block b (Z8.1 h1).1).trans h1,h2⟩
theorem SkD.below (h:SkD W w s r mb sv pv cv prv pav L M S) (hb:Bw w w'):SkD W w' s r mb sv pv cv prv pav L M S :=
 ⟨(hb.block r (Z8.1 h.blkR).1).trans h.blkR,(hb.block s (Z8.1 h.blkS).1).trans h.blkS,YZ h.own hb,h.lt36,h.prf.below hb,h.prfE,mF h.map hb,YZ h.path hb,h.apart,h.fr.trans (Fr.below hb)⟩
theorem SkD.rules (h:SkD W w s r mb sv pv cv prv pav L M S) (hB:SkB W s r mb sv pv vs pt):RulesAt w r sv pv cv vs pt S.cs :=
 ⟨(Z8.1 h.blkR).1,Z_ h.blkR 0 _ rfl,Z_ h.blkR 1 _ rfl,Z_ h.blkR 2 _ rfl,(hB.keep w h.fr).1,(hB.keep w h.fr).2.1,EQ h.own h.lt36,(hB.keep w h.fr).2.2⟩
theorem SkD.ns (h:SkD W w s r mb sv pv cv prv pav L M S):s≠mb:=CG h.blkS h.map
theorem SkD.nr (h:SkD W w s r mb sv pv cv prv pav L M S):r≠mb:=CG h.blkR h.map
theorem SkD.rs (h:SkD W w s r mb sv pv cv prv pav L M S):r≠s:=by
 rintro rfl;have:=h.blkR.symm.trans h.blkS;simp at this
theorem SkD.cells (h:SkD W w s r mb sv pv cv prv pav L M S):s<w.heap.size/\w.cell? ⟨s,0,none⟩=some sv/\w.cell? ⟨s,1,none⟩=some (.pointer (some ⟨r,0,none⟩))/\w.cell? ⟨s,2,none⟩=some (.int .i64 (S.fuel:Int))/\w.cell? ⟨s,3,none⟩=some prv/\w.cell? ⟨s,4,none⟩=some (.map (some mb))/\w.cell? ⟨s,5,none⟩=some pav :=
 ⟨(Z8.1 h.blkS).1,Z_ h.blkS 0 _ rfl,Z_ h.blkS 1 _ rfl,Z_ h.blkS 2 _ rfl,Z_ h.blkS 3 _ rfl,Z_ h.blkS 4 _ rfl,Z_ h.blkS 5 _ rfl⟩
theorem SkD.frz (h:SkD W w s r mb sv pv cv prv pav L M S) (i:Nat):w.frozen? ⟨s,i,none⟩=false:=Z0 h.blkS i
theorem CF (w:World) (p:Addr) (u:Value) (k:Nat) (hk:k≠p.block):(w.setCell p u).heap[k]? = w.heap[k]? := Below.heap_setCell _ _ _ _ hk
theorem zCQ.set {base:Nat} {v:Value} {C:Nat} {cs:Array Value} {t:TypeId} (h:zCQ base w v L) (hC:w.heap[C]? = some (.cells cs t)) (h1:t≠39) (h2:t≠76) (i:Nat) (u:Value):zCQ base (w.setCell ⟨C,i,none⟩ u) v L :=
 ⟨V_ h.1 hC h1 i u,λx hx=>V_ (h.2 x hx) hC h2 i u⟩
theorem SkD.setS {S':Sk} {prv' pav':Value} {L':List SV} (i:Nat) (u:Value) (hR:w.heap[r]? = some (.cells #[sv,pv,cv] 141))
 (hS:w.heap[s]? = some (.cells #[sv,.pointer (some ⟨r,0,none⟩),.int .i64 (S.fuel:Int),prv,.map (some mb),pav] 116))
 (hu:(#[sv,.pointer (some ⟨r,0,none⟩),.int .i64 (S.fuel:Int),prv,.map (some mb),pav]:Array Value).set! i u=#[sv,.pointer (some ⟨r,0,none⟩),.int .i64 (S'.fuel:Int),prv',.map (some mb),pav'])
 (Z9:w.ownsRow W.heap.size 136 1 cv S'.cs.length (u64s S'.cs)) (Z7:∀z∈S'.cs,z<2 ^ 36) (ue:zCQ W.heap.size w prv' L') (hpe:L'.map (·.1)=S'.proof)
 (TU:w.ownsMap prog 136 (unitElem (H:=Unit)) mb M.length (setU M)) (CE:LOwn W.heap.size w pav' S'.path) (zy:∀x∈L',∀g,x.2.ownBlock=some g->pav'.ownBlock≠some g) (Z':Fr (XS s r mb) W w) :
 SkD W (w.setCell ⟨s,i,none⟩ u) s r mb sv pv cv prv' pav' L' M S':=by
 have CD:r≠s:=by
  rintro rfl;have:=hR.symm.trans hS;simp at this
 refine⟨(CF w ⟨s,i,none⟩ u r CD).trans hR,?_,V_ Z9 hS (by decide) i u,Z7,ue.set hS (by decide) (by decide) i u,hpe,TU.setCell (Ne.symm (CG hS TU)) u,V_ CE hS (by decide) i u,zy,Z'.setX (p:=⟨s,i,none⟩) (Or.inr (Or.inl rfl)) u⟩
 rw[heap_setCell_same w s i _ _ u hS,<-hu];simp
theorem SkD.burn (h:SkD W w s r mb sv pv cv prv pav L M S) (f:Nat):SkD W (w.setCell ⟨s,2,none⟩ (.int .i64 (f:Int))) s r mb sv pv cv prv pav L M ⟨S.cs,f,S.proof,S.path⟩ :=
 SkD.setS (S:=S) 2 _ h.blkR h.blkS rfl h.own h.lt36 h.prf h.prfE h.map h.path h.apart h.fr
theorem SkD.cutp {g n c:Nat} (k:Nat) (hk:k<=n) (h:SkD W w s r mb sv pv cv prv (.slice (some ⟨g,0,none⟩) n c) L M S) (hn:n=S.path.length):SkD W (w.setCell ⟨s,5,none⟩ (.slice (some ⟨g,0,none⟩) k c)) s r mb sv pv cv prv (.slice (some ⟨g,0,none⟩) k c) L M ⟨S.cs,S.fuel,S.proof,S.path.take k⟩:=by
 refine SkD.setS (S:=S) 5 _ h.blkR h.blkS rfl h.own h.lt36 h.prf h.prfE h.map ?_ (λx hx g' R8=>h.apart x hx g' R8) h.fr
 subst hn;have h0:=m9 h.path;rw[YU] at h0;have h1:=uW k hk h0;rw[uV 3 k _ (m_ _),<-List.map_take] at h1;refine m8 ?_;rw[YU,X_,Nat.min_eq_left (by simpa using hk)]
 exact h1
theorem SkD.push {x:SV} {n:Nat} (h:SkD W w s r mb sv pv cv prv pav L M S) (hb:Bw w w1) (hx:LOwn W.heap.size w1 x.2 x.1.cla) (Sx:∀g,x.2.ownBlock=some g->pav.ownBlock≠some g) (hg:w1.grownBy w2 prv.ownBlock) (hn:n=L.length+1)
 (ho:w2.ownsRow W.heap.size 39 3 v' n ((L.map UY).flatten++UY x)):SkD W (w2.setCell ⟨s,3,none⟩ v') s r mb sv pv cv v' pav (L++[x]) M ⟨S.cs,S.fuel,S.proof++[x.1],S.path⟩:=by
 have h1:=h.below hb;refine SkD.setS (S:=S) 3 _ (Sz h1.blkR hg h1.prf.1 (by decide)) (Sz h1.blkS hg h1.prf.1 (by decide)) rfl (P_ h1.own hg h1.prf.1 (by decide)) h.lt36 (h1.prf.push hx hg hn ho) (by rw[YY,h.prfE];rfl)
  (h1.map.kept hg (Ne.symm (EC h1.prf.1 h1.map))) (P_ h1.path hg h1.prf.1 (by decide)) (λy hy g R8=>?_) (h1.fr.grown hg λk hk=>Or.inr (h1.prf.1.lt k hk).1)
 rcases Xn.1 hy with hy | hy
 ·exact h.apart y hy g R8
 rw[Zh.1 hy] at R8;exact Sx g R8
theorem SkD.pushp {l:MLit} {n:Nat} (h:SkD W w s r mb sv pv cv prv pav L M S) (hb:Bw w w1) (hg:w1.grownBy w2 pav.ownBlock) (VL:v'.ownBlock=pav.ownBlock∨v'.ownBlock=some w1.heap.size) (hn:n=S.path.length+1)
 (ho:w2.ownsRow W.heap.size 76 3 v' n (U_ S.path++TH l)):SkD W (w2.setCell ⟨s,5,none⟩ v') s r mb sv pv cv prv v' L M ⟨S.cs,S.fuel,S.proof,S.path++[l]⟩:=by
 have h1:=h.below hb;have ZZ:zCQ W.heap.size w2 prv L:=⟨P_ h1.prf.1 hg h1.path (by decide),λx hx=>by
  refine (h1.prf.2 x hx).kept hg ?_;cases OV:x.2.ownBlock with
  | none=>exact Or.inl rfl
  | some g=>exact Or.inr λhe=>h.apart x hx g OV he.symm⟩
 refine SkD.setS (S:=S) 5 _ (Sz h1.blkR hg h1.path (by decide)) (Sz h1.blkS hg h1.path (by decide)) rfl (P_ h1.own hg h1.path (by decide)) h.lt36 ZZ h.prfE
  (h1.map.kept hg (Ne.symm (EC h1.path h1.map))) ?_ (λy hy g R8=>?_) (h1.fr.grown hg λk hk=>Or.inr (h1.path.lt k hk).1)
 ·show World.ownsRow _ _ _ _ _ _ _
  unfold U_ at *;rw[ZC,V6,<-hn,RW];simpa using ho
 rcases VL with VL | VL
 ·rw[VL];exact h.apart y hy g R8
 rw[VL];intro he;have:=((h1.prf.2 y hy).lt g R8).2;have:=Zl he;omega
theorem SkD.key (h:SkD W w s r mb sv pv cv prv pav L M S) (z n:Nat) (hn:n=M.length+1) (hg:w.grownBy w' (some mb)) (hm:w'.ownsMap prog 136 (unitElem (H:=Unit)) mb n ((setU M).put (.int .u64 (z:Int)) (.agg []))) :
 SkD W w' s r mb sv pv cv prv pav L (M++[z]) S:=by
 have ko:∀{B:Nat} {e:TypeId} {q n:Nat} {v:Value} {xs:List Value},w.ownsRow B e q v n xs->w'.ownsRow B e q v n xs:=λho=>ho.kept hg (Or.inr (EC ho h.map))
 have kb:∀{q:Nat} {cs:Array Value} {t:TypeId},w.heap[q]? = some (.cells cs t)->w'.heap[q]? = some (.cells cs t):=λhq=>(hg.block _ (Z8.1 hq).1 (λhe=>CG hq h.map (Zl he))).trans hq
 refine⟨kb h.blkR,kb h.blkS,ko h.own,h.lt36,⟨ko h.prf.1,λx hx=>ko (h.prf.2 x hx)⟩,h.prfE,?_,ko h.path,h.apart,h.fr.grown hg λk hk=>Or.inl (Or.inr (Or.inr (Zl hk).symm))⟩
 rw[zSQ,ZC,V6,<-hn];exact hm
end
end Go.Proofs.YtndcpnlaadikoaaGreatDoor
