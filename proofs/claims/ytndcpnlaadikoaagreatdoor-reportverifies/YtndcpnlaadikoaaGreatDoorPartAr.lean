/- What the proof leans on, part 18. -/
import Derived.Lib.AppendZerosOnto
import Derived.Test.YtndcpnlaadikoaaGreatDoorPartAq
set_option maxRecDepth 100000
set_option maxHeartbeats 6400000
open Go.Proofs.Tryz
namespace Go.Proofs.YtndcpnlaadikoaaGreatDoor
open Go.RowKit Go.Lib
theorem zJQ (w:World) (o:Obj):(w.alloc o).heap[w.heap.size]? = some o:=by
 show (w.heap.push o)[w.heap.size]? = some o;simp
theorem zHi {P:Program} {w:World} {ops:Array Oper} {rest:List Oper} {o:Oper} {a:Act} {Q:Exit->Act->World->Prop} (SH:o.guard=none) (s x:Operand) (t1 t2:TypeId)
 (ho:o.op=.call { callee:=.builtin .append,args:=#[s,x],argTypes:=#[t1,t2] }) (v u v':Value) (w':World) (hs:a.eval s=v) (hx:a.eval x=u)
 (hr:∀ty,(Builtin.append_ #[t1,t2] ty #[v,u]).run P w=.ok v' w') (h:wpList P ops Q rest (a.put o.dst v') w'):wpList P ops Q (o :: rest) a w :=
 wpList_plain SH λ_ hK=>by
  unfold Oper.wp execOp;simp only[ho,resolve,invoke,builtin,Sem.run_bind,Sem.run_pure,Result.andThen_ok,Qu,VH,T9,hs,hx,hr];exact hK _ _ h
theorem zUd (n:Nat) (hn:n<=1000) (w:World) :
 Calls prog 201 #[.slice none 0 0,.int .i64 n] w λe w'=>∃x,e=.returned x/\w'.ownsRow w.heap.size 3 1 x 0 []/\Bw w w':=by
 obtain⟨i0,hi,Ze,Y_,Zb⟩:=info_parts E_;by_cases h0:n=0
 ·subst h0
  go_enter func201,ntmps201
  go_wp2
  go_ret
  exact⟨_,rfl,ZH _ _ _ _,Z6 _ _⟩
 have MW:(Builtin.firstCells i0.size 0 (.slice none 0 0)).run prog w.drew=.ok ([]:List Value).toArray w.drew:=run_firstCells_none w.drew i0.size 0 0 0;obtain⟨G,hG⟩:∃G,grownCap w n 0 3=G:=⟨_,rfl⟩;have hrz:∀ty,(Builtin.append_ #[42,3] ty #[.slice none 0 0,.int .i64 (n:Int)]).run prog w=.ok (.slice (some ⟨w.heap.size,0,none⟩) n G) (w.drew.alloc (.cells (Builtin.zeroCells (Value.int .i64 0).cells n++Builtin.zeroCells (Value.int .i64 0).cells (G - n)) 3)):=λty=>by
  have hf:Builtin.nextslicecap (0+n) 0 * i0.bytes<=281474976710656:=growslice_fits (by omega) (by rw[Zb];omega)
  have h:=Lib.run_append_grow_zeros w 42 3 ty 3 i0 (.int .i64 0) .i64 .i64 underlying42 underlying3 hi Ze none 0 0 [] MW n (by omega) (by omega) (by omega) (by omega) (by rw[Zb];omega) hf
  rw[Zn,hG] at h;simpa using h
 have hGn:n<=G:=by rw[<-hG];exact grownCap_ge w _ _ _
 have Kt:G<=maxLen:=by rw[<-hG];exact grownCap_le_maxLen w _ 0 _ (by unfold maxLen;omega)
 have h1:¬((n:Int)<0):=by omega
 have h2:(n:Int) > 0:=by omega
 have h3:¬n=0:=h0;have HO:Hid ((w.drew.alloc (.cells (Builtin.zeroCells (Value.int .i64 0).cells n++Builtin.zeroCells (Value.int .i64 0).cells (G - n)) 3)).ownsRow w.heap.size 3 1 (.slice (some ⟨w.heap.size,0,none⟩) 0 G) 0 []):=by
  refine⟨rfl,.inr ⟨w.heap.size,G,_,rfl,Z2 _,zJQ _ _,YI _,Kt,?_,by simp⟩⟩
  simp[Builtin.zeroCells,Value.cells];omega
 have hG64:G<=9223372036854775807:=by unfold maxLen at Kt;exact Kt
 clear MW hG Kt;go_enter func201,ntmps201
 go_wp2_with (at_builtin;refine zHi rfl _ _ _ _ rfl _ _ _ _ rfl rfl hrz ?_)
 go_ret
 exact⟨_,rfl,HO.o,(Z6 _ _).drew.alloc (Z2 _) _⟩
theorem mp (s:Sto) (k:Nat) (x:List Int) (h:s[k]? = some x):(s.take (k+1)).flatten=(s.take k).flatten++x:=by
 rw[Y1,h];simp
theorem zSV (s:Sto) (hs:s.length<=6) (hr:∀r∈s,r.length<=100) (k:Nat):(s.take k).flatten.length<=600:=by
 have:∀(l:Sto),(∀r∈l,r.length<=100)->l.flatten.length<=100 * l.length:=by
  intro l
  induction l with
  | nil=>intro _;simp
  | cons x r ih =>
    intro h;rw[RR,ZC,Xe];have:=ih λy hy=>h y (Y2 _ hy)
    have:=h x (Zk ..);omega
 have h1:=this (s.take k) λr Yq=>hr r (SR Yq)
 have:(s.take k).length<=6:=by rw[X_];omega
 omega
theorem zQm (s:Sto) (hs:s.length<=6) (N_:∀r∈s,r.length<=100) (v:Value) (w:World) (hv:RArg w v s) :
 Calls prog 127 #[v] w λe w'=>∃x,e=.returned x/\w'.ownsRow w.heap.size 3 1 x s.flatten.length (s.flatten.map (Value.int .i64))/\Bw w w':=by
 have Dg:Hid (∀Y,Bw w Y->RArg Y v s):=λY hY=>RArg.below hY hv
 obtain⟨a,c,rfl,hl,hr⟩:=hv;have HV:=hI hr;have U4:Hid (∀k,(s.take k).flatten.length<=600):=zSV s hs N_;have EG:Hid ((s.take s.length).flatten=s.flatten):=by show _=_;rw[Qv]
 unfold maxLen at hl;obtain⟨WS,hl⟩:=hl;clear hr N_;go_enter func127,ntmps127
 go_wp2_with fail
 go_loopw [3,11] (λsz i wr=>∃k:Nat,k<=s.length/\i=.int .i64 k/\sz=.int .i64 ((s.take k).flatten.length:Nat)/\wr=w) (λ_ i _=>s.length - (intOf i).toNat)
 case atStart=>exact⟨0,by omega,rfl,rfl,rfl⟩
 obtain⟨k,hk,rfl,rfl,rfl⟩:=hrel;by_cases Z7:k<s.length
 ·obtain⟨x,hx⟩:∃x,s[k]? = some x:=⟨s[k],by simp[Z7]⟩
  have HF:Hid ((s.take (k+1)).flatten.length=(s.take k).flatten.length+x.length):=by show _=_;rw[mp s k x hx,ZC]
  have Rf:=U4.o (k+1);rw[HF.o] at Rf;obtain⟨bb,off,y,Wv,Tn,hc,a5,c5,rfl,⟨hm5,Nj⟩,_⟩:=HV.o k x hx;subst Wv;unfold maxLen at Nj;obtain⟨q,hq⟩:∃q,(s.take k).flatten.length=q:=⟨_,rfl⟩;rw[hq] at HF Rf ⊢;clear hx hq;go_wp2
  go_roundw
  case rel=>exact⟨k+1,by omega,by go_num,by rw[HF.o];go_num,trivial⟩
  case measure=>simp[intOf];omega
 have PG:k=s.length:=by omega
 subst PG;have Rf:=U4.o s.length;obtain⟨q,hq⟩:∃q,(s.take s.length).flatten.length=q:=⟨_,rfl⟩;rw[hq] at Rf ⊢;clear hq Z7 hk;obtain⟨wo,rfl⟩:∃wo:World,wo=wr:=⟨_,rfl⟩;go_wp2_with fail
 refine (zUd q (by omega) _).mono ?_
 rintro e w1 ⟨x,rfl,Xc,Z5⟩;obtain⟨ax,cx,rfl⟩:=ZJ Xc;have Cx:=hI Xc;have ZU:=hI Z5;clear Xc Z5;go_wp2_with fail
 go_loopw [6,27] (λnv i wy=>∃k:Nat,k<=s.length/\i=.int .i64 k/\wy.ownsRow wo.heap.size 3 1 nv (s.take k).flatten.length ((s.take k).flatten.map (Value.int .i64))/\Bw wo wy) (λ_ i _=>s.length - (intOf i).toNat)
 case atStart=>exact⟨0,by omega,rfl,Cx.o,ZU.o⟩
 obtain⟨k,hk,rfl,Xs,Z3⟩:=hrel;obtain⟨an,cn,rfl⟩:=ZJ Xs;have Cw:=hI Xs;have ZW:=hI Z3;have Qn:=Z3.size;clear Xs Z3;by_cases Z7:k<s.length
 ·obtain⟨x,hx⟩:∃x,s[k]? = some x:=⟨s[k],by simp[Z7]⟩
  have HF:Hid ((s.take (k+1)).flatten=(s.take k).flatten++x):=mp s k x hx;have Rf:=U4.o (k+1);rw[HF.o,ZC] at Rf;obtain⟨bb,off,y,Wv,Tn,XN,Vn⟩:=HV.o k x hx;subst Wv;have hc:=(ZW.o.cell (p:=⟨bb,off+k,none⟩) Tn).trans XN;have NX:Hid (IArg wr y x):=IArg.below ZW.o Vn;obtain⟨a5,c5,rfl,⟨hm5,Nj⟩,_⟩:=Vn;obtain⟨acc,YX⟩:∃acc,(s.take k).flatten=acc:=⟨_,rfl⟩;rw[YX] at HF Rf Cw ⊢;clear hx YX XN;go_wp2_with (at_builtin;refine wL rfl _ _ rfl wo.heap.size _ acc rfl Cw.o _ x rfl NX.o (by omega) Qn ?_)
  intro v3 w3 ZX Oa _;have ZM:Hid (Bw wo w3):=ZW.o.grown Oa Qn (λk h=>(Cw.o.lt k h).1)
  have WL:Hid (w3.ownsRow wo.heap.size 3 1 v3 (acc++x).length ((acc++x).map (Value.int .i64))):=by
   show World.ownsRow _ _ _ _ _ _ _;rw[ZC,YY];exact ZX
  clear ZX Oa;go_wp2
  go_roundw
  case rel=>exact⟨k+1,by omega,by go_num,by rw[HF.o];exact WL.o,ZM.o⟩
  case measure=>simp[intOf];omega
 have PG:k=s.length:=by omega
 subst PG;rw[EG.o] at Cw ⊢;go_wp2
 go_ret
 exact⟨_,rfl,Cw.o,ZW.o⟩
open Go.RowKit Go.Maps
theorem tU {p:Nat->Prop} (h:∃n,p n):∃n,p n/\∀m,p m->n<=m:=by
 obtain⟨n,hn⟩:=h;have:∀(k n:Nat),n<=k->p n->∃n,p n/\∀m,p m->n<=m:=by
  intro k
  induction k with
  | zero=>intro n hk hn;exact⟨n,hn,λm _=>by omega⟩
  | succ k ih =>
    intro n hk hn;by_cases h:∃m,p m/\m<n
    ·obtain⟨m,hm,Z7⟩:=h
     exact ih m (by omega) hm
    refine⟨n,hn,λm hm=>?_⟩
    apply Xz;intro hl;exact h ⟨m,hm,by omega⟩
 exact this n n (Z2 _) hn
open Classical in
noncomputable def zEn (p:Nat->Prop):Nat:=if h:∃n,p n then Classical.choose (tU h) else 0
theorem mn {p:Nat->Prop} (h:∃n,p n):p (zEn p):=by
 unfold zEn;rw[dif_pos h];exact (NC (tU h)).1
theorem tT {p:Nat->Prop} {n:Nat} (h:p n):zEn p<=n:=by
 have he:∃n,p n:=⟨n,h⟩;unfold zEn;rw[dif_pos he];exact (NC (tU he)).2 n h
structure SkO (vs:List MVar) (S:Sk):Prop where
 prf:S.proof.length<=6000
 cs:S.cs.length+S.fuel<=1000
 path:zJD vs S.path
theorem mm (vs:List MVar) (pt:List (List Nat)) (S:Sk) (h:SkO vs S) (h0:(Wt vs pt S).1=0):SkO vs (Wt vs pt S).2:=by
 unfold Wt at h0 ⊢
 split
 ·rename_i hc;rw[if_pos hc] at h0;cases h0
 rename_i XN
 rw[if_neg XN] at h0
 split
 ·rename_i hc;rw[if_pos hc] at h0;cases h0
 rename_i X'
 rw[if_neg X'] at h0
 split
 ·rename_i hc;rw[if_pos hc] at h0;cases h0
 refine⟨by simp only;omega,?_,bQ vs _ h.path _⟩
 have:=h.cs;simp only[ZC,V6];omega
theorem mj (vs:List MVar) (hv:XU vs) (pt:List (List Nat)) (S:Sk) (h:SkO vs S) (hf:¬R_ (Xk vs (Wh vs pt S))<0):SkO vs (Qf (Xk vs (Wh vs pt S)) S) :=
 ⟨h.prf,h.cs,bP vs hv pt S h.path hf⟩
def NxI (W w:World) (s r mb:Nat) (sv pv:Value) (vs:List MVar) (pt:List (List Nat)) (R:Int×List Int×Sk) (wr:World) (n:Nat):Prop :=
 ∃(S:Sk) (cv prv pav:Value) (L:List SV),QQ vs S=n/\X3 vs pt S=R/\SkO vs S/\SkD W wr s r mb sv pv cv prv pav L (S.proof.map λx=>zAH vs x.cla) S/\TFr w wr
theorem mi (vs:List MVar) (Zf:Vb vs) (XH:1<=vs.length) (pt:List (List Nat)) (W:World) (s r mb:Nat) (sv pv cv prv pav:Value) (hB:SkB W s r mb sv pv vs pt) (L:List SV) (S:Sk) (hS:SkO vs S) (w:World)
 (hD:SkD W w s r mb sv pv cv prv pav L (S.proof.map λx=>zAH vs x.cla) S) :
 Calls prog 66 #[.pointer (some ⟨s,0,none⟩)] w λe w'=>∃x,e=.returned (.tuple #[.int .i64 (X3 vs pt S).1,x])/\w'.ownsRow w.heap.size 3 1 x (X3 vs pt S).2.1.length ((X3 vs pt S).2.1.map (Value.int .i64))/\TFr w w' /\
  ∃cv' prv' pav' L',SkD W w' s r mb sv pv cv' prv' pav' L' ((X3 vs pt S).2.2.proof.map λx=>zAH vs x.cla) (X3 vs pt S).2.2:=by
 obtain⟨R,hR⟩:∃R,X3 vs pt S=R:=⟨_,rfl⟩;rw[hR];obtain⟨i0,WJ,Ze,Y_,Zb⟩:=info_parts Hb;have YQ:=hI Zf;have UZ:=hI hB;have HI:Hid (∃n,NxI W w s r mb sv pv vs pt R w n):=⟨_,S,cv,prv,pav,L,rfl,hR,hS,hD,TFr.refl _⟩;obtain⟨asv,csv,R'⟩:∃a c,sv=.slice a vs.length c:=by obtain⟨a,c,h,_⟩:=(hB.keep w hD.fr).1;exact⟨a,c,h⟩
 subst R';clear hD hB Zf hR hS;go_enter func66,ntmps66
 go_wp2_with fail
 go_loopw [] (λwr=>∃n,NxI W w s r mb (.slice asv vs.length csv) pv vs pt R wr n) (λwr=>zEn (NxI W w s r mb (.slice asv vs.length csv) pv vs pt R wr))
 case atStart=>exact HI.o
 have Sy:=mn hrel;obtain⟨N,hN⟩:∃N,zEn (NxI W w s r mb (.slice asv vs.length csv) pv vs pt R wr)=N:=⟨_,rfl⟩;have HN:=hI hN;rw[hN] at Sy;clear hrel HI hN;obtain⟨S',cv',prv',pav',L',GR,tS,JB,hd,LF⟩:=Sy;have DT:=hI GR;have XA:=hI tS;have OG:=hI JB;have HD:=hI hd
 have mh:=hI LF;obtain⟨apa,cpa,rfl⟩:=ZJ hd.path;obtain⟨s0,s1,s2,s3,s4,s5,s6⟩:=hd.cells;have UO:=bR vs _ JB.path;obtain⟨l,hl⟩:∃l,Wh vs pt S'=l:=⟨_,rfl⟩;have HL:=hI hl;have OM:Hid (∀Z,Bw wr Z->Calls prog 123 #[.pointer (some ⟨r,0,none⟩),.slice apa S'.path.length cpa] Z λe w'=>e=.returned (.int .u64 (l:Int))/\Bw Z w'):=λZ hZ=>by
  rw[<-hl];exact mU vs YQ.o XH S'.cs pt S'.path r _ pv cv' _ Z ((hd.below hZ).rules UZ.o) (LOwn.arg (hd.below hZ).path)
 have ZZ:=vT vs YQ.o.1 pt S';rw[tS,hl] at ZZ;have zt:∀i,l.testBit i=true->(zAN vs).testBit i=true:=λi hi=>by rw[<-hl] at hi;exact (z8 vs YQ.o.1 _ _ _ i hi).1
 have HWL:=hI zt;have Yx:=(show Hid _ from ZZ)
 clear GR tS JB hd LF hl ZZ zt;go_wp2_with fail
 go_region_law
  (first
    | (rw[if_pos (by rfl)];go_simp;go_at_call 123;refine (OM.o _ (Z6 _ _).drew).mono ?_;rintro e w2 ⟨rfl,ZY⟩;have Vl:Bw wr w2:=(Z6 _ _).drew.trans ZY;dsimp only))
 all_goals
  have Uf:=(show Hid _ from HD.o.below Vl)
  have TX:Hid (TFr w w2):=mh.o.trans (TFr.below Vl);clear ZY Vl s0 s1 s2 s3 s4 s5 s6 HD mh;obtain⟨s0,s1,s2,s3,s4,s5,s6⟩:=Uf.o.cells;by_cases Xm:l=0
  ·have ZZ:=Yx.o
   rw[if_pos Xm] at ZZ;subst Xm;go_wp2_with fail
   refine (zUc vs YQ.o XH pt W s r mb _ pv _ _ _ UZ.o L' S' OG.o.prf OG.o.cs UO HL.o w2 Uf.o).mono ?_;rintro e w3 ⟨rfl,LQ,cv3,prv3,pav3,L3,Ks⟩;have Kv:=hI (TX.o.trans LQ);clear LQ;by_cases hv:(Wt vs pt S').1=0
   ·rw[if_pos hv] at ZZ
    have Kr:Hid (NxI W w s r mb (.slice asv vs.length csv) pv vs pt R w3 (QQ vs (Wt vs pt S').2)):=⟨_,cv3,prv3,pav3,L3,rfl,ZZ.symm,mm vs pt S' OG.o hv,Ks,Kv.o⟩;have Tp:Hid (QQ vs (Wt vs pt S').2<N):=by rw[<-DT.o];exact Dp vs pt S' hv
    rw[hv];clear ZZ hv Ks Yx OM;go_wp2
    go_roundw
    case rel=>exact⟨_,Kr.o⟩
    case measure=>exact UW (tT Kr.o) (by rw[HN.o];exact Tp.o)
   rw[if_neg hv] at ZZ;have Va:=hI ZZ;have P4:=(show Hid _ from Ks)
   obtain⟨vd,tR⟩:∃vd,(Wt vs pt S').1=vd:=⟨_,rfl⟩;have HVD:=hI tR;rw[tR] at hv ⊢;have UC:(vd != 0)=true:=by simpa using hv
   clear ZZ Ks tR Yx OM;go_wp2
   go_ret2
   rw[Va.o,HVD.o];exact⟨_,rfl,ZH _ _ _ _,Kv.o,_,_,_,_,P4.o⟩
  have ZZ:=Yx.o;rw[if_neg Xm] at ZZ;have vz:((l:Int)==0)=false:=by simpa using Xm
  obtain⟨st,MR⟩:∃st,Xk vs l=st:=⟨_,rfl⟩;have MQ:=hI MR;rw[MR] at ZZ;have GK:st.length<=6:=by rw[<-MR,vW];exact YQ.o.1.1
  have Ey:Hid (∀r∈st,r.length<=100):=λr hr=>by
   obtain⟨i,hi⟩:=Wm.1 hr;have h1:=uk (VE vs l) (List.replicate vs.length []) i;have h2:(T4 (VE vs l) (List.replicate vs.length [])).getD i []=r:=by
    have:T4 (VE vs l) (List.replicate vs.length [])=st:=MR;rw[this,ZO,hi];rfl
   rw[h2] at h1;have h3:=E3 vs l;have h4:((List.replicate vs.length ([]:List Int)).getD i []).length=0:=by
    rw[ZO,O6]
    split <;> rfl
   omega
  clear MR;go_wp2_with fail
  refine (zQi vs YQ.o l HWL.o _ w2 (UZ.o.keep _ Uf.o.fr).1 (UZ.o.keep _ Uf.o.fr).2.2).mono ?_;rintro e w3 ⟨B,cells,rfl,Oa,hBs,ZG⟩;rw[MQ.o] at Oa;have LE:=hI Oa;have P4:=(show Hid _ from Uf.o.below ZG)
  have Kv:Hid (TFr w w3):=TX.o.trans (TFr.below ZG);clear ZG s0 s1 s2 s3 s4 s5 s6 Uf TX OM;obtain⟨s0,s1,s2,s3,s4,s5,s6⟩:=P4.o.cells;go_wp2_with fail
  refine (zQk st GK _ w3 LE.o.rarg).mono ?_;rintro e w4 ⟨rfl,rfl⟩;obtain⟨ff,Kq⟩:∃ff,R_ st=ff:=⟨_,rfl⟩;have OU:=hI Kq;rw[Kq] at ZZ ⊢;by_cases R7:ff<0
  ·rw[if_pos R7] at ZZ
   have Va:=hI ZZ;clear ZZ Kq Oa;go_wp2_with fail
   refine (zQm st GK Ey.o _ w4 LE.o.rarg).mono ?_;rintro e w5 ⟨x,rfl,Xc,Yd⟩;have GJ:=hI Xc;have Cy:=(show Hid _ from P4.o.below Yd)
   have EB:Hid (TFr w w5):=Kv.o.trans (TFr.below Yd);have tQ:=hI Kv.o.size;clear Xc Yd;go_wp2
   go_ret2
   rw[Va.o];exact⟨_,rfl,World.ownsRow.mono GJ.o tQ.o,EB.o,_,_,_,_,Cy.o⟩
  rw[if_neg R7] at ZZ;obtain⟨mf,P8⟩:=oy st (by rw[Kq];exact R7)
  rw[Kq] at mf P8;obtain⟨v,rfl⟩:∃v:Nat,ff=(v:Int):=⟨ff.toNat,by omega⟩
  rw[YK] at P8;have X8:v<st.length:=by omega
  obtain⟨row,ZS⟩:∃row,st[v]? = some row:=⟨st[v],by rw[ZA X8]⟩
  rw[ZO,ZS] at P8;simp only[RQ] at P8;obtain⟨P5,Zr,MU,_⟩:=Oa;obtain⟨xr,Pn,MP⟩:=MU v row ZS;obtain⟨axr,cxr,rfl⟩:=ZJ MP;obtain⟨gx,hgx⟩:∃gx,axr=some ⟨gx,0,none⟩:=by
   rcases MP.2 with ⟨_,hn⟩ | ⟨g,cap,cur,he,_⟩
   ·omega
   cases he;exact⟨g,rfl⟩
  subst hgx;obtain⟨x0,TK⟩:∃x0,row[0]? = some x0:=⟨row[0],by rw[ZA (by omega)]⟩
  have cB:w4.cell? ⟨B,v,none⟩=some (.slice (some ⟨gx,0,none⟩) row.length cxr):=by rw[P5.cellAt v (by omega)];exact Pn
  have lB:B<w4.heap.size:=(P5.lt B rfl).2;have cX:w4.cell? ⟨gx,0,none⟩=some (.int .i64 x0):=by rw[MP.cellAt 0 (by omega),YN,TK];rfl
  have lX:gx<w4.heap.size:=(MP.lt gx rfl).2;have HPK:Hid (z_ st=⟨(v:Int),4,x0⟩):=by
   show _=_;unfold z_;have SH:st.getD v []=row:=by rw[ZO,ZS];rfl
   rw[Kq,YK,SH,ZO,TK];rfl
  have Va:=hI ZZ;have tP:Hid (SkO vs (Qf st S')):=by rw[<-MQ.o,<-HL.o];exact mj vs YQ.o.1 pt S' OG.o (by rw[HL.o,MQ.o,Kq];exact R7)
  have tO:Hid (QQ vs (Qf st S')<N):=by rw[<-DT.o,<-MQ.o,<-HL.o];exact Do vs YQ.o.1 pt S' (by rw[HL.o,MQ.o,Kq];exact R7)
  have Vo:v<vs.length:=by omega
  have hvn':(v:Int)<(vs.length:Int):=by omega
  have VR:0<row.length:=by omega
  have Yq:(0:Int)<(row.length:Int):=by omega
  have hr3:¬row=[]:=λh=>by rw[h] at VR;cases VR
  have hWs:W.heap.size<=w4.heap.size:=P4.o.fr.size;have GI:w4.ownsRow W.heap.size 76 3 (.slice apa S'.path.length cpa) S'.path.length (U_ S'.path):=P4.o.path;have W9:¬((v:Int)<0):=by omega
  clear ZZ Kq ZS Pn TK MP P5 MU Zr mf P8 X8 Yx GK;go_wp2_with fail
  go_region_law
   (first
     | (rw[if_pos (by rfl)];refine um _ _ _ 28 rfl W.heap.size 76 i0 _ 3 24 nB WJ Ze Y_ Zb rfl (by decide) _ _ _ rfl (GI.drew.alloc _) ⟨w4.heap.size,0,none⟩ 1 1 (TH ⟨(v:Int),4,x0⟩) rfl rfl (nz w4.drew ⟨(v:Int),4,x0⟩) (by intro u hu;simp[TH] at hu;rcases hu with rfl | rfl | rfl <;> rfl) ?_ ?_ ?_ ?_;(unfold maxLen;omega);omega;(simp;omega);intro v7 w7 WH LH Kw;obtain⟨a7,c7,ua⟩:=ZJ WH;subst ua
        have Tm:=Sz (P4.o.below ((Z6 _ _).drew.alloc (Z2 _) _)).blkS LH (GI.drew.alloc _) (by decide)
        have t5:w7.cell? ⟨s,5,none⟩=some (.slice apa S'.path.length cpa):=Z_ Tm 5 _ rfl;have z5:w7.frozen? ⟨s,5,none⟩=false:=Z0 Tm 5;have l5:s<w7.heap.size:=(Z8.1 Tm).1))
  all_goals
   have Kr:Hid (NxI W w s r mb (.slice asv vs.length csv) pv vs pt R (w7.setCell ⟨s,5,none⟩ (.slice a7 (S'.path.length+1) c7)) (QQ vs (Qf st S'))):=by
    have Yd:Bw w4 (w4.drew.alloc (.cells #[.int .i64 (v:Int),.int .i64 4,.int .i64 x0] 76)):=(Z6 _ _).drew.alloc (Z2 _) _;have MT:=P4.o.pushp (l:=⟨(v:Int),4,x0⟩) Yd LH Kw rfl WH;have Tu:SkD W (w7.setCell ⟨s,5,none⟩ (.slice a7 (S'.path.length+1) c7)) s r mb (.slice asv vs.length csv) pv cv' prv' (.slice a7 (S'.path.length+1) c7) L' ((Qf st S').proof.map λx=>zAH vs x.cla) (Qf st S'):=by
     unfold Qf;rw[HPK.o];exact MT
    exact⟨Qf st S',_,_,_,L',rfl,Va.o.symm,tP.o,Tu,((Kv.o.trans (TFr.below Yd)).trans (TFr.grown (GI.drew.alloc _) LH zWC)).trans (TFr.set Tm zz 5 _)⟩
   go_wp2
   go_roundw
   case rel=>exact⟨_,Kr.o⟩
   case measure=>exact UW (tT Kr.o) (by rw[HN.o];exact tO.o)
open Go.RowKit
theorem me (m:Mod) (hm:Zs m=0):∀pts∈ptsM m,∀z∈pts,z<2 ^ 36:=by
 intro pts hp;obtain⟨c,QU,rfl⟩:=Zj.1 hp;obtain⟨j,hj⟩:=Wm.1 QU;exact nF m hm j c hj
theorem zWu {w W:World} {r:Nat} {sv pv:Value} {vs:List MVar} {pt:List (List Nat)} (hr:w.heap.size<=r) (hrW:r<W.heap.size) (hb:Bw w W) (hv:VArg w sv vs) (hT:TabT w) (hp:PRow (r+1) W pv pt) (hl:∀pts∈pt,∀z∈pts,z<2 ^ 36):Rul W r sv pv vs pt:=by
 refine⟨hrW,λw' hf=>?_⟩
 have ZY:Bw w w':=⟨hf.os.trans hb.os,hf.tape.trans hb.tape,hf.output.trans hb.output,ZT hb.size hf.size,λk hk=>(hf.block k (ZQ hk hb.size) (by omega)).trans (hb.block k hk)⟩
 exact⟨VArg.below ZY hv,(hp.fr hf (λg hg=>by omega)).arg hl,hT.below ZY⟩
theorem zSY (m:Mod) (hm:Zs m=0) (vs cs:Value) (w:World) (Y8:MArg w vs cs m) (hT:TabT w) :
 Calls prog 82 #[modV vs cs m] w λe w'=>∃r pv,e=.returned (.pointer (some ⟨r,0,none⟩))/\Rul w' r vs pv m.vars (ptsM m)/\RulD w' w' r vs pv (.slice none 0 0) []/\w.heap.size<=r/\Bw w w'/\PRow (r+1) w' pv (ptsM m):=by
 obtain⟨i0,WJ,Ze,Y_,Zb⟩:=info_parts ah;have Y3:Hid (∀w',Bw w w'->MArg w' vs cs m):=λw' h=>MArg.below h Y8
 have GH:=hI Y8.1;have HT:=hI hT;have HM:=hI hm;have h8:m.cons.length<=8:=(RH m hm).2.2.1;obtain⟨⟨a1,c1,rfl,_,_⟩,⟨a2,c2,rfl,_,_⟩⟩:=Y8;unfold modV;obtain⟨L,hL⟩:∃L,ptsM m=L:=⟨_,rfl⟩;have HL:=hI hL;have Um:Hid (L.length=m.cons.length):=by show _=_;rw[<-hL];unfold ptsM;rw[YU]
 rw[hL];clear hL;clear hm hT;go_enter func82,ntmps82
 go_wp2_with fail
 have Zt:Hid (Bw w ((w.alloc (.cells #[.slice a1 m.vars.length c1,.slice a2 m.cons.length c2,.int .i64 m.goal,.int .i64 m.var] 25)).alloc (.cells #[.slice a1 m.vars.length c1,.slice none 0 0,.slice none 0 0] 141))):=(Z4 _ _).alloc (by simp) _
 have HQ:Hid (((w.alloc (.cells #[.slice a1 m.vars.length c1,.slice a2 m.cons.length c2,.int .i64 m.goal,.int .i64 m.var] 25)).alloc (.cells #[.slice a1 m.vars.length c1,.slice none 0 0,.slice none 0 0] 141)).heap[w.heap.size]? = some (.cells #[.slice a1 m.vars.length c1,.slice a2 m.cons.length c2,.int .i64 m.goal,.int .i64 m.var] 25)):=((Z4 (w.alloc (.cells #[.slice a1 m.vars.length c1,.slice a2 m.cons.length c2,.int .i64 m.goal,.int .i64 m.var] 25)) (.cells #[.slice a1 m.vars.length c1,.slice none 0 0,.slice none 0 0] 141)).block w.heap.size (by simp)).trans (heap_alloc_new w _)
 have md:Hid (((w.alloc (.cells #[.slice a1 m.vars.length c1,.slice a2 m.cons.length c2,.int .i64 m.goal,.int .i64 m.var] 25)).alloc (.cells #[.slice a1 m.vars.length c1,.slice none 0 0,.slice none 0 0] 141)).heap[w.heap.size+1]? = some (.cells #[.slice a1 m.vars.length c1,.slice none 0 0,.slice none 0 0] 141)):=by
  have h:=heap_alloc_new (w.alloc (.cells #[.slice a1 m.vars.length c1,.slice a2 m.cons.length c2,.int .i64 m.goal,.int .i64 m.var] 25)) (.cells #[.slice a1 m.vars.length c1,.slice none 0 0,.slice none 0 0] 141);rw[World.size_alloc] at h;exact h
 have Xd:Hid (((w.alloc (.cells #[.slice a1 m.vars.length c1,.slice a2 m.cons.length c2,.int .i64 m.goal,.int .i64 m.var] 25)).alloc (.cells #[.slice a1 m.vars.length c1,.slice none 0 0,.slice none 0 0] 141)).heap.size=w.heap.size+2):=by show _=_;simp
 obtain⟨W,hW⟩:∃W,((w.alloc (.cells #[.slice a1 m.vars.length c1,.slice a2 m.cons.length c2,.int .i64 m.goal,.int .i64 m.var] 25)).alloc (.cells #[.slice a1 m.vars.length c1,.slice none 0 0,.slice none 0 0] 141))=W:=⟨_,rfl⟩;rw[hW] at Zt HQ md Xd ⊢;clear hW;go_loopw [12] (λi wr=>∃(k:Nat) (pv:Value),k<=m.cons.length/\i=.int .i64 k/\Hid (PRow (w.heap.size+2) wr pv (L.take k))/\Hid (wr.heap[w.heap.size+1]? = some (.cells #[.slice a1 m.vars.length c1,pv,.slice none 0 0] 141))/\Hid (Below (w.heap.size+1) W wr)) (λi _=>m.cons.length - (intOf i).toNat)
 case atStart=>exact⟨0,.slice none 0 0,by omega,rfl,⟨[],ZH _ _ _ _,λi pts h=>by simp at h⟩,md,Z6 _ _⟩
 obtain⟨k,pv,hk,rfl,WM,Kp,ZW⟩:=hrel;have Y7:Hid (Bw w wr):=Zt.o.trans (ZW.o.mono (by omega))
 have XF:Hid (w.heap.size+2<=wr.heap.size):=by have:=ZW.o.size;have:=Xd.o;show _<=_;omega
 have QI:Hid (wr.heap[w.heap.size]? = some (.cells #[.slice a1 m.vars.length c1,.slice a2 m.cons.length c2,.int .i64 m.goal,.int .i64 m.var] 25)):=(ZW.o.block w.heap.size (by omega)).trans HQ.o
 have k0:wr.cell? ⟨w.heap.size,0,none⟩=some (.slice a1 m.vars.length c1):=Z_ QI.o 0 _ rfl;have k1:wr.cell? ⟨w.heap.size,1,none⟩=some (.slice a2 m.cons.length c2):=Z_ QI.o 1 _ rfl;have k2:wr.cell? ⟨w.heap.size,2,none⟩=some (.int .i64 m.goal):=Z_ QI.o 2 _ rfl;have k3:wr.cell? ⟨w.heap.size,3,none⟩=some (.int .i64 m.var):=Z_ QI.o 3 _ rfl;obtain⟨cells,tN,Rg⟩:=WM.o;have zr:=hI tN;have Wp:=hI Rg;obtain⟨ap,cp,Cv⟩:=ZJ tN;have Jn:Hid ((L.take k).length=k):=by show _=_;rw[X_,Um.o];omega
 rw[Jn.o] at Cv zr;subst Cv;have g1:wr.cell? ⟨w.heap.size+1,1,none⟩=some (.slice ap k cp):=Z_ Kp.o 1 _ rfl;have lr:w.heap.size<wr.heap.size:=by have:=XF.o;omega
 have lr1:w.heap.size+1<wr.heap.size:=by have:=XF.o;omega
 clear tN Rg;by_cases Z7:k<m.cons.length
 ·obtain⟨c,hc⟩:∃c,m.cons[k]? = some c:=⟨m.cons[k],by simp[Z7]⟩
  have N4:Hid (L[k]? = some (XB m.vars c)):=by show _=_;rw[<-HL.o];unfold ptsM;rw[YN,hc];rfl
  have zq:Hid (∀Y,Bw wr Y->Calls prog 120 #[.agg #[.slice a1 m.vars.length c1,.slice a2 m.cons.length c2,.int .i64 m.goal,.int .i64 m.var],.int .i64 (k:Int)] Y λe w'=>∃x,e=.returned x/\w'.ownsRow Y.heap.size 136 1 x (XB m.vars c).length (u64s (XB m.vars c))/\Bw Y w'):=λY hY =>
   nG m k c _ _ Y HM.o hc (Y3.o _ (Y7.o.trans (hY.mono Y7.o.size)))
  have Cu:Hid (L.take (k+1)=L.take k++[XB m.vars c]):=by show _=_;rw[Y1,N4.o];rfl
  obtain⟨pts,SD⟩:∃pts,XB m.vars c=pts:=⟨_,rfl⟩;rw[SD] at zq Cu;clear hc SD;go_wp2_with fail
  go_region_law
   (first
     | (rw[if_pos (by rfl)];refine wp_append_own _ _ _ 138 rfl (w.heap.size+2) 139 i0 _ 1 24 ag WJ Ze Y_ Zb rfl (by decide) _ _ _ rfl (V'.alloc _) ⟨w3.heap.size,0,none⟩ 1 1 [.slice ax pts.length cx] rfl rfl (af w3 (.slice ax pts.length cx)) (by intro u hu;simp at hu;subst hu;rfl) ?_ ?_ ?_ ?_;(unfold maxLen;omega);omega;(have:=hB3.size;have:=XF.o;simp;omega);intro v4 w4 Zw SG _;have hP:PRow (w.heap.size+2) w4 v4 (L.take k++[pts]):=PRow.push (by rw[Jn.o];exact V'.alloc _) (λi p hi=>(hr3 i p hi).imp λy hy=>⟨hy.1,hy.2.alloc _⟩) (Pm.alloc _) SG (by rw[Jn.o]) Zw;obtain⟨a9,b9,Rk⟩:=ZJ Zw;subst Rk;have zp:=Sz (((Z4 w3 _).block (w.heap.size+1) l3).trans hbk3) SG (V'.alloc _) (by decide);have d2:w4.cell? ⟨w.heap.size+1,1,none⟩=some (.slice ap k cp):=Z_ zp 1 _ rfl;have z2:w4.frozen? ⟨w.heap.size+1,1,none⟩=false:=Z0 zp 1)
     | (rw[if_pos (by rfl)];go_simp;go_at_call 120;refine (zq.o _ (Z6 _ _).drew).mono ?_;rintro e w3 ⟨x,rfl,hx,ZG⟩;obtain⟨ax,cx,rfl⟩:=ZJ hx;have hB3:Bw wr w3:=(Z6 _ _).drew.trans ZG;have c3:w3.cell? ⟨w.heap.size+1,1,none⟩=some (.slice ap k cp):=(hB3.cell (p:=⟨w.heap.size+1,1,none⟩) lr1).trans g1;have V':w3.ownsRow (w.heap.size+2) 139 1 (.slice ap k cp) k cells:=YZ zr.o hB3;have hr3:∀(i:Nat) (p:List Nat),(L.take k)[i]? = some p->∃x,cells[i]? = some x/\w3.ownsRow (w.heap.size+2) 136 1 x p.length (u64s p):=λi p hi=>(Wp.o i p hi).imp λy hy=>⟨hy.1,YZ hy.2 hB3⟩;have Pm:w3.ownsRow (w.heap.size+2) 136 1 (.slice ax pts.length cx) pts.length (u64s pts):=World.ownsRow.mono hx XF.o;have l3:w.heap.size+1<w3.heap.size:=ZQ lr1 hB3.size;have hbk3:=(hB3.block (w.heap.size+1) lr1).trans Kp.o;dsimp only))
  all_goals
   have Wq:Hid (PRow (w.heap.size+2) (w4.setCell ⟨w.heap.size+1,1,none⟩ (.slice a9 (k+1) b9)) (.slice a9 (k+1) b9) (L.take (k+1))):=by
    rw[Cu.o];exact hP.fr (X:=λg=>g=w.heap.size+1) (Fr.setX (X:=λg=>g=w.heap.size+1) (Fr.refl _ _) (p:=⟨w.heap.size+1,1,none⟩) rfl _) (λg hg=>by omega)
   have zo:Hid ((w4.setCell ⟨w.heap.size+1,1,none⟩ (.slice a9 (k+1) b9)).heap[w.heap.size+1]? = some (.cells #[.slice a1 m.vars.length c1,.slice a9 (k+1) b9,.slice none 0 0] 141)):=by show _=_;rw[heap_setCell_same w4 (w.heap.size+1) 1 _ _ _ zp];rfl
   have Yp:Hid (Below (w.heap.size+1) W (w4.setCell ⟨w.heap.size+1,1,none⟩ (.slice a9 (k+1) b9))):=((((ZW.o.trans (hB3.mono (by have:=XF.o;omega))).alloc (by have:=hB3.size;have:=XF.o;omega) _).grown SG (by have:=hB3.size;have:=XF.o;simp;omega) (λg hg=>by have:=((V'.alloc (.cells #[.slice ax pts.length cx] 139)).lt g hg).1;omega))).setCell (show w.heap.size+1<=w.heap.size+1 from Z2 _) _
   clear hP hx ZG hB3 c3 V' hr3 Pm l3 hbk3 Zw SG zp k0 k1 k2 k3 g1 WM Kp ZW;go_wp2
   go_roundw
   case rel=>exact⟨k+1,_,by omega,by go_num,Wq,zo,Yp⟩
   case measure=>simp[intOf];omega
 have Xa:k=m.cons.length:=by omega
 have Ur:Hid (PRow (w.heap.size+2) wr (.slice ap k cp) L):=by have:=WM.o;rw[Zi (by rw[Um.o];omega)] at this;exact this
 have Dh:Hid (Rul wr (w.heap.size+1) (.slice a1 m.vars.length c1) (.slice ap k cp) m.vars L):=zWu (by omega) lr1 Y7.o GH.o HT.o Ur.o (by rw[<-HL.o];exact me m HM.o)
 have Tl:Hid (RulD wr wr (w.heap.size+1) (.slice a1 m.vars.length c1) (.slice ap k cp) (.slice none 0 0) []):=⟨Kp.o,ZH _ _ _ _,(λz hz=>by cases hz),Fr.refl _ _⟩
 have V4:¬((k:Int)<(m.cons.length:Int)):=by omega
 clear Xa k0 k1 k2 k3 g1;go_wp2
 go_ret
 exact⟨w.heap.size+1,rfl,_,Dh.o,Tl.o,by omega,Y7.o,Ur.o⟩
theorem zn {w w1 W:World} {s r mb:Nat} {sv pv:Value} {vs:List MVar} {pt:List (List Nat)} {fuel:Nat} (hv:VArg w sv vs) (hT:TabT w) (Z5:Bw w w1) (hr:w.heap.size<=r) (hm:w.heap.size<=mb) (hs:w1.heap.size<=s) (hmr:mb<r∨w1.heap.size<=mb)
 (hp:PRow (r+1) w1 pv pt) (hl:∀pts∈pt,∀z∈pts,z<2 ^ 36) (Xi:Bw w1 W)
 (hR:W.heap[r]? = some (.cells #[sv,pv,.slice none 0 0] 141)) (hS:W.heap[s]? = some (.cells #[sv,.pointer (some ⟨r,0,none⟩),.int .i64 (fuel:Int),.slice none 0 0,.map (some mb),.slice none 0 0] 116))
 (hM:W.ownsMap prog 136 (unitElem (H:=Unit)) mb 0 (setU [])):SkB W s r mb sv pv vs pt/\SkD W W s r mb sv pv (.slice none 0 0) (.slice none 0 0) (.slice none 0 0) [] [] ⟨[],fuel,[],[]⟩:=by
 refine⟨⟨(Z8.1 hR).1,(Z8.1 hS).1,hM.lt,λw' hf=>?_⟩,⟨hR,hS,ZH _ _ _ _,(λz hz=>by cases hz),⟨ZH _ _ _ _,(λx hx=>by cases hx)⟩,rfl,hM,ZH _ _ _ _,(λx hx=>by cases hx),Fr.refl _ _⟩⟩
 have ZY:Bw w w':=⟨hf.os.trans (Xi.os.trans Z5.os),hf.tape.trans (Xi.tape.trans Z5.tape),hf.output.trans (Xi.output.trans Z5.output),ZT (ZT Z5.size Xi.size) hf.size,λk hk=>by
  have h1:=Z5.size;have h2:=Xi.size;exact (hf.block k (by omega) (by unfold XS;omega)).trans ((Xi.block k (by omega)).trans (Z5.block k hk))⟩
 refine⟨VArg.below ZY hv,?_,hT.below ZY⟩;have W9:Fr (λk=>k=r∨k=mb/\mb<r) w1 w':=⟨hf.os.trans Xi.os,hf.tape.trans Xi.tape,hf.output.trans Xi.output,ZT Xi.size hf.size,λk hk hn=>by
  have h2:=Xi.size;exact (hf.block k (by omega) (by unfold XS;omega)).trans (Xi.block k hk)⟩
 exact (hp.fr W9 (λg hg=>by omega)).arg hl
def NewQ (m:Mod) (vs:Value) (fuel:Nat) (w W:World) (s:Nat):Prop:=∃r mb pv,SkB W s r mb vs pv m.vars (ptsM m)/\SkD W W s r mb vs pv (.slice none 0 0) (.slice none 0 0) (.slice none 0 0) [] [] ⟨[],fuel,[],[]⟩/\Bw w W/\w.heap.size<=r/\w.heap.size<=s/\w.heap.size<=mb
theorem ma (m:Mod) (hm:Zs m=0) (fuel:Nat) (vs cs:Value) (w:World) (Y8:MArg w vs cs m) (hT:TabT w) :
 Calls prog 65 #[modV vs cs m,.int .i64 (fuel:Int)] w λe W=>∃s,e=.returned (.pointer (some ⟨s,0,none⟩))/\NewQ m vs fuel w W s:=by
 have Y3:Hid (∀w',Bw w w'->MArg w' vs cs m):=λw' h=>MArg.below h Y8
 have HT:Hid (∀w',Bw w w'->TabT w'):=λw' h=>hT.below h
 have Tp:Hid (∀pts∈ptsM m,∀z∈pts,z<2 ^ 36):=me m hm;have l_:Hid (∀Z,Bw w Z->Calls prog 82 #[modV vs cs m] Z λe w'=>∃r pv,e=.returned (.pointer (some ⟨r,0,none⟩))/\w'.heap[r]? = some (.cells #[vs,pv,.slice none 0 0] 141)/\Z.heap.size<=r/\Bw Z w'/\PRow (r+1) w' pv (ptsM m)):=λZ hZ =>
  (zSY m hm vs cs Z (Y3.o _ hZ) (HT.o _ hZ)).mono (by rintro e w' ⟨r,pv,h1,_,h3,h4,h5,h6⟩;exact⟨r,pv,h1,h3.blk,h4,h5,h6⟩)
 have HV:=hI Y8.1;obtain⟨⟨a1,c1,rfl,_,_⟩,⟨a2,c2,rfl,_,_⟩⟩:=Y8;unfold modV at *;have K3:=@run_makeMap prog;clear hm hT;go_enter func65,ntmps65
 go_wp2_with fail
 have Yt:Bw w (w.alloc (.cells #[.slice a1 m.vars.length c1,.slice a2 m.cons.length c2,.int .i64 m.goal,.int .i64 m.var] 25)):=Z4 _ _;obtain⟨Y,hY⟩:∃Y,w.alloc (.cells #[.slice a1 m.vars.length c1,.slice a2 m.cons.length c2,.int .i64 m.goal,.int .i64 m.var] 25)=Y:=⟨_,rfl⟩;have d0:Y.cell? ⟨w.heap.size,0,none⟩=some (.slice a1 m.vars.length c1):=by rw[<-hY];simp
 have d1:Y.cell? ⟨w.heap.size,1,none⟩=some (.slice a2 m.cons.length c2):=by rw[<-hY];simp
 have d2:Y.cell? ⟨w.heap.size,2,none⟩=some (.int .i64 m.goal):=by rw[<-hY];simp
 have d3:Y.cell? ⟨w.heap.size,3,none⟩=some (.int .i64 m.var):=by rw[<-hY];simp
 have dl:w.heap.size<Y.heap.size:=by rw[<-hY];simp
 rw[hY] at Yt ⊢;have WI:=hI Yt;clear hY Yt;go_region_law
  (first
    | (rw[if_pos (by rfl)];go_simp;go_at_call 82;refine (l_.o _ WI.o.drew).mono ?_;rintro e w3 ⟨r,pv,rfl,hr3,Uz,ZG,Sw⟩;have hB3:Bw Y w3:=(Z6 _ _).drew.trans ZG;have d0':=(hB3.cell (p:=⟨w.heap.size,0,none⟩) dl).trans d0;have dl':w.heap.size<w3.heap.size:=ZQ dl hB3.size;dsimp only)
    | (rw[if_pos (by rfl)];go_simp;go_at_call 82;refine (l_.o _ (WI.o.drew.alloc WI.o.size _)).mono ?_;rintro e w3 ⟨r,pv,rfl,hr3,Uz,ZG,Sw⟩;have GG:Bw Y w3:=((Z6 _ _).drew.alloc (Z2 _) _).trans (ZG.mono (by simp));have d0':=(GG.cell (p:=⟨w.heap.size,0,none⟩) dl).trans d0;have dl':w.heap.size<w3.heap.size:=ZQ dl GG.size;dsimp only))
 all_goals
  first
   | (have HQ:Hid (NewQ m (.slice a1 m.vars.length c1) fuel w ((w3.alloc (.map #[] 0)).alloc (.cells #[.slice a1 m.vars.length c1,.pointer (some ⟨r,0,none⟩),.int .i64 (fuel:Int),.slice none 0 0,.map (some w3.heap.size),.slice none 0 0] 116)) (w3.heap.size+1)):=by
       have Z3:Bw w w3:=WI.o.trans (hB3.mono WI.o.size);have Xi:Bw w3 ((w3.alloc (.map #[] 0)).alloc (.cells #[.slice a1 m.vars.length c1,.pointer (some ⟨r,0,none⟩),.int .i64 (fuel:Int),.slice none 0 0,.map (some w3.heap.size),.slice none 0 0] 116)):=(Z4 _ _).alloc (by simp) _
       have Y':=Z3.size;have hry:Y.heap.size<=r:=Uz;have hS:=heap_alloc_new (w3.alloc (.map #[] 0)) (.cells #[.slice a1 m.vars.length c1,.pointer (some ⟨r,0,none⟩),.int .i64 (fuel:Int),.slice none 0 0,.map (some w3.heap.size),.slice none 0 0] 116);rw[World.size_alloc] at hS;exact⟨r,w3.heap.size,pv,(zn HV.o (HT.o _ (Z6 _ _)) Z3 (by omega) (by omega) (by omega) (Or.inr (Z2 _)) Sw Tp.o Xi ((Xi.block r (Z8.1 hr3).1).trans hr3) hS ((World.ownsMap_made _ _ _ _).alloc _)).1,(zn HV.o (HT.o _ (Z6 _ _)) Z3 (by omega) (by omega) (by omega) (Or.inr (Z2 _)) Sw Tp.o Xi ((Xi.block r (Z8.1 hr3).1).trans hr3) hS ((World.ownsMap_made _ _ _ _).alloc _)).2,Z3.trans (Xi.mono Y'),by omega,by omega,by omega⟩
      go_wp2
      go_ret
      exact⟨_,rfl,HQ.o⟩)
   | (have HQ:Hid (NewQ m (.slice a1 m.vars.length c1) fuel w (w3.alloc (.cells #[.slice a1 m.vars.length c1,.pointer (some ⟨r,0,none⟩),.int .i64 (fuel:Int),.slice none 0 0,.map (some Y.heap.size),.slice none 0 0] 116)) w3.heap.size):=by
       have Z3:Bw w w3:=WI.o.trans (GG.mono WI.o.size);have Xi:Bw w3 (w3.alloc (.cells #[.slice a1 m.vars.length c1,.pointer (some ⟨r,0,none⟩),.int .i64 (fuel:Int),.slice none 0 0,.map (some Y.heap.size),.slice none 0 0] 116)):=Z4 _ _;have Y':=Z3.size;have hry:Y.heap.size+1<=r:=by simpa using Uz
       have hS:=heap_alloc_new w3 (.cells #[.slice a1 m.vars.length c1,.pointer (some ⟨r,0,none⟩),.int .i64 (fuel:Int),.slice none 0 0,.map (some Y.heap.size),.slice none 0 0] 116);have hmd:(Y.drew.alloc (.map #[] 0)).ownsMap prog 136 (unitElem (H:=Unit)) Y.heap.size 0 (setU []):=World.ownsMap_made Y.drew _ _ _;have hM:=(mF hmd ZG).alloc (.cells #[.slice a1 m.vars.length c1,.pointer (some ⟨r,0,none⟩),.int .i64 (fuel:Int),.slice none 0 0,.map (some Y.heap.size),.slice none 0 0] 116);exact⟨r,Y.heap.size,pv,(zn HV.o (HT.o _ (Z6 _ _)) Z3 (by omega) (by omega) (by omega) (Or.inl (by omega)) Sw Tp.o Xi ((Xi.block r (Z8.1 hr3).1).trans hr3) hS hM).1,(zn HV.o (HT.o _ (Z6 _ _)) Z3 (by omega) (by omega) (by omega) (Or.inl (by omega)) Sw Tp.o Xi ((Xi.block r (Z8.1 hr3).1).trans hr3) hS hM).2,Z3.trans (Xi.mono Y'),by omega,by omega,by omega⟩
      go_wp2
      go_ret
      exact⟨_,rfl,HQ.o⟩)
end Go.Proofs.YtndcpnlaadikoaaGreatDoor
