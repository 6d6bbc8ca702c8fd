/- What the proof leans on, part 23. -/
import Derived.Test.YtndcpnlaadikoaaGreatDoorPartAv
set_option maxRecDepth 100000
set_option maxHeartbeats 3200000
open Go.Proofs.Tryz
namespace Go.Proofs.YtndcpnlaadikoaaGreatDoor
def Sol (m:Mod) (x:List Int):Prop:=S8 m.vars x/\∀c∈m.cons,YL c x=true
def yY (m:Mod) (G:List Int->Prop) (S:Sk):Prop:=∀x,Sol m x->G x->∀c∈S.cs,Hits m.vars x c
theorem zUj (vs:List MVar) (hv:XU vs) (i:Nat):(zAH vs []).testBit i=false:=by
 unfold zAH ofP;rw[OS vs hv];simp[oneB]
theorem zLb (vs:List MVar) (cs:List Nat) (pt:List (List Nat)) (c:Cla) (h:Pw vs cs pt c=true):Pw vs cs pt (Rt vs cs pt c)=true:=oC _ _ c h
theorem zQq (m:Mod) (hm:Zs m=0) (G:List Int->Prop) (S:Sk) (hs:yY m G S) (hz:Wh m.vars (ptsM m) S=0) :
 yY m G (Wt m.vars (ptsM m) S).2/\((Wt m.vars (ptsM m) S).1=2->∀x,Sol m x->¬G x):=by
 have hn:Pw m.vars S.cs (ptsM m) (Rt m.vars S.cs (ptsM m) S.path)=true:=zLb _ _ _ _ (by unfold Pw;unfold Wh at hz;rw[hz];rfl)
 have hl:∀x,Sol m x->G x->Hits m.vars x (zAH m.vars (Rt m.vars S.cs (ptsM m) S.path)):=λx hx hg=>cf m hm x hx.1 hx.2 S.cs (hs x hx hg) _ hn
 unfold Wt
 split
 ·exact⟨hs,λh=>by cases h⟩
 split
 ·exact⟨hs,λh=>by cases h⟩
 split
 ·rename_i hc
  refine⟨hs,λ_ x hx hg=>?_⟩
  obtain⟨v,_,hb⟩:=hl x hx hg;rw[Xo.1 hc,zUj m.vars (Py m hm)] at hb;cases hb
 refine⟨λx hx hg c hc=>?_,λh=>by cases h⟩
 rcases Xn.1 hc with hc | hc
 ·exact hs x hx hg c hc
 rw[Zh.1 hc];exact hl x hx hg
theorem kX (vs:List MVar) (cs:List Nat) (pt:List (List Nat)):∀(f l:Nat),l<f->l<2 ^ 36->Xl pt (Xv vs cs (S7 vs cs pt f l))=S7 vs cs pt f l
 | 0,l,hf,_=>by omega
 | f+1,l,hf,h=>by
   unfold S7
   split
   ·assumption
   have:=Dr vs cs pt l h;exact kX vs cs pt f _ (by omega) (by omega)
theorem zQr (vs:List MVar) (hv:XU vs) (cs:List Nat) (pt:List (List Nat)) (h:Nat) (hn:QR vs cs pt h≠0):Xl pt (Xv vs cs (QR vs cs pt h))=QR vs cs pt h:=by
 unfold QR at hn ⊢
 split
 ·rename_i hc;rw[if_pos hc] at hn;exact absurd rfl hn
 exact kX vs cs pt _ _ (RO _) (Pz 36 _ _ (Ju vs hv))
theorem kW:∀(pt:List (List Nat)) (l:Nat),l<2 ^ 36->l≠0->Xl pt l=l->∀pts∈pt,Ui pts l=l
 | [],l,_,_,_=>λpts hp=>by cases hp
 | pts :: r,l,h,hn,he=>by
   unfold Xl at he;rw[if_neg hn] at he;have h1:=Dt pts l h;have h2:=Ds r (Ui pts l) (by omega)
   have h3:Ui pts l=l:=by omega
   rw[h3] at he;intro q hq;rcases YJ.1 hq with rfl | hq
   ·exact h3
   exact kW r l h hn he q hq
theorem s_:∀(cs:List Nat) (l:Nat),Xp cs l=some l->∀c∈cs,l &&& c≠0
 | [],l,_=>λc hc=>by cases hc
 | c :: r,l,h=>by
   unfold Xp at h
   split at h
   ·cases h
   rename_i h0
   split at h
   ·have h1:=Nd r _ l h
    have h2:=Dv l (Zg (XG (l &&& c)) (l &&& c));have h3:Zg l (Zg (XG (l &&& c)) (l &&& c))=l:=by omega
    rw[h3] at h;intro q hq;rcases YJ.1 hq with rfl | hq
    ·exact h0
    exact s_ r l h q hq
   intro q hq;rcases YJ.1 hq with rfl | hq
   ·exact h0
   exact s_ r l h q hq
theorem zSl (vs:List MVar) (cs:List Nat) (l:Nat) (hn:l≠0) (h:Xv vs cs l=l):Wu vs.length l=false/\∀c∈cs,l &&& c≠0:=by
 unfold Xv at h
 split at h
 ·exact absurd h.symm hn
 rename_i hk
 refine⟨by simpa using hk,?_⟩
 rw[oQ] at h;cases hr:Xp cs l with
 | none=>rw[hr] at h;exact absurd h.symm hn
 | some l' =>
   rw[hr] at h;simp only at h
   split at h
   ·rename_i he
    rw[he] at hr;exact s_ cs l hr
   have h1:=Nd cs l l' hr;have h2:=wu cs (l'+1) l';have h3:l'≠l:=by assumption
   exact absurd (by omega:l'=l) h3
theorem Cf (n p:Nat) (h:Wu n p=false) (v:Nat) (hv:v<n):∃k,k<6/\p.testBit (6 * v+k)=true:=by
 unfold Wu at h;rw[Ty] at h;have h1:=h v (W6.2 hv);have h2:p / 2 ^ (v * 6) &&& 63≠0:=by simpa using h1
 apply Xz;intro hn;apply h2;apply Qz;intro i;rw[RK,SN,wv,Nat.testBit_div_two_pow];by_cases hi:i<6
 ·cases hb:p.testBit (i+v * 6)
  ·rfl
  exact absurd ⟨i,hi,by rw[show 6 * v+i=i+v * 6 by omega];exact hb⟩ hn
 simp[hi]
theorem zQs (vs:List MVar) (hv:XU vs) (l:Nat) (hw:∀i,l.testBit i=true->(zAN vs).testBit i=true) (hk:Wu vs.length l=false) (hf:R_ (Xk vs l)<0) :
 S8 vs (Xk vs l).flatten/\Uj vs (Xk vs l).flatten l/\∀i,l.testBit i=true->∃v,v<vs.length/\i=posV vs (Xk vs l).flatten v:=by
 have Zr:=vW vs l;have Gt:∀v,v<vs.length->∃x,(Xk vs l)[v]? = some [x]/\∃i,i<36/\l.testBit i=true/\i / 6=v/\x=(ZF vs v).lo+((i % 6:Nat):Int):=λv X8=>by
  obtain⟨k,uK,hb⟩:=Cf vs.length l hk v X8;have Hv:6 * v+k<36:=by have:=hv.1;omega
  have hx:(ZF vs v).lo+((k:Nat):Int)∈(Xk vs l).getD v []:=(vV vs l v X8 _).2 ⟨6 * v+k,Hv,hb,by omega,by congr 2;omega⟩
  have hg:(Xk vs l)[v]? = some ((Xk vs l).getD v []):=by rw[ZO,ZA (by omega)];rfl
  have h1:=bX _ hf _ (Zz hg)
  match hr:(Xk vs l).getD v [] with
  | []=>rw[hr] at hx;cases hx
  | [x] =>
    rw[hr] at hg hx;refine⟨x,hg,6 * v+k,Hv,hb,by omega,?_⟩
    have h2:(ZF vs v).lo+((k:Nat):Int)=x:=by simpa using hx
    rw[<-h2]
    congr 2;omega
  | x :: y :: t=>rw[hr] at h1;simp at h1
 have Ce:∀(s:Sto),(∀v:Nat,v<s.length->∃x:Int,s[v]? = some [x])->s.flatten.length=s.length/\∀(v:Nat) (x:Int),s[v]? = some [x]->s.flatten[v]? = some x:=by
  intro s
  induction s with
  | nil=>intro _;exact⟨rfl,λv x h=>by simp at h⟩
  | cons a r ih =>
    intro h;obtain⟨x,hx⟩:=h 0 (by simp)
    have ha:a=[x]:=by simpa using hx
    subst ha;obtain⟨i1,i2⟩:=ih λv hv=>by
     obtain⟨y,hy⟩:=h (v+1) (by simp;omega)
     exact⟨y,by simpa using hy⟩
    refine⟨by simp[i1],λv y hy=>?_⟩
    cases v with
    | zero=>simpa using hy
    | succ v=>simpa using i2 v y (by simpa using hy)
 obtain⟨f1,f2⟩:=Ce (Xk vs l) λv X8=>(Gt v (by omega)).imp λx hx=>hx.1
 have VI:∀v,v<vs.length->∃i,i<36/\l.testBit i=true/\i / 6=v/\Zx (Xk vs l).flatten (v:Int)=(ZF vs v).lo+((i % 6:Nat):Int):=λv X8=>by
  obtain⟨x,h1,i,h2,h3,h4,h5⟩:=Gt v X8;refine⟨i,h2,h3,h4,?_⟩;unfold Zx;rw[YK,ZO,f2 v x h1];exact h5
 have Y':∀i,l.testBit i=true->i / 6<vs.length/\i % 6<WN (ZF vs (i / 6)):=λi hi=>by
  have:=hw i hi;unfold zAN ofP at this;rw[OS vs hv] at this;simp only[ZB,decide_eq_true_eq] at this;exact⟨this.1,this.2.1⟩
 have Re:S8 vs (Xk vs l).flatten:=⟨by rw[f1,Zr],λv X8=>by
  obtain⟨i,_,h2,h3,h4⟩:=VI v X8;have:=(Y' i h2).2;rw[h3] at this;unfold WN at this;rw[h4];omega⟩
 have VW:∀v,v<vs.length->∃i,l.testBit i=true/\i=posV vs (Xk vs l).flatten v:=λv X8=>by
  obtain⟨i,_,h2,h3,h4⟩:=VI v X8;refine⟨i,h2,?_⟩;unfold posV;rw[h4];omega
 refine⟨Re,λv X8=>?_,λi hi=>?_⟩
 ·obtain⟨i,h1,h2⟩:=VW v X8
  rw[<-h2];exact h1
 refine⟨i / 6,(Y' i hi).1,?_⟩;obtain⟨x,h1,j,j1,j2,j3,j4⟩:=Gt (i / 6) (Y' i hi).1;have hx:(ZF vs (i / 6)).lo+((i % 6:Nat):Int)∈(Xk vs l).getD (i / 6) []:=(vV vs l _ (Y' i hi).1 _).2 ⟨i,by have:=(Y' i hi).1;have:=hv.1;omega,hi,rfl,rfl⟩
 rw[ZO,h1] at hx;have kV:(ZF vs (i / 6)).lo+((i % 6:Nat):Int)=x:=by simpa using hx
 obtain⟨k,_,k2⟩:=VW (i / 6) (Y' i hi).1;unfold posV;unfold Zx;rw[YK,ZO,f2 _ x h1];simp only[RQ];omega
theorem Cd {n:Nat} (h:n≠0):∃i,n.testBit i=true:=by
 apply Xz;intro hn;apply h;apply Qz;intro i;rw[SN];cases hb:n.testBit i
 ·rfl
 exact absurd ⟨i,hb⟩ hn
theorem zOY (m:Mod) (hm:Zs m=0) (S:Sk) (hl:Wh m.vars (ptsM m) S≠0) (hf:R_ (Xk m.vars (Wh m.vars (ptsM m) S))<0) :
 Sol m (Xk m.vars (Wh m.vars (ptsM m) S)).flatten/\∀c∈S.cs,Hits m.vars (Xk m.vars (Wh m.vars (ptsM m) S)).flatten c:=by
 have hv:=Py m hm;have Gs:=zQr m.vars hv S.cs (ptsM m) (zAH m.vars S.path) hl;have Pv:=bV m.vars hv S.cs (ptsM m) (zAH m.vars S.path);have P':∀i,(Wh m.vars (ptsM m) S).testBit i=true->(zAN m.vars).testBit i=true:=λi hi=>(z8 m.vars hv _ _ _ i hi).1
 change Xl (ptsM m) (Xv m.vars S.cs (Wh m.vars (ptsM m) S))=Wh m.vars (ptsM m) S at Gs
 change Wh m.vars (ptsM m) S<2 ^ 36 at Pv
 generalize Wh m.vars (ptsM m) S=l at *;have h1:=Du m.vars S.cs l;have h2:=Ds (ptsM m) (Xv m.vars S.cs l) (by omega)
 have hu:Xv m.vars S.cs l=l:=by omega
 rw[hu] at Gs;obtain⟨hk,XD⟩:=zSl m.vars S.cs l hl hu;obtain⟨b1,b2,b3⟩:=zQs m.vars hv l P' hk hf;generalize (Xk m.vars l).flatten=x at *;refine⟨⟨b1,λc hc=>?_⟩,λc hc=>?_⟩
 ·have hp:=kW (ptsM m) l Pv hl Gs (XB m.vars c) (Zj.2 ⟨c,hc,rfl⟩)
  obtain⟨j,hj,he⟩:=Lb hc;obtain⟨k1,k2⟩:=E6 m hm j c (by rw[ZA hj,he])
  have hfd:(UP l (XB m.vars c) (0,0,false)).2.2=true:=by
   cases hq:(UP l (XB m.vars c) (0,0,false)).2.2
   ·unfold Ui at hp
    rw[hq] at hp;exact absurd hp.symm hl
   rfl
  rcases (wk l _ _).1 hfd with h | ⟨q,hq,hz⟩
  ·cases h
  obtain⟨u,l1,l2,l3,_,_,l6⟩:=Af m.vars c _ _ _ q k1 (by simp[XM]) hq
  rw[<-E7 c u x (λv U1=>?_) k2]
  ·exact l2
  have hb:=(L0 _ _).1 hz _ (l6 v U1);obtain⟨v',UC,VW⟩:=b3 _ hb;have Vh:=H4 m.vars hv x b1 v' UC;have h3:=l3 v U1;have h4:=k1 v U1;have h6:=hv.2 v.toNat;unfold WN at h6;rw[<-VW] at Vh;have yX:v'=v.toNat:=by omega
  subst yX;rw[Int.toNat_of_nonneg h4.1] at Vh;omega
 have ZP:=XD c hc;obtain⟨i,hi⟩:=Cd ZP;rw[RK,ZB] at hi;obtain⟨v,X8,VW⟩:=b3 i hi.1;exact⟨v,X8,by rw[<-VW];exact hi.2⟩
theorem yW (m:Mod) (hm:Zs m=0) (G:List Int->Prop):∀(N:Nat) (S:Sk),QQ m.vars S<N->yY m G S ->
 yY m G (X3 m.vars (ptsM m) S).2.2/\((X3 m.vars (ptsM m) S).1=1->Sol m (X3 m.vars (ptsM m) S).2.1/\(∀c∈(X3 m.vars (ptsM m) S).2.2.cs,Hits m.vars (X3 m.vars (ptsM m) S).2.1 c)/\∀c∈S.cs,c∈(X3 m.vars (ptsM m) S).2.2.cs) /\
  ((X3 m.vars (ptsM m) S).1=2->∀x,Sol m x->¬G x)/\((X3 m.vars (ptsM m) S).1=1∨(X3 m.vars (ptsM m) S).1=2∨(X3 m.vars (ptsM m) S).1=3)/\((X3 m.vars (ptsM m) S).1≠1->(X3 m.vars (ptsM m) S).2.1=[])
 | 0,S,h,_=>by omega
 | N+1,S,h,hs=>by
   rw[vT m.vars (Py m hm)]
   split
   ·rename_i hz
    obtain⟨t1,t2⟩:=zQq m hm G S hs hz
    split
    ·rename_i h0
     obtain⟨n1,n2,n3,n4⟩:=yW m hm G N _ (by have:=Dp m.vars (ptsM m) S h0;omega) t1
     refine⟨n1,λhv=>?_,n3,n4⟩
     obtain⟨k1,k2,k3⟩:=n2 hv;refine⟨k1,k2,λc hc=>k3 c ?_⟩
     unfold Wt at h0 ⊢
     split
     ·exact hc
     split
     ·exact hc
     split
     ·exact hc
     exact Lf _ hc
    rename_i h0
    have h3:(Wt m.vars (ptsM m) S).1=0∨(Wt m.vars (ptsM m) S).1=2∨(Wt m.vars (ptsM m) S).1=3:=by
     unfold Wt
     split
     ·exact Or.inr (Or.inr rfl)
     split
     ·exact Or.inr (Or.inr rfl)
     split
     ·exact Or.inr (Or.inl rfl)
     exact Or.inl rfl
    refine⟨t1,λhv=>?_,t2,?_,λ_=>rfl⟩
    ·simp only at hv
     omega
    simp only;omega
   rename_i hz
   split
   ·rename_i hf
    obtain⟨f1,f2⟩:=zOY m hm S hz hf;exact⟨hs,λ_=>⟨f1,f2,λc hc=>hc⟩,(λh=>by cases h),Or.inl rfl,(λh=>absurd rfl h)⟩
   rename_i hf
   exact yW m hm G N _ (by have:=Do m.vars (Py m hm) (ptsM m) S hf;omega) hs
def Ke (A:List Nat) (r:Nat):Prop:=∀c∈A,r &&& c≠0/\(Zg (r &&& c) (XG (r &&& c))=0->∀i,r.testBit i=true->(XG (r &&& c)).testBit i=true->c.testBit i=true)
def SubP (a b:Nat):Prop:=∀i,a.testBit i=true->b.testBit i=true
theorem Ph (a b i:Nat):(a &&& b).testBit i=true↔a.testBit i=true/\b.testBit i=true:=by rw[RK,ZB]
theorem Kd (a b i:Nat):(Zg a b).testBit i=true↔a.testBit i=true/\b.testBit i=false:=by rw[TJ,ZB,SQ]
theorem Em (p i:Nat) (h:Zg p (XG p)=0) (hi:p.testBit i=true):∀j,(XG p).testBit j=true↔j / 6=i / 6:=by
 intro j;have h1:=(L0 _ _).1 h i hi;rw[E2,decide_eq_true_eq] at h1;rw[E2,decide_eq_true_eq,h1]
theorem s9 (r:Nat) (hr:r<2 ^ 36):∀(cs:List Nat) (l:Nat),Ke cs r->SubP r l->∃l',Xp cs l=some l'/\SubP r l'
 | [],l,_,hs=>⟨l,rfl,hs⟩
 | c :: t,l,hc,hs=>by
   obtain⟨h1,h2⟩:=hc c (Zk ..);obtain⟨i,hi⟩:=Cd h1;have yV:=(Ph _ _ _).1 hi;have ZP:l &&& c≠0:=λh=>by
    have:=(Ph l c i).2 ⟨hs i yV.1,yV.2⟩;rw[h] at this;simp at this
   unfold Xp;rw[if_neg ZP]
   split
   ·rename_i hf
    refine s9 r hr t _ (λd hd=>hc d (Y2 _ hd)) λj hj=>?_
    have hli:(l &&& c).testBit i=true:=(Ph _ _ _).2 ⟨hs i yV.1,yV.2⟩;have P8:=Em _ i hf hli;have kU:Zg (r &&& c) (XG (r &&& c))=0:=by
     refine (L0 _ _).2 λk hk=>?_
     have WY:=(Ph _ _ _).1 hk;have TM:(l &&& c).testBit k=true:=(Ph _ _ _).2 ⟨hs k WY.1,WY.2⟩;have SK:=(P8 k).1 ((L0 _ _).1 hf k TM);have CU:(r &&& c).testBit (Lib.ctz 64 (r &&& c))=true:=by
      have V4:r &&& c<=r:=Nv;exact (H3 _ h1 (by omega) _).2.1 rfl
     have Yb:=(Ph _ _ _).1 CU;have XD:(l &&& c).testBit (Lib.ctz 64 (r &&& c))=true:=(Ph _ _ _).2 ⟨hs _ Yb.1,Yb.2⟩;have xt:=(P8 _).1 ((L0 _ _).1 hf _ XD);rw[E2,decide_eq_true_eq];omega
    rw[Kd];refine⟨hs j hj,?_⟩;cases hb:(Zg (XG (l &&& c)) (l &&& c)).testBit j
    ·rfl
    exfalso
    obtain⟨b1,b2⟩:=(Kd _ _ _).1 hb;have hj6:=(P8 j).1 b1;have hrj:=Em _ i kU hi;have:=h2 kU j hj ((hrj j).2 hj6);rw[(Ph _ _ _).2 ⟨hs j hj,this⟩] at b2;cases b2
   exact s9 r hr t l (λd hd=>hc d (Y2 _ hd)) hs
theorem kS (r:Nat) (hr:r<2 ^ 36) (cs:List Nat) (hc:Ke cs r):∀(f l:Nat),SubP r l->SubP r (U3 cs f l)
 | 0,l,hs=>hs
 | f+1,l,hs=>by
   obtain⟨l',h1,h2⟩:=s9 r hr cs l hc hs;unfold U3;rw[h1];simp only
   split
   ·exact hs
   exact kS r hr cs hc f l' h2
theorem kQ (n a b:Nat) (h:SubP a b) (ha:Wu n a=false):Wu n b=false:=by
 refine Ak n b λv hv=>?_
 obtain⟨k,h1,h2⟩:=Cf n a ha v hv;exact⟨k,h1,h _ h2⟩
theorem zM0 (vs:List MVar) (r:Nat) (hr:r<2 ^ 36) (hl:Wu vs.length r=false) (cs:List Nat) (hc:Ke cs r) (l:Nat) (hs:SubP r l):SubP r (Xv vs cs l):=by
 unfold Xv;rw[if_neg (by rw[kQ _ _ _ hs hl];decide)]
 exact kS r hr cs hc _ l hs
theorem s8 (n:Nat):∀(cs:List Nat) (l l':Nat),l<2 ^ 36->Xp cs l=some l'->Wu n l=false->Wu n l'=false
 | [],l,l',_,h,hl=>by simp[Xp] at h;rw[<-h];exact hl
 | c :: t,l,l',Pv,h,hl=>by
   unfold Xp at h
   split at h
   ·cases h
   rename_i h0
   split at h
   ·rename_i hf
    have h36':=Dv l (Zg (XG (l &&& c)) (l &&& c));refine s8 n t _ l' (by omega) h (Ak n _ λv hv=>?_)
    obtain⟨k,k1,k2⟩:=Cf n l hl v hv;obtain⟨i,hi⟩:=Cd h0;have P8:=Em _ i hf hi;by_cases Cc:v=i / 6
    ·subst Cc
     refine⟨i % 6,by omega,?_⟩
     rw[show 6 * (i / 6)+i % 6=i by omega,Kd]
     refine⟨((Ph _ _ _).1 hi).1,?_⟩;rw[TJ,hi];simp
    refine⟨k,k1,?_⟩;rw[Kd];refine⟨k2,?_⟩;cases hb:(Zg (XG (l &&& c)) (l &&& c)).testBit (6 * v+k)
    ·rfl
    have:=(P8 _).1 ((Kd _ _ _).1 hb).1;omega
   exact s8 n t l l' Pv h hl
theorem kP (n:Nat) (cs:List Nat):∀(f l:Nat),l<2 ^ 36->Wu n l=false->U3 cs f l≠0->Wu n (U3 cs f l)=false
 | 0,l,_,hl,_=>hl
 | f+1,l,h,hl,hn=>by
   unfold U3 at hn ⊢;cases hr:Xp cs l with
   | none=>rw[hr] at hn;exact absurd rfl hn
   | some l' =>
     rw[hr] at hn;simp only at hn ⊢;by_cases he:l'=l
     ·rw[if_pos he];exact hl
     rw[if_neg he] at hn ⊢;have:=Nd cs l l' hr;exact kP n cs f l' (by omega) (s8 n cs l l' h hr hl) hn
theorem kO (cs:List Nat):∀(f l:Nat),l<f->U3 cs f l≠0->Xp cs (U3 cs f l)=some (U3 cs f l)
 | 0,l,h,_=>by omega
 | f+1,l,h,hn=>by
   unfold U3 at hn ⊢;cases hr:Xp cs l with
   | none=>rw[hr] at hn;exact absurd rfl hn
   | some l' =>
     rw[hr] at hn;simp only at hn ⊢;by_cases he:l'=l
     ·rw[if_pos he];rw[he] at hr;exact hr
     rw[if_neg he] at hn ⊢;have:=Nd cs l l' hr;exact kO cs f l' (by omega) hn
theorem s7:∀(cs:List Nat) (l:Nat),Xp cs l=some l->Ke cs l
 | [],l,_=>λc hc=>by cases hc
 | c :: t,l,h=>by
   unfold Xp at h
   split at h
   ·cases h
   rename_i h0
   split at h
   ·rename_i hf
    have h1:=Nd t _ l h;have h2:=Dv l (Zg (XG (l &&& c)) (l &&& c));have h3:Zg l (Zg (XG (l &&& c)) (l &&& c))=l:=by omega
    rw[h3] at h;intro d hd;rcases YJ.1 hd with rfl | hd
    ·refine⟨h0,λ_ i hi sZ=>?_⟩
     have h4:=congrArg (λz=>Nat.testBit z i) h3
     simp only[TJ,hi,sZ] at h4;have h5:(l &&& d).testBit i=true:=by
      cases hb:(l &&& d).testBit i
      ·rw[hb] at h4;simp at h4
      rfl
     exact ((Ph _ _ _).1 h5).2
    exact s7 t l h d hd
   rename_i hf
   intro d hd;rcases YJ.1 hd with rfl | hd
   ·exact⟨h0,λh5=>absurd h5 hf⟩
   exact s7 t l h d hd
theorem zQt (vs:List MVar) (A:List Nat) (l:Nat) (Pv:l<2 ^ 36) (hn:Xv vs A l≠0):Wu vs.length (Xv vs A l)=false/\Ke A (Xv vs A l)/\SubP (Xv vs A l) l:=by
 refine⟨?_,?_,λi hi=>Ab vs A l i hi⟩
 ·unfold Xv at hn ⊢
  split
  ·rename_i hc;rw[if_pos hc] at hn;exact absurd rfl hn
  rename_i hc
  rw[if_neg hc] at hn;exact kP _ A _ l Pv (by simpa using hc) hn
 unfold Xv at hn ⊢
 split
 ·rename_i hc;rw[if_pos hc] at hn;exact absurd rfl hn
 rename_i hc
 rw[if_neg hc] at hn;exact s7 A _ (kO A _ l (RO _) hn)
theorem sY (vs:List MVar) (hv:XU vs) (f:Nat->Int->Bool) (i:Nat):(ofP vs f).testBit i=true↔i / 6<vs.length/\i % 6<WN (ZF vs (i / 6))/\f (i / 6) ((ZF vs (i / 6)).lo+((i % 6:Nat):Int))=true:=by
 unfold ofP;rw[OS vs hv];simp only[ZB,decide_eq_true_eq]
theorem Kc (vs:List MVar) (hv:XU vs) (s:Sto) (i:Nat):(SE vs s).testBit i=true↔i / 6<vs.length/\i % 6<WN (ZF vs (i / 6))/\(ZF vs (i / 6)).lo+((i % 6:Nat):Int)∈s.getD (i / 6) []:=by
 unfold SE;rw[sY vs hv,DP]
theorem IZ (vs:List MVar) (hv:XU vs) (c:Cla) (i:Nat):(zAH vs c).testBit i=true↔i / 6<vs.length/\i % 6<WN (ZF vs (i / 6))/\oneB c (i / 6) ((ZF vs (i / 6)).lo+((i % 6:Nat):Int))=true:=by
 unfold zAH;rw[sY vs hv]
theorem Cb (vs:List MVar) (hv:XU vs) (i:Nat):(zAN vs).testBit i=true↔i / 6<vs.length/\i % 6<WN (ZF vs (i / 6)):=by
 unfold zAN;rw[sY vs hv];simp
def bitV (vs:List MVar) (v:Nat) (x:Int):Nat:=6 * v+(x - (ZF vs v).lo).toNat
theorem El (vs:List MVar) (hv:XU vs) (v:Nat) (x:Int) (h1:(ZF vs v).lo<=x) (h2:x<=(ZF vs v).hi):bitV vs v x / 6=v/\bitV vs v x % 6<WN (ZF vs v)/\(ZF vs v).lo+((bitV vs v x % 6:Nat):Int)=x:=by
 have h6:=hv.2 v;unfold WN at h6 ⊢;unfold bitV;omega
theorem sX (vs:List MVar) (i:Nat):bitV vs (i / 6) ((ZF vs (i / 6)).lo+((i % 6:Nat):Int))=i:=by
 unfold bitV;omega
theorem yU (vs:List MVar) (v k:Nat) (h:k<WN (ZF vs v)):(ZF vs v).lo<=(ZF vs v).lo+(k:Int)/\(ZF vs v).lo+(k:Int)<=(ZF vs v).hi:=by
 unfold WN at h;omega
def InS (vs:List MVar) (s:Sto):Prop:=s.length=vs.length/\∀v x,v<vs.length->x∈s.getD v []->(ZF vs v).lo<=x/\x<=(ZF vs v).hi
theorem yT (vs:List MVar) (v:Nat) (h:v<vs.length):(Ym vs).getD v []=Qj (ZF vs v).lo (ZF vs v).hi:=by
 unfold Ym ZF;rw[ZO,YN,ZO,ZA h];rfl
theorem MK (s:Sto) (p:Nat->Int->Bool) (v:Nat) (x:Int):x∈(V0 s p).getD v []↔x∈s.getD v []/\p v x=true:=by
 rw[ZO,ZO];cases h:s[v]? with
 | none =>
   have:(V0 s p)[v]? = none:=by
    rw[O7] at h ⊢;rw[Vs];exact h
   rw[this];simp
 | some r =>
   rw[K0 s p v r h];simp
theorem Ca (vs:List MVar):InS vs (Ym vs):=⟨H5 vs,λv x hv hx=>by rw[yT vs v hv] at hx;exact (Hz _ _ _).1 hx⟩
theorem yS {vs:List MVar} {s:Sto} (h:InS vs s) (p:Nat->Int->Bool):InS vs (V0 s p):=⟨(Vs s p).trans h.1,λv x hv hx=>h.2 v x hv ((MK s p v x).1 hx).1⟩
theorem sW {t s:Sto} (h:SubS t s) (v:Nat) (x:Int) (hx:x∈t.getD v []):x∈s.getD v []:=by
 rw[ZO] at hx ⊢;cases ht:t[v]? with
 | none=>rw[ht] at hx;cases hx
 | some r =>
   have hl:v<s.length:=by rw[<-h.1];exact (ZN.1 ht).1
   rw[ht] at hx;rw[ZA hl];exact h.2 v r s[v] ht (ZA hl) x hx
theorem zUk {t s:Sto} (hl:t.length=s.length) (h:∀v x,x∈t.getD v []->x∈s.getD v []):SubS t s:=⟨hl,λk r q hr hq x hx=>by
 have:=h k x (by rw[ZO,hr];exact hx)
 rw[ZO,hq] at this;exact this⟩
theorem zWE {vs:List MVar} {t s:Sto} (h:InS vs s) (hs:SubS t s):InS vs t:=⟨hs.1.trans h.1,λv x hv hx=>h.2 v x hv (sW hs v x hx)⟩
theorem LA (s:Sto):zAI s=false↔∀v,v<s.length->∃x,x∈s.getD v []:=by
 constructor
 ·intro h v hv
  cases hr:s[v]? with
  | none=>rw[O7] at hr;omega
  | some r =>
    cases r with
    | nil =>
      have:=(oY s).2 ⟨v,hr⟩;rw[h] at this;cases this
    | cons a q=>exact⟨a,by rw[ZO,hr];exact Zk ..⟩
 intro h;cases hf:zAI s with
 | false=>rfl
 | true =>
   obtain⟨k,hk⟩:=(oY s).1 hf;obtain⟨x,hx⟩:=h k (ZN.1 hk).1;rw[ZO,hk] at hx;cases hx
theorem yR (s:Sto) (h:zAI s=false):nrmS s=s:=by unfold nrmS;rw[h];rfl
theorem yQ (vs:List MVar) (hv:XU vs) {s:Sto} (h:InS vs s) (v:Nat) (x:Int) (hn:v<vs.length) (hx:x∈s.getD v []):(SE vs s).testBit (bitV vs v x)=true:=by
 obtain⟨h1,h2⟩:=h.2 v x hn hx;obtain⟨e1,e2,e3⟩:=El vs hv v x h1 h2;rw[Kc vs hv,e1,e3];exact⟨hn,e2,hx⟩
theorem kN (vs:List MVar) (hv:XU vs) {s:Sto} (h:InS vs s) (hf:zAI s=false):Wu vs.length (SE vs s)=false:=by
 refine Ak _ _ λv hn=>?_
 obtain⟨x,hx⟩:=(LA s).1 hf v (by rw[h.1];exact hn)
 have hb:=yQ vs hv h v x hn hx;obtain⟨h1,h2⟩:=h.2 v x hn hx;have h6:=hv.2 v;unfold WN at h6;refine⟨(x - (ZF vs v).lo).toNat,by omega,?_⟩
 exact hb
theorem kM (vs:List MVar) (hv:XU vs) {s:Sto} (h:InS vs s) (d:Cla) (hd:Fa s d) (l:MLit) (hl:l∈d) (Gv:Wb s l=true):∃i,(SE vs s &&& zAH vs d).testBit i=true/\((i / 6:Nat):Int)=l.var:=by
 obtain⟨h0,h1⟩:=hd l hl;obtain⟨x,hx,yP⟩:=Yh.1 Gv;have hn:l.var.toNat<vs.length:=by rw[<-h.1];omega
 obtain⟨b1,b2⟩:=h.2 _ x hn hx;obtain⟨e1,e2,e3⟩:=El vs hv l.var.toNat x b1 b2;refine⟨bitV vs l.var.toNat x,(Ph _ _ _).2 ⟨yQ vs hv h _ x hn hx,?_⟩,by rw[e1];omega⟩
 rw[IZ vs hv,e1,e3];exact⟨hn,e2,(AB _ _ _).2 ⟨l,hl,by omega,yP⟩⟩
theorem yO (vs:List MVar) (hv:XU vs) (s:Sto) (d:Cla) (i:Nat) (h:(SE vs s &&& zAH vs d).testBit i=true):∃l∈d,l.var=((i / 6:Nat):Int)/\Wb s l=true:=by
 obtain⟨h1,h2⟩:=(Ph _ _ _).1 h;obtain⟨_,_,g1⟩:=(Kc vs hv s i).1 h1;obtain⟨_,_,g2⟩:=(IZ vs hv d i).1 h2;obtain⟨l,hl,he,hx⟩:=(AB _ _ _).1 g2;refine⟨l,hl,he,Yh.2 ⟨_,?_,hx⟩⟩;unfold JD;rw[he,YK];exact g1
theorem zQu (p:Nat) (h:Zg p (XG p)=0) (i j:Nat) (hi:p.testBit i=true) (hj:p.testBit j=true):i / 6=j / 6:=by
 have h1:=oO p j h hj;exact ((Em p i h hi j).1 h1).symm
theorem zM1 (vs:List MVar) (hv:XU vs) (h1:1<=vs.length) {T:Sto} (hT:InS vs T) (hf:zAI T=false) (d:Cla) (hd:Fa T d) (hs:SubS T (nrmS (Wi T d))):Ke [zAH vs d] (SE vs T):=by
 intro c hc;rw[Zh.1 hc];have Gr:zAI (Wi T d)=false:=by
  cases hq:zAI (Wi T d) with
  | false=>rfl
  | true =>
    have:zAI (nrmS (Wi T d))=true:=by rw[em];exact hq
    rw[Ib hs this] at hf;cases hf
 rw[yR _ Gr] at hs;have ZP:SE vs T &&& zAH vs d≠0:=by
  intro h0;have Xy:d.any (Wb T)=false:=by
   rw[Ty];intro l hl Gv;obtain⟨i,hi,_⟩:=kM vs hv hT d hd l hl Gv;rw[h0] at hi;simp at hi
  rw[pC T d hf Xy] at Gr;obtain⟨x,hx⟩:=(LA _).1 Gr 0 (by rw[Vs,hT.1];omega)
  have:=((MK _ _ _ _).1 hx).2;cases this
 refine⟨ZP,λhz i hi sZ=>?_⟩
 obtain⟨j,hj⟩:=Cd ZP;obtain⟨t,ht,MN,P0⟩:=yO vs hv T d j hj;have Ky:i / 6=j / 6:=(Em _ j hz hj i).1 sZ;have Xy:d.any (λl=>!decide (l.var=t.var)&&Wb T l)=false:=by
  rw[Ty];intro l hl hx;simp only[ZB,SQ,decide_eq_false_iff_not] at hx;obtain⟨k,hk,Hi⟩:=kM vs hv hT d hd l hl hx.2;have:=zQu _ hz j k hj hk;apply hx.1;rw[<-Hi,MN,this]
 rw[wY T d hf t ht P0 Xy] at hs;obtain⟨g1,g2,g3⟩:=(Kc vs hv T i).1 hi;have:=((MK _ _ _ _).1 (sW hs (i / 6) _ g3)).2;rw[MN,<-Ky] at this;simp only[ne_eq,not_true_eq_false,decide_false,Bool.false_or] at this;exact (IZ vs hv d i).2 ⟨g1,g2,this⟩
def R5 (vs:List MVar) (r:Nat):Sto:=V0 (Ym vs) λk z=>r.testBit (bitV vs k z)
theorem B_ (vs:List MVar) (r v:Nat) (x:Int) (h:v<vs.length):x∈(R5 vs r).getD v []↔((ZF vs v).lo<=x/\x<=(ZF vs v).hi)/\r.testBit (bitV vs v x)=true:=by
 unfold R5;rw[MK,yT vs v h,Hz]
theorem sV (vs:List MVar) (r:Nat):InS vs (R5 vs r):=yS (Ca vs) _
theorem kL (vs:List MVar) (hv:XU vs) (r:Nat) (hr:SubP r (zAN vs)) (hl:Wu vs.length r=false):zAI (R5 vs r)=false:=by
 rw[LA];intro v hn;rw[(sV vs r).1] at hn;obtain⟨k,hk,hb⟩:=Cf _ _ hl v hn;obtain⟨_,h2⟩:=(Cb vs hv _).1 (hr _ hb);have e1:(6 * v+k) / 6=v:=by omega
 have e2:(6 * v+k) % 6=k:=by omega
 rw[e1,e2] at h2;refine⟨(ZF vs v).lo+(k:Int),(B_ vs r v _ hn).2 ⟨yU vs v k h2,?_⟩⟩;have e3:bitV vs v ((ZF vs v).lo+(k:Int))=6 * v+k:=by unfold bitV;omega
 rw[e3];exact hb
theorem kK (vs:List MVar) (hv:XU vs) (r:Nat) (hr:SubP r (zAN vs)) (i:Nat):(SE vs (R5 vs r)).testBit i=true↔r.testBit i=true:=by
 rw[Kc vs hv]
 constructor
 ·rintro ⟨h1,h2,h3⟩
  have:=((B_ vs r _ _ h1).1 h3).2;rwa [sX] at this
 intro h;obtain⟨h1,h2⟩:=(Cb vs hv i).1 (hr i h);exact⟨h1,h2,(B_ vs r _ _ h1).2 ⟨yU vs _ _ h2,by rw[sX];exact h⟩⟩
theorem zM2 (vs:List MVar) (hv:XU vs) (r:Nat) (hr:SubP r (zAN vs)) (hl:Wu vs.length r=false) (d:Cla) (hc:Ke [zAH vs d] r):Wi (R5 vs r) d=R5 vs r:=by
 have hf:=kL vs hv r hr hl;have sU:SE vs (R5 vs r)=r:=Qz λi=>by
  have:=kK vs hv r hr i;cases h1:(SE vs (R5 vs r)).testBit i <;> cases h2:r.testBit i <;> simp_all
 obtain⟨ZP,XD⟩:=hc _ (Zh.2 rfl);obtain⟨j,hj⟩:=Cd ZP;have DB:(SE vs (R5 vs r) &&& zAH vs d).testBit j=true:=by rw[sU];exact hj
 obtain⟨t,ht,MN,P0⟩:=yO vs hv _ d j DB;cases hm:d.any (λl=>!decide (l.var=t.var)&&Wb (R5 vs r) l) with
 | true=>exact pA _ d hf t ht P0 hm
 | false =>
   rw[wY _ d hf t ht P0 hm];refine pD _ _ λk q z hq hz=>?_
   by_cases e:(k:Int)=t.var
   ·have xu:k=j / 6:=by rw[MN] at e;omega
    have IY:Zg (r &&& zAH vs d) (XG (r &&& zAH vs d))=0:=by
     rw[L0];intro i hi;have E8:(SE vs (R5 vs r) &&& zAH vs d).testBit i=true:=by rw[sU];exact hi
     obtain⟨l,WS,Gv,Pk⟩:=yO vs hv _ d i E8;have h2:¬(l.var≠t.var):=λhne2=>by
      have:=Ty.1 hm l WS;simp[hne2,Pk] at this
     have Ky:i / 6=j / 6:=by
      have:l.var=t.var:=Xz h2;rw[Gv,MN] at this;omega
     have hjf:(XG (r &&& zAH vs d)).testBit j=true∨True:=Or.inr trivial;rw[E2];have Qd:=(H3 (r &&& zAH vs d) ZP (by
      have Pv:=Ju vs hv;have:r &&& zAH vs d<=zAN vs:=ZT Nv (SP hr);omega) (Lib.ctz 64 (r &&& zAH vs d))).2.1 rfl
     have Pr:(SE vs (R5 vs r) &&& zAH vs d).testBit (Lib.ctz 64 (r &&& zAH vs d))=true:=by rw[sU];exact Qd
     obtain⟨l2,Yn,sT,Cj⟩:=yO vs hv _ d _ Pr;have h3:¬(l2.var≠t.var):=λhne2=>by
      have:=Ty.1 hm l2 Yn;simp[hne2,Cj] at this
     have:l2.var=t.var:=Xz h3;rw[sT,MN] at this;simp only[decide_eq_true_eq];omega
    have hzr:z∈(R5 vs r).getD k []:=by rw[ZO,hq];exact hz
    have KF:k<vs.length:=by rw[<-(sV vs r).1];exact (ZN.1 hq).1
    obtain⟨⟨b1,b2⟩,hb⟩:=(B_ vs r k z KF).1 hzr;obtain⟨e1,e2,e3⟩:=El vs hv k z b1 b2;have Gq:(XG (r &&& zAH vs d)).testBit (bitV vs k z)=true:=by
     rw[Em _ j IY hj,e1,xu]
    have:=XD IY _ hb Gq;obtain⟨_,_,g⟩:=(IZ vs hv d _).1 this;rw[e1,e3] at g;rw[g,Bool.or_true]
   simp[e]
theorem zOZ (vs:List MVar) (hv:XU vs) (h1:1<=vs.length) (l:List Cla) (hl:∀d∈l,∀x∈d,0<=x.var/\x.var<(vs.length:Int)) (c:Cla) (T:Sto) (hT:DM (KV l) (Vr (Ym vs) c) T):zAI T=N9 vs (l.map (zAH vs)) (zAH vs c):=by
 have TS:InS vs (Vr (Ym vs) c):=yS (Ca vs) _;obtain⟨⟨P',hnrm,XD⟩,Ek⟩:=hT;have B9:InS vs T:=zWE TS (P'.trans (Ax _));have sS:∀s,InS vs s->∀d∈l,Fa s d:=λs hs d hd x hx=>by rw[hs.1];exact hl d hd x hx
 have Pv:Zg (zAN vs) (zAH vs c)<2 ^ 36:=Pz 36 _ _ (Ju vs hv);have VS:∀i,(Zg (zAN vs) (zAH vs c)).testBit i=true↔(SE vs (Vr (Ym vs) c)).testBit i=true:=λi=>by
  rw[Kd,Kc vs hv,Cb vs hv]
  constructor
  ·rintro ⟨⟨g1,g2⟩,g3⟩
   refine⟨g1,g2,(MK _ _ _ _).2 ⟨by rw[yT vs _ g1];exact (Hz _ _ _).2 (yU vs _ _ g2),?_⟩⟩
   cases ho:oneB c (i / 6) ((ZF vs (i / 6)).lo+((i % 6:Nat):Int)) with
   | false=>rfl
   | true=>rw[(IZ vs hv c i).2 ⟨g1,g2,ho⟩] at g3;cases g3
  rintro ⟨g1,g2,g3⟩;refine⟨⟨g1,g2⟩,?_⟩;have:=((MK _ _ _ _).1 g3).2;cases hb:(zAH vs c).testBit i with
  | false=>rfl
  | true =>
    rw[((IZ vs hv c i).1 hb).2.2] at this;cases this
 unfold N9;cases hf:zAI T with
 | false =>
   have sR:Ke (l.map (zAH vs)) (SE vs T):=λp hp=>by
    obtain⟨d,hd,rfl⟩:=Zj.1 hp;exact zM1 vs hv h1 B9 hf d (sS T B9 d hd) (XD _ (Zj.2 ⟨d,hd,rfl⟩)) _ (Zh.2 rfl)
   have B8:SubP (SE vs T) (Zg (zAN vs) (zAH vs c)):=λi hi=>by
    rw[VS];obtain⟨g1,g2,g3⟩:=(Kc vs hv T i).1 hi;exact (Kc vs hv _ i).2 ⟨g1,g2,sW (P'.trans (Ax _)) _ _ g3⟩
   have Z7:SE vs T<2 ^ 36:=Qh vs hv _;have hk:=zM0 vs (SE vs T) Z7 (kN vs hv B9 hf) _ sR _ B8;obtain⟨x,hx⟩:=(LA T).1 hf 0 (by rw[B9.1];omega)
   have hb:=hk _ (yQ vs hv B9 0 x (by omega) hx)
   symm
   rw[beq_eq_false_iff_ne];intro h0;rw[h0] at hb;simp at hb
 | true =>
   symm
   rw[beq_iff_eq];apply Xz;intro hn;obtain⟨k1,k2,k3⟩:=zQt vs (l.map (zAH vs)) _ Pv hn;obtain⟨r,hr⟩:∃r,Xv vs (l.map (zAH vs)) (Zg (zAN vs) (zAH vs c))=r:=⟨_,rfl⟩;rw[hr] at k1 k2 k3;have NS:SubP r (zAN vs):=λi hi=>((Kd _ _ _).1 (k3 i hi)).1
   have B7:=kL vs hv r NS k1;have B6:=sV vs r;have kJ:SubS (R5 vs r) (Vr (Ym vs) c):=zUk (B6.1.trans TS.1.symm) λv x hx=>by
    have Vo:v<vs.length:=by
     rw[<-B6.1];apply Xz;intro Ej;rw[ZO,V7 (by omega)] at hx
     cases hx
    have hb:=yQ vs hv B6 v x Vo hx;rw[kK vs hv r NS] at hb;have h3:=(VS _).1 (k3 _ hb);obtain⟨⟨b1,b2⟩,_⟩:=(B_ vs r v x Vo).1 hx;obtain⟨e1,e2,e3⟩:=El vs hv v x b1 b2;have h4:=((Kc vs hv _ _).1 h3).2.2;rw[e1,e3] at h4;exact h4
   have hdf:zAI (Vr (Ym vs) c)=false:=by
    cases hq:zAI (Vr (Ym vs) c) with
    | false=>rfl
    | true=>rw[Ib kJ hq] at B7;cases B7
   have B5:Av (KV l) (Vr (Ym vs) c) (R5 vs r):=by
    refine⟨by rw[yR _ hdf];exact kJ,yR _ B7,λf hfm=>?_⟩
    obtain⟨d,hd,rfl⟩:=Zj.1 hfm;have X':Ke [zAH vs d] r:=λp hp=>by
     rw[Zh.1 hp];exact k2 _ (Zj.2 ⟨d,hd,rfl⟩)
    have:=zM2 vs hv r NS k1 d X';show SubS (R5 vs r) (nrmS (Wi (R5 vs r) d));rw[this,yR _ B7];exact SubS.refl _
   have:=Ib (Ek _ B5) hf;rw[B7] at this;cases this
open Go.RowKit
theorem yN {w2 Y:World} {A:Prop} {vs cs:Value} {m:Mod} (h:Bw w2 Y/\A) (hl:MArg w2 vs cs m):MArg Y vs cs m:=MArg.below h.1 hl
theorem kI {w2 Y:World} {A:Prop} {v:Value} {l:List MLit} (h:Bw w2 Y/\A) (hl:LArg w2 v l):LArg Y v l:=LArg.below h.1 hl
theorem zOa {w2 Y:World} {A:Prop} {v:Value} {l:List Cla} (h:Bw w2 Y/\A) (hl:WQ w2 v l):WQ Y v l:=WQ.below h.1 hl
theorem kH {w2 Y w3:World} {A:Prop} (h:Bw w2 Y/\A) (hw:w3=Y):Bw w2 w3:=hw▸h.1
theorem kG (s:Sto) (f:Nat->Int->Bool) (h:∀r∈s,r.length<=6):∀r∈V0 s f,r.length<=6:=by
 intro r hr;obtain⟨i,hi,rfl⟩:=Lb hr;have hs:i<s.length:=by have:=Vs s f;omega
 have h1:s[i]? = some s[i]:=ZA hs;have h2:=K0 s f i s[i] h1;rw[ZA hi] at h2;rw[Zl h2];exact ZT (Tz _ _) (h _ (Qs hs))
theorem zM3 (m:Mod) (hm:Zs m=0) (l:List Cla) (MM:∀d∈l,d.length<=40) (VO:∀d∈l,∀x∈d,0<=x.var/\x.var<(m.vars.length:Int)) (c:Cla) (vs cs u v:Value) (w:World)
 (S1:(Ym m.vars).length<=6) (ZS:∀r∈Ym m.vars,r.length<=6) (Y8:MArg w vs cs m) (hu:WQ w u l) (hv:LArg w v c) :
 Calls prog 42 #[modV vs cs m,u,v] w λe w'=>∃T,e=.returned (.bool (zAI T))/\DM (KV l) (Vr (Ym m.vars) c) T/\Bw w w':=by
 have kF:(Ud (Ym m.vars) c).length<=6:=by rw[Kl];unfold Vr;rw[Vs];exact S1
 have ZV:∀r∈Ud (Ym m.vars) c,r.length<=6:=by rw[Kl];exact kG _ _ ZS
 have kE:∀d∈l,∀x∈d,0<=x.var/\x.var<((Ud (Ym m.vars) c).length:Int):=by
  have:(Ud (Ym m.vars) c).length=m.vars.length:=by rw[Kl];unfold Vr;rw[Vs,H5]
  rw[this];exact VO
 have H6:=hI S1;have Wp:=hI ZS;have H6D:=hI kF;have Tl:=hI ZV;have HID:=hI kE;have ti:=hI MM;have To:=hI hm;have Y3:=hI Y8;have HU:=hI hu;have HV:=hI hv;obtain⟨⟨a,cap,rfl,_,_⟩,⟨a0,c0,rfl,_,_⟩⟩:=Y8;unfold modV;clear S1 ZS kF ZV kE VO MM hm hu hv;go_enter func42,ntmps42
 go_wp2_with fail
 have Zt:Hid (Bw w (w.alloc (.cells #[.slice a m.vars.length cap,.slice a0 m.cons.length c0,.int .i64 m.goal,.int .i64 m.var] 25))):=Z4 _ _;have hN:(w.alloc (.cells #[.slice a m.vars.length cap,.slice a0 m.cons.length c0,.int .i64 m.goal,.int .i64 m.var] 25)).heap[w.heap.size]? = some (.cells #[.slice a m.vars.length cap,.slice a0 m.cons.length c0,.int .i64 m.goal,.int .i64 m.var] 25):=heap_alloc_new _ _;obtain⟨W,hW⟩:∃W,w.alloc (.cells #[.slice a m.vars.length cap,.slice a0 m.cons.length c0,.int .i64 m.goal,.int .i64 m.var] 25)=W:=⟨_,rfl⟩;rw[hW] at Zt hN ⊢;clear hW;have l0:=(Z8.1 hN).1;have q0:=Z_ hN 0 _ rfl;have q1:=Z_ hN 1 _ rfl;have q2:=Z_ hN 2 _ rfl;have q3:=Z_ hN 3 _ rfl
 replace Y3:Hid (MArg W (.slice a m.vars.length cap) (.slice a0 m.cons.length c0) m):=MArg.below Zt.o Y3.o
 replace HU:Hid (WQ W u l):=WQ.below Zt.o HU.o
 replace HV:Hid (LArg W v c):=LArg.below Zt.o HV.o
 clear hN;go_region_held3 (λw'=>Bw W w'/\w'.cell? ⟨w.heap.size,0,none⟩=some (.slice a m.vars.length cap)/\w'.cell? ⟨w.heap.size,1,none⟩=some (.slice a0 m.cons.length c0)/\w'.cell? ⟨w.heap.size,2,none⟩=some (.int .i64 m.goal)/\w'.cell? ⟨w.heap.size,3,none⟩=some (.int .i64 m.var))
  ((refine (λ(hB:Bw W _)=>⟨hB,(hB.cell (p:=⟨w.heap.size,0,none⟩) l0).trans q0,(hB.cell (p:=⟨w.heap.size,1,none⟩) l0).trans q1,(hB.cell (p:=⟨w.heap.size,2,none⟩) l0).trans q2,(hB.cell (p:=⟨w.heap.size,3,none⟩) l0).trans q3⟩:Bw W _->_) ?_;first | exact (Z6 _ _).drew | exact Ue (by assumption) Yu | exact LG | exact hB5 | exact GG | exact hB3))
  (first
    | (go_at_call 96;refine (lP m To.o _ _ _ (yN (by assumption) Y3.o)).mono ?_;rintro e w3 ⟨x3,rfl,Pm,Gp⟩;have hB3:=Ue (by assumption) Gp)
    | (go_at_call 95;refine (lO (Ym m.vars) H6.o Wp.o c _ _ _ Pm (kI (by assumption) HV.o)).mono ?_;rintro e w4 ⟨x4,rfl,Gn,Gm⟩;have GG:=Ue (by assumption) Gm)
    | (go_at_call 97;refine (zUh m _ _ (Ud (Ym m.vars) c) H6D.o Tl.o l ti.o HID.o _ _ _ (yN (by assumption) Y3.o) Gn (zOa (by assumption) HU.o)).mono ?_;rintro e w5 ⟨x5,T,rfl,LU,hT,Gl⟩;have hB5:=Ue (by assumption) Gl)
    | (go_at_call 93;refine (Kf T _ _ LU).mono ?_;rintro e w6 ⟨rfl,sQ⟩;have LG:=kH (by assumption) sQ))
 go_wp2
 go_ret
 exact⟨T,rfl,by rw[<-Kl];exact hT,Zt.o.trans (hB5.mono Zt.o.size)⟩
end Go.Proofs.YtndcpnlaadikoaaGreatDoor
