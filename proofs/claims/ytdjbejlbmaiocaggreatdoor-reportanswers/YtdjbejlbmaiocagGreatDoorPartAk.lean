/- What the proof leans on, part 11. -/
import Derived.Test.YtdjbejlbmaiocagGreatDoorPartAj
namespace Go.Proofs.YtdjbejlbmaiocagGreatDoor
def Sol (m:Mod) (x:List Int):Prop:=zD2 m.vars x∧∀c∈m.cons,zA0 c x=true
def zP5 (m:Mod) (G:List Int→Prop) (S:Sk):Prop:=∀x,Sol m x→G x→∀c∈S.cs,Hits m.vars x c
theorem zNn (vs:List MVar) (hv:zAd vs) (i:Nat):(zAH vs []).testBit i=false:=by
 unfold zAH ofP;rw[zAc vs hv];simp[oneB]
theorem zGW (vs:List MVar) (cs:List Nat) (pt:List (List Nat)) (c:Cla) (h:zBM vs cs pt c=true):zBM vs cs pt (zCX vs cs pt c)=true:=zFF _ _ c h
theorem zOc (m:Mod) (hm:zAF m=0) (G:List Int→Prop) (S:Sk) (hs:zP5 m G S) (hz:zAt m.vars (ptsM m) S=0) :
 zP5 m G (zBV m.vars (ptsM m) S).2∧((zBV m.vars (ptsM m) S).1=2→∀x,Sol m x→¬G x):=by
 have hn:zBM m.vars S.cs (ptsM m) (zCX m.vars S.cs (ptsM m) S.path)=true:=zGW _ _ _ _ (by unfold zBM;unfold zAt at hz;rw[hz];rfl)
 have hl:∀x,Sol m x→G x→Hits m.vars x (zAH m.vars (zCX m.vars S.cs (ptsM m) S.path)):=fun x hx hg=>zKN m hm x hx.1 hx.2 S.cs (hs x hx hg) _ hn
 unfold zBV
 split
 ·exact⟨hs,fun h=>by cases h⟩
 ·split
  ·exact⟨hs,fun h=>by cases h⟩
  ·split
   ·rename_i hc
    refine⟨hs,fun _ x hx hg=>?_⟩
    obtain⟨v,_,hb⟩:=hl x hx hg;rw[List.length_eq_zero_iff.1 hc,zNn m.vars (zAg m hm)] at hb;cases hb
   ·refine⟨fun x hx hg c hc=>?_,fun h=>by cases h⟩
    rcases List.mem_append.1 hc with hc | hc
    ·exact hs x hx hg c hc
    ·rw[List.mem_singleton.1 hc];exact hl x hx hg
theorem zIA (vs:List MVar) (cs:List Nat) (pt:List (List Nat)):∀(f l:Nat),l<f→l<2 ^ 36→zBC pt (zAf vs cs (zBW vs cs pt f l))=zBW vs cs pt f l
 | 0,l,hf,_=>by omega
 | f+1,l,hf,h=>by
   unfold zBW
   split
   ·assumption
   ·have:=zFE vs cs pt l h
    exact zIA vs cs pt f _ (by omega) (by omega)
theorem zJa (vs:List MVar) (hv:zAd vs) (cs:List Nat) (pt:List (List Nat)) (h:Nat) (hn:zBe vs cs pt h≠0):zBC pt (zAf vs cs (zBe vs cs pt h))=zBe vs cs pt h:=by
 unfold zBe at hn ⊢
 split
 ·rename_i hc;rw[if_pos hc] at hn;exact absurd rfl hn
 ·exact zIA vs cs pt _ _ (Nat.lt_succ_self _) (zCe 36 _ _ (zB6 vs hv))
theorem zK6:∀(pt:List (List Nat)) (l:Nat),l<2 ^ 36→l≠0→zBC pt l=l→∀pts∈pt,zBd pts l=l
 | [],l,_,_,_=>fun pts hp=>by cases hp
 | pts :: r,l,h,hn,he=>by
   unfold zBC at he;rw[if_neg hn] at he;have h1:=zF5 pts l h;have h2:=zGQ r (zBd pts l) (by omega)
   have h3:zBd pts l=l:=by omega
   rw[h3] at he;intro q hq;rcases List.mem_cons.1 hq with rfl | hq
   ·exact h3
   ·exact zK6 r l h hn he q hq
theorem zIB:∀(cs:List Nat) (l:Nat),zAp cs l=some l→∀c∈cs,l &&& c≠0
 | [],l,_=>fun c hc=>by cases hc
 | c :: r,l,h=>by
   unfold zAp at h
   split at h
   ·cases h
   ·rename_i h0
    split at h
    ·have h1:=zC1 r _ l h
     have h2:=zHw l (zAL (zAl (l &&& c)) (l &&& c));have h3:zAL l (zAL (zAl (l &&& c)) (l &&& c))=l:=by omega
     rw[h3] at h;intro q hq;rcases List.mem_cons.1 hq with rfl | hq
     ·exact h0
     ·exact zIB r l h q hq
    ·intro q hq
     rcases List.mem_cons.1 hq with rfl | hq
     ·exact h0
     ·exact zIB r l h q hq
theorem zP6 (vs:List MVar) (cs:List Nat) (l:Nat) (hn:l≠0) (h:zAf vs cs l=l):zCO vs.length l=false∧∀c∈cs,l &&& c≠0:=by
 unfold zAf at h
 split at h
 ·exact absurd h.symm hn
 ·rename_i hk
  refine⟨by simpa using hk,?_⟩
  rw[zJO] at h;cases hr:zAp cs l with
  | none=>rw[hr] at h;exact absurd h.symm hn
  | some l' =>
    rw[hr] at h;simp only at h
    split at h
    ·rename_i he
     rw[he] at hr;exact zIB cs l hr
    ·have h1:=zC1 cs l l' hr
     have h2:=zHy cs (l'+1) l';have h3:l'≠l:=by assumption
     exact absurd (by omega:l'=l) h3
theorem zIC (n p:Nat) (h:zCO n p=false) (v:Nat) (hv:v<n):∃k,k<6∧p.testBit (6 * v+k)=true:=by
 unfold zCO at h;rw[List.any_eq_false] at h;have h1:=h v (List.mem_range.2 hv);have h2:p / 2 ^ (v * 6) &&& 63≠0:=by simpa using h1
 apply Classical.byContradiction;intro hn;apply h2;apply Nat.eq_of_testBit_eq;intro i;rw[Nat.testBit_and,Nat.zero_testBit,zGr,Nat.testBit_div_two_pow];by_cases hi:i<6
 ·cases hb:p.testBit (i+v * 6)
  ·rfl
  ·exact absurd ⟨i,hi,by rw[show 6 * v+i=i+v * 6 by omega];exact hb⟩ hn
 ·simp[hi]
theorem zOd (vs:List MVar) (hv:zAd vs) (l:Nat) (hw:∀i,l.testBit i=true→(zAD vs).testBit i=true) (hk:zCO vs.length l=false) (hf:zBf (zAh vs l)<0) :
 zD2 vs (zAh vs l).flatten∧zB5 vs (zAh vs l).flatten l∧∀i,l.testBit i=true→∃v,v<vs.length∧i=posV vs (zAh vs l).flatten v:=by
 have hlen:=zFf vs l;have hone:∀v,v<vs.length→∃x,(zAh vs l)[v]? = some [x]∧∃i,i<36∧l.testBit i=true∧i / 6=v∧x=(zAK vs v).lo+((i % 6:Nat):Int):=fun v hvl=>by
  obtain⟨k,hk6,hb⟩:=zIC vs.length l hk v hvl;have hi36:6 * v+k<36:=by have:=hv.1;omega
  have hx:(zAK vs v).lo+((k:Nat):Int)∈(zAh vs l).getD v []:=(zFg vs l v hvl _).2 ⟨6 * v+k,hi36,hb,by omega,by congr 2;omega⟩
  have hg:(zAh vs l)[v]? = some ((zAh vs l).getD v []):=by rw[List.getD_eq_getElem?_getD,List.getElem?_eq_getElem (by omega)];rfl
  have h1:=zMe _ hf _ (List.mem_of_getElem? hg)
  match hr:(zAh vs l).getD v [] with
  | []=>rw[hr] at hx;cases hx
  | [x] =>
    rw[hr] at hg hx;refine⟨x,hg,6 * v+k,hi36,hb,by omega,?_⟩
    have h2:(zAK vs v).lo+((k:Nat):Int)=x:=by simpa using hx
    rw[←h2]
    congr 2;omega
  | x :: y :: t=>rw[hr] at h1;simp at h1
 have hflat:∀(s:Sto),(∀v:Nat,v<s.length→∃x:Int,s[v]? = some [x])→s.flatten.length=s.length∧∀(v:Nat) (x:Int),s[v]? = some [x]→s.flatten[v]? = some x:=by
  intro s
  induction s with
  | nil=>intro _;exact⟨rfl,fun v x h=>by simp at h⟩
  | cons a r ih =>
    intro h;obtain⟨x,hx⟩:=h 0 (by simp)
    have ha:a=[x]:=by simpa using hx
    subst ha;obtain⟨i1,i2⟩:=ih fun v hv=>by
     obtain⟨y,hy⟩:=h (v+1) (by simp;omega)
     exact⟨y,by simpa using hy⟩
    refine⟨by simp[i1],fun v y hy=>?_⟩
    cases v with
    | zero=>simpa using hy
    | succ v=>simpa using i2 v y (by simpa using hy)
 obtain⟨f1,f2⟩:=hflat (zAh vs l) fun v hvl=>(hone v (by omega)).imp fun x hx=>hx.1
 have hval:∀v,v<vs.length→∃i,i<36∧l.testBit i=true∧i / 6=v∧zAZ (zAh vs l).flatten (v:Int)=(zAK vs v).lo+((i % 6:Nat):Int):=fun v hvl=>by
  obtain⟨x,h1,i,h2,h3,h4,h5⟩:=hone v hvl;refine⟨i,h2,h3,h4,?_⟩;unfold zAZ;rw[Int.toNat_natCast,List.getD_eq_getElem?_getD,f2 v x h1];exact h5
 have hsz:∀i,l.testBit i=true→i / 6<vs.length∧i % 6<zB8 (zAK vs (i / 6)):=fun i hi=>by
  have:=hw i hi;unfold zAD ofP at this;rw[zAc vs hv] at this;simp only[Bool.and_eq_true,decide_eq_true_eq] at this;exact⟨this.1,this.2.1⟩
 have hmb:zD2 vs (zAh vs l).flatten:=⟨by rw[f1,hlen],fun v hvl=>by
  obtain⟨i,_,h2,h3,h4⟩:=hval v hvl;have:=(hsz i h2).2;rw[h3] at this;unfold zB8 at this;rw[h4];omega⟩
 have hpos:∀v,v<vs.length→∃i,l.testBit i=true∧i=posV vs (zAh vs l).flatten v:=fun v hvl=>by
  obtain⟨i,_,h2,h3,h4⟩:=hval v hvl;refine⟨i,h2,?_⟩;unfold posV;rw[h4];omega
 refine⟨hmb,fun v hvl=>?_,fun i hi=>?_⟩
 ·obtain⟨i,h1,h2⟩:=hpos v hvl
  rw[←h2];exact h1
 ·refine⟨i / 6,(hsz i hi).1,?_⟩
  obtain⟨x,h1,j,j1,j2,j3,j4⟩:=hone (i / 6) (hsz i hi).1;have hx:(zAK vs (i / 6)).lo+((i % 6:Nat):Int)∈(zAh vs l).getD (i / 6) []:=(zFg vs l _ (hsz i hi).1 _).2 ⟨i,by have:=(hsz i hi).1;have:=hv.1;omega,hi,rfl,rfl⟩
  rw[List.getD_eq_getElem?_getD,h1] at hx;have hxx:(zAK vs (i / 6)).lo+((i % 6:Nat):Int)=x:=by simpa using hx
  obtain⟨k,_,k2⟩:=hpos (i / 6) (hsz i hi).1;unfold posV;unfold zAZ;rw[Int.toNat_natCast,List.getD_eq_getElem?_getD,f2 _ x h1];simp only[Option.getD_some];omega
theorem zC3 {n:Nat} (h:n≠0):∃i,n.testBit i=true:=by
 apply Classical.byContradiction;intro hn;apply h;apply Nat.eq_of_testBit_eq;intro i;rw[Nat.zero_testBit];cases hb:n.testBit i
 ·rfl
 ·exact absurd ⟨i,hb⟩ hn
theorem zMg (m:Mod) (hm:zAF m=0) (S:Sk) (hl:zAt m.vars (ptsM m) S≠0) (hf:zBf (zAh m.vars (zAt m.vars (ptsM m) S))<0) :
 Sol m (zAh m.vars (zAt m.vars (ptsM m) S)).flatten∧∀c∈S.cs,Hits m.vars (zAh m.vars (zAt m.vars (ptsM m) S)).flatten c:=by
 have hv:=zAg m hm;have hfix:=zJa m.vars hv S.cs (ptsM m) (zAH m.vars S.path) hl;have h36:=zP2 m.vars hv S.cs (ptsM m) (zAH m.vars S.path);have hsub:∀i,(zAt m.vars (ptsM m) S).testBit i=true→(zAD m.vars).testBit i=true:=fun i hi=>(zEf m.vars hv _ _ _ i hi).1
 change zBC (ptsM m) (zAf m.vars S.cs (zAt m.vars (ptsM m) S))=zAt m.vars (ptsM m) S at hfix
 change zAt m.vars (ptsM m) S<2 ^ 36 at h36
 generalize zAt m.vars (ptsM m) S=l at *;have h1:=zDq m.vars S.cs l;have h2:=zGQ (ptsM m) (zAf m.vars S.cs l) (by omega)
 have hu:zAf m.vars S.cs l=l:=by omega
 rw[hu] at hfix;obtain⟨hk,hcl⟩:=zP6 m.vars S.cs l hl hu;obtain⟨b1,b2,b3⟩:=zOd m.vars hv l hsub hk hf;generalize (zAh m.vars l).flatten=x at *;refine⟨⟨b1,fun c hc=>?_⟩,fun c hc=>?_⟩
 ·have hp:=zK6 (ptsM m) l h36 hl hfix (zAM m.vars c) (List.mem_map.2 ⟨c,hc,rfl⟩)
  obtain⟨j,hj,he⟩:=List.getElem_of_mem hc;obtain⟨k1,k2⟩:=zFd m hm j c (by rw[List.getElem?_eq_getElem hj,he])
  have hfd:(zCh l (zAM m.vars c) (0,0,false)).2.2=true:=by
   cases hq:(zCh l (zAM m.vars c) (0,0,false)).2.2
   ·unfold zBd at hp
    rw[hq] at hp;exact absurd hp.symm hl
   ·rfl
  rcases (zD4 l _ _).1 hfd with h | ⟨q,hq,hz⟩
  ·cases h
  ·obtain⟨u,l1,l2,l3,_,_,l6⟩:=zEs m.vars c _ _ _ q k1 (by simp[zBs]) hq
   rw[←zF1 c u x (fun v hvs=>?_) k2]
   ·exact l2
   ·have hb:=(zBk _ _).1 hz _ (l6 v hvs)
    obtain⟨v',hv',hpos⟩:=b3 _ hb;have hp1:=zD3 m.vars hv x b1 v' hv';have h3:=l3 v hvs;have h4:=k1 v hvs;have h6:=hv.2 v.toNat;unfold zB8 at h6;rw[←hpos] at hp1;have hvv:v'=v.toNat:=by omega
    subst hvv;rw[Int.toNat_of_nonneg h4.1] at hp1;omega
 ·have hne:=hcl c hc
  obtain⟨i,hi⟩:=zC3 hne;rw[Nat.testBit_and,Bool.and_eq_true] at hi;obtain⟨v,hvl,hpos⟩:=b3 i hi.1;exact⟨v,hvl,by rw[←hpos];exact hi.2⟩
theorem zCv (m:Mod) (hm:zAF m=0) (G:List Int→Prop):∀(N:Nat) (S:Sk),zDF m.vars S<N→zP5 m G S →
 zP5 m G (zAa m.vars (ptsM m) S).2.2∧((zAa m.vars (ptsM m) S).1=1→Sol m (zAa m.vars (ptsM m) S).2.1∧(∀c∈(zAa m.vars (ptsM m) S).2.2.cs,Hits m.vars (zAa m.vars (ptsM m) S).2.1 c)∧∀c∈S.cs,c∈(zAa m.vars (ptsM m) S).2.2.cs) ∧
  ((zAa m.vars (ptsM m) S).1=2→∀x,Sol m x→¬G x)∧((zAa m.vars (ptsM m) S).1=1∨(zAa m.vars (ptsM m) S).1=2∨(zAa m.vars (ptsM m) S).1=3)∧((zAa m.vars (ptsM m) S).1≠1→(zAa m.vars (ptsM m) S).2.1=[])
 | 0,S,h,_=>by omega
 | N+1,S,h,hs=>by
   rw[zGV m.vars (zAg m hm)]
   split
   ·rename_i hz
    obtain⟨t1,t2⟩:=zOc m hm G S hs hz
    split
    ·rename_i h0
     obtain⟨n1,n2,n3,n4⟩:=zCv m hm G N _ (by have:=zEg m.vars (ptsM m) S h0;omega) t1
     refine⟨n1,fun hv=>?_,n3,n4⟩
     obtain⟨k1,k2,k3⟩:=n2 hv;refine⟨k1,k2,fun c hc=>k3 c ?_⟩
     unfold zBV at h0 ⊢
     split
     ·exact hc
     ·split
      ·exact hc
      ·split
       ·exact hc
       ·exact List.mem_append_left _ hc
    ·rename_i h0
     have h3:(zBV m.vars (ptsM m) S).1=0∨(zBV m.vars (ptsM m) S).1=2∨(zBV m.vars (ptsM m) S).1=3:=by
      unfold zBV
      split
      ·exact Or.inr (Or.inr rfl)
      ·split
       ·exact Or.inr (Or.inr rfl)
       ·split
        ·exact Or.inr (Or.inl rfl)
        ·exact Or.inl rfl
     refine⟨t1,fun hv=>?_,t2,?_,fun _=>rfl⟩
     ·simp only at hv
      omega
     ·simp only
      omega
   ·rename_i hz
    split
    ·rename_i hf
     obtain⟨f1,f2⟩:=zMg m hm S hz hf;exact⟨hs,fun _=>⟨f1,f2,fun c hc=>hc⟩,(fun h=>by cases h),Or.inl rfl,(fun h=>absurd rfl h)⟩
    ·rename_i hf
     exact zCv m hm G N _ (by have:=zFh m.vars (zAg m hm) (ptsM m) S hf;omega) hs
def zDm (A:List Nat) (r:Nat):Prop:=∀c∈A,r &&& c≠0∧(zAL (r &&& c) (zAl (r &&& c))=0→∀i,r.testBit i=true→(zAl (r &&& c)).testBit i=true→c.testBit i=true)
def SubP (a b:Nat):Prop:=∀i,a.testBit i=true→b.testBit i=true
theorem zB4 (a b i:Nat):(a &&& b).testBit i=true↔a.testBit i=true∧b.testBit i=true:=by rw[Nat.testBit_and,Bool.and_eq_true]
theorem zBU (a b i:Nat):(zAL a b).testBit i=true↔a.testBit i=true∧b.testBit i=false:=by rw[zAR,Bool.and_eq_true,Bool.not_eq_true']
theorem zFJ (p i:Nat) (h:zAL p (zAl p)=0) (hi:p.testBit i=true):∀j,(zAl p).testBit j=true↔j / 6=i / 6:=by
 intro j;have h1:=(zBk _ _).1 h i hi;rw[zBL,decide_eq_true_eq] at h1;rw[zBL,decide_eq_true_eq,h1]
theorem zFK (r:Nat) (hr:r<2 ^ 36):∀(cs:List Nat) (l:Nat),zDm cs r→SubP r l→∃l',zAp cs l=some l'∧SubP r l'
 | [],l,_,hs=>⟨l,rfl,hs⟩
 | c :: t,l,hc,hs=>by
   obtain⟨h1,h2⟩:=hc c (List.mem_cons_self ..);obtain⟨i,hi⟩:=zC3 h1;have hi2:=(zB4 _ _ _).1 hi;have hne:l &&& c≠0:=fun h=>by
    have:=(zB4 l c i).2 ⟨hs i hi2.1,hi2.2⟩;rw[h] at this;simp at this
   unfold zAp;rw[if_neg hne]
   split
   ·rename_i hf
    refine zFK r hr t _ (fun d hd=>hc d (List.mem_cons_of_mem _ hd)) fun j hj=>?_
    have hli:(l &&& c).testBit i=true:=(zB4 _ _ _).2 ⟨hs i hi2.1,hi2.2⟩;have hfl:=zFJ _ i hf hli;have hrf:zAL (r &&& c) (zAl (r &&& c))=0:=by
     refine (zBk _ _).2 fun k hk=>?_
     have hk2:=(zB4 _ _ _).1 hk;have hkl:(l &&& c).testBit k=true:=(zB4 _ _ _).2 ⟨hs k hk2.1,hk2.2⟩;have hk3:=(hfl k).1 ((zBk _ _).1 hf k hkl);have hct:(r &&& c).testBit (Lib.ctz 64 (r &&& c))=true:=by
      have hle:r &&& c≤r:=Nat.and_le_left;exact (zEJ _ h1 (by omega) _).2.1 rfl
     have hc2:=(zB4 _ _ _).1 hct;have hcl:(l &&& c).testBit (Lib.ctz 64 (r &&& c))=true:=(zB4 _ _ _).2 ⟨hs _ hc2.1,hc2.2⟩;have hc3:=(hfl _).1 ((zBk _ _).1 hf _ hcl);rw[zBL,decide_eq_true_eq];omega
    rw[zBU];refine⟨hs j hj,?_⟩;cases hb:(zAL (zAl (l &&& c)) (l &&& c)).testBit j
    ·rfl
    ·exfalso
     obtain⟨b1,b2⟩:=(zBU _ _ _).1 hb;have hj6:=(hfl j).1 b1;have hrj:=zFJ _ i hrf hi;have:=h2 hrf j hj ((hrj j).2 hj6);rw[(zB4 _ _ _).2 ⟨hs j hj,this⟩] at b2;cases b2
   ·exact zFK r hr t l (fun d hd=>hc d (List.mem_cons_of_mem _ hd)) hs
theorem zGX (r:Nat) (hr:r<2 ^ 36) (cs:List Nat) (hc:zDm cs r):∀(f l:Nat),SubP r l→SubP r (zBQ cs f l)
 | 0,l,hs=>hs
 | f+1,l,hs=>by
   obtain⟨l',h1,h2⟩:=zFK r hr cs l hc hs;unfold zBQ;rw[h1];simp only
   split
   ·exact hs
   ·exact zGX r hr cs hc f l' h2
theorem zR5 (n a b:Nat) (h:SubP a b) (ha:zCO n a=false):zCO n b=false:=by
 refine zHe n b fun v hv=>?_
 obtain⟨k,h1,h2⟩:=zIC n a ha v hv;exact⟨k,h1,h _ h2⟩
theorem zHK (vs:List MVar) (r:Nat) (hr:r<2 ^ 36) (hl:zCO vs.length r=false) (cs:List Nat) (hc:zDm cs r) (l:Nat) (hs:SubP r l):SubP r (zAf vs cs l):=by
 unfold zAf;rw[if_neg (by rw[zR5 _ _ _ hs hl];decide)]
 exact zGX r hr cs hc _ l hs
theorem zGs (n:Nat):∀(cs:List Nat) (l l':Nat),l<2 ^ 36→zAp cs l=some l'→zCO n l=false→zCO n l'=false
 | [],l,l',_,h,hl=>by simp[zAp] at h;rw[←h];exact hl
 | c :: t,l,l',h36,h,hl=>by
   unfold zAp at h
   split at h
   ·cases h
   ·rename_i h0
    split at h
    ·rename_i hf
     have h36':=zHw l (zAL (zAl (l &&& c)) (l &&& c));refine zGs n t _ l' (by omega) h (zHe n _ fun v hv=>?_)
     obtain⟨k,k1,k2⟩:=zIC n l hl v hv;obtain⟨i,hi⟩:=zC3 h0;have hfl:=zFJ _ i hf hi;by_cases hv6:v=i / 6
     ·subst hv6
      refine⟨i % 6,by omega,?_⟩
      rw[show 6 * (i / 6)+i % 6=i by omega,zBU]
      refine⟨((zB4 _ _ _).1 hi).1,?_⟩;rw[zAR,hi];simp
     ·refine⟨k,k1,?_⟩
      rw[zBU];refine⟨k2,?_⟩;cases hb:(zAL (zAl (l &&& c)) (l &&& c)).testBit (6 * v+k)
      ·rfl
      ·have:=(hfl _).1 ((zBU _ _ _).1 hb).1
       omega
    ·exact zGs n t l l' h36 h hl
theorem zID (n:Nat) (cs:List Nat):∀(f l:Nat),l<2 ^ 36→zCO n l=false→zBQ cs f l≠0→zCO n (zBQ cs f l)=false
 | 0,l,_,hl,_=>hl
 | f+1,l,h,hl,hn=>by
   unfold zBQ at hn ⊢;cases hr:zAp cs l with
   | none=>rw[hr] at hn;exact absurd rfl hn
   | some l' =>
     rw[hr] at hn;simp only at hn ⊢;by_cases he:l'=l
     ·rw[if_pos he];exact hl
     ·rw[if_neg he] at hn ⊢
      have:=zC1 cs l l' hr;exact zID n cs f l' (by omega) (zGs n cs l l' h hr hl) hn
theorem zJb (cs:List Nat):∀(f l:Nat),l<f→zBQ cs f l≠0→zAp cs (zBQ cs f l)=some (zBQ cs f l)
 | 0,l,h,_=>by omega
 | f+1,l,h,hn=>by
   unfold zBQ at hn ⊢;cases hr:zAp cs l with
   | none=>rw[hr] at hn;exact absurd rfl hn
   | some l' =>
     rw[hr] at hn;simp only at hn ⊢;by_cases he:l'=l
     ·rw[if_pos he];rw[he] at hr;exact hr
     ·rw[if_neg he] at hn ⊢
      have:=zC1 cs l l' hr;exact zJb cs f l' (by omega) hn
theorem zGt:∀(cs:List Nat) (l:Nat),zAp cs l=some l→zDm cs l
 | [],l,_=>fun c hc=>by cases hc
 | c :: t,l,h=>by
   unfold zAp at h
   split at h
   ·cases h
   ·rename_i h0
    split at h
    ·rename_i hf
     have h1:=zC1 t _ l h;have h2:=zHw l (zAL (zAl (l &&& c)) (l &&& c));have h3:zAL l (zAL (zAl (l &&& c)) (l &&& c))=l:=by omega
     rw[h3] at h;intro d hd;rcases List.mem_cons.1 hd with rfl | hd
     ·refine⟨h0,fun _ i hi hfi=>?_⟩
      have h4:=congrArg (fun z=>Nat.testBit z i) h3
      simp only[zAR,hi,hfi] at h4;have h5:(l &&& d).testBit i=true:=by
       cases hb:(l &&& d).testBit i
       ·rw[hb] at h4;simp at h4
       ·rfl
      exact ((zB4 _ _ _).1 h5).2
     ·exact zGt t l h d hd
    ·rename_i hf
     intro d hd;rcases List.mem_cons.1 hd with rfl | hd
     ·exact⟨h0,fun h5=>absurd h5 hf⟩
     ·exact zGt t l h d hd
theorem zJc (vs:List MVar) (A:List Nat) (l:Nat) (h36:l<2 ^ 36) (hn:zAf vs A l≠0):zCO vs.length (zAf vs A l)=false∧zDm A (zAf vs A l)∧SubP (zAf vs A l) l:=by
 refine⟨?_,?_,fun i hi=>zDh vs A l i hi⟩
 ·unfold zAf at hn ⊢
  split
  ·rename_i hc;rw[if_pos hc] at hn;exact absurd rfl hn
  ·rename_i hc
   rw[if_neg hc] at hn;exact zID _ A _ l h36 (by simpa using hc) hn
 ·unfold zAf at hn ⊢
  split
  ·rename_i hc;rw[if_pos hc] at hn;exact absurd rfl hn
  ·rename_i hc
   rw[if_neg hc] at hn;exact zGt A _ (zJb A _ l (Nat.lt_succ_self _) hn)
theorem zIE {A B:List Nat} {r:Nat} (h:zDm B r) (hs:∀c∈A,c∈B):zDm A r:=fun c hc=>h c (hs c hc)
theorem zP7 (vs:List MVar) (hv:zAd vs) (g:Nat) (hg:SubP g (zAD vs)) (i:Nat):(zAH vs (zBj vs g)).testBit i=g.testBit i:=by
 unfold zAH ofP;rw[zAc vs hv];rw[Bool.eq_iff_iff];simp only[Bool.and_eq_true,decide_eq_true_eq]
 constructor
 ·rintro ⟨h1,h2,h3⟩
  unfold oneB at h3;obtain⟨l,hl,hc⟩:=List.any_eq_true.1 h3;unfold zBj at hl;obtain⟨j,hj,rfl⟩:=List.mem_map.1 hl;unfold zEQ at hj;have hj2:=(List.mem_filter.1 hj).2;simp only[Bool.and_eq_true,decide_eq_true_eq] at hc;obtain⟨c1,c2⟩:=hc;have c1':j / 6=i / 6:=by omega
  rw[c1'] at c2;unfold litV at c2;simp at c2;have:j=i:=by omega
  rw[←this];exact hj2
 ·intro h
  have hw:=hg i h;unfold zAD ofP at hw;rw[zAc vs hv] at hw;simp only[Bool.and_eq_true,decide_eq_true_eq] at hw;refine⟨hw.1,hw.2.1,?_⟩;unfold oneB;refine List.any_eq_true.2 ⟨⟨((i / 6:Nat):Int),3,(zAK vs (i / 6)).lo+((i % 6:Nat):Int)⟩,?_,?_⟩
  ·unfold zBj
   refine List.mem_map.2 ⟨i,(zKM g i (by have:=hv.1;omega)).2 h,rfl⟩
  ·simp only[decide_true,Bool.true_and]
   unfold litV;simp
theorem zMh (vs:List MVar) (hv:zAd vs) (b i:Nat) (hb:(zAD vs).testBit b=true):(zAH vs [(⟨((b / 6:Nat):Int),4,(zAK vs (b / 6)).lo+((b % 6:Nat):Int)⟩:MLit)]).testBit i=true↔(zAD vs).testBit i=true∧i / 6=b / 6∧i≠b:=by
 unfold zAH zAD ofP at *;rw[zAc vs hv,zAc vs hv];simp only[Bool.and_eq_true,decide_eq_true_eq];unfold oneB;simp only[List.any_cons,List.any_nil,Bool.or_false,Bool.and_eq_true,decide_eq_true_eq]
 constructor
 ·rintro ⟨h1,h2,h3,h4⟩
  have h5:i / 6=b / 6:=by omega
  refine⟨⟨h1,h2,trivial⟩,h5,fun he=>?_⟩
  subst he;unfold litV at h4;simp at h4
 ·rintro ⟨⟨h1,h2,_⟩,h3,h4⟩
  refine⟨h1,h2,by omega,?_⟩
  unfold litV;rw[h3];simp;omega
theorem zGY (vs:List MVar) (hv:zAd vs):zAH vs []=0:=by
 apply Nat.eq_of_testBit_eq;intro i;rw[zNn vs hv,Nat.zero_testBit]
def zK7 (vs:List MVar) (pts:List Nat) (any:Cla) (gone:Nat):Nat:=zCu (fun g=>zCy vs pts (zAH vs any ||| g)) (gone+1) gone gone
theorem zHg (vs:List MVar) (hv:zAd vs) (pts:List Nat) (any:Cla) (gone:Nat) (hg:SubP gone (zAD vs)):zAH vs (whyP vs pts any gone)=zAH vs any ||| zK7 vs pts any gone∧SubP (zK7 vs pts any gone) gone:=by
 have hs:SubP (zK7 vs pts any gone) gone:=fun i hi=>zH1 _ _ _ _ i hi
 refine⟨?_,hs⟩;apply Nat.eq_of_testBit_eq;intro i;unfold whyP;rw[zFI vs hv,Nat.testBit_or]
 congr 1
 exact zP7 vs hv _ (fun j hj=>hg j (hs j hj)) i
theorem zR6 (vs:List MVar) (hv:zAd vs) (pt:List (List Nat)) (A:List Nat) (r:Nat) (hA:zDm A r) (k:Nat) (pts:List Nat) (hk:pt.getD k []=pts) (l:Nat) (hlw:SubP l (zAD vs)) (hrl:SubP r l)
 (hr:∀x∈zBD vs pt (k,l,zBd pts l),x.2∈A):SubP r (zBd pts l):=by
 have hgw:SubP (zAL (zAD vs) l) (zAD vs):=fun i hi=>((zBU _ _ _).1 hi).1
 by_cases h0:zBd pts l=0
 ·exfalso
  have hm:=hr (zC2 vs k (whyP vs pts [] (zAL (zAD vs) l))) (by unfold zBD;simp only;rw[if_pos h0,hk];exact List.mem_singleton.2 rfl)
  obtain⟨h1,_⟩:=hA _ hm;obtain⟨i,hi⟩:=zC3 h1;obtain⟨i1,i2⟩:=(zB4 _ _ _).1 hi;obtain⟨w1,w2⟩:=zHg vs hv pts [] (zAL (zAD vs) l) hgw;have i3:(zAH vs (whyP vs pts [] (zAL (zAD vs) l))).testBit i=true:=i2;rw[w1,zGY vs hv,Nat.zero_or] at i3;have:=((zBU _ _ _).1 (w2 i i3)).2;rw[hrl i i1] at this;cases this
 ·intro b hb
  cases hab:(zBd pts l).testBit b
  ·exfalso
   have hbl:=hrl b hb;have hbw:=hlw b hbl;have hb36:b<36:=by
    have:=hbw;unfold zAD ofP at this;rw[zAc vs hv] at this;simp only[Bool.and_eq_true,decide_eq_true_eq] at this;have:=hv.1;omega
   have hlit:(⟨((b / 6:Nat):Int),3,(zAK vs (b / 6)).lo+((b % 6:Nat):Int)⟩:MLit)∈zBj vs (zAL l (zBd pts l)):=by
    unfold zBj;exact List.mem_map.2 ⟨b,(zKM _ b hb36).2 ((zBU _ _ _).2 ⟨hbl,hab⟩),rfl⟩
   have hm:=hr (zC2 vs k (whyP vs pts [⟨((b / 6:Nat):Int),4,(zAK vs (b / 6)).lo+((b % 6:Nat):Int)⟩] (zAL (zAD vs) l))) (by
    unfold zBD;simp only;rw[if_neg h0,hk];exact List.mem_map.2 ⟨_,hlit,rfl⟩)
   obtain⟨w1,w2⟩:=zHg vs hv pts [⟨((b / 6:Nat):Int),4,(zAK vs (b / 6)).lo+((b % 6:Nat):Int)⟩] (zAL (zAD vs) l) hgw;obtain⟨h1,h2⟩:=hA _ hm
   change r &&& zAH vs (whyP vs pts [⟨((b / 6:Nat):Int),4,(zAK vs (b / 6)).lo+((b % 6:Nat):Int)⟩] (zAL (zAD vs) l))≠0 at h1
   change zAL (r &&& zAH vs (whyP vs pts [⟨((b / 6:Nat):Int),4,(zAK vs (b / 6)).lo+((b % 6:Nat):Int)⟩] (zAL (zAD vs) l))) (zAl (r &&& zAH vs (whyP vs pts [⟨((b / 6:Nat):Int),4,(zAK vs (b / 6)).lo+((b % 6:Nat):Int)⟩] (zAL (zAD vs) l))))=0→∀i,r.testBit i=true→(zAl (r &&& zAH vs (whyP vs pts [⟨((b / 6:Nat):Int),4,(zAK vs (b / 6)).lo+((b % 6:Nat):Int)⟩] (zAL (zAD vs) l)))).testBit i=true→(zAH vs (whyP vs pts [⟨((b / 6:Nat):Int),4,(zAK vs (b / 6)).lo+((b % 6:Nat):Int)⟩] (zAL (zAD vs) l))).testBit i=true at h2
   rw[w1] at h1 h2;generalize zK7 vs pts [⟨((b / 6:Nat):Int),4,(zAK vs (b / 6)).lo+((b % 6:Nat):Int)⟩] (zAL (zAD vs) l)=g at *;have hin:∀i,(r &&& (zAH vs [⟨((b / 6:Nat):Int),4,(zAK vs (b / 6)).lo+((b % 6:Nat):Int)⟩] ||| g)).testBit i=true→i / 6=b / 6∧i≠b:=fun i hi=>by
    obtain⟨i1,i2⟩:=(zB4 _ _ _).1 hi;rw[Nat.testBit_or,Bool.or_eq_true] at i2;rcases i2 with i2 | i2
    ·exact ((zMh vs hv b i hbw).1 i2).2
    ·have:=((zBU _ _ _).1 (w2 i i2)).2
     rw[hrl i i1] at this;cases this
   obtain⟨i,hi⟩:=zC3 h1;have hct:(r &&& (zAH vs [⟨((b / 6:Nat):Int),4,(zAK vs (b / 6)).lo+((b % 6:Nat):Int)⟩] ||| g)).testBit (Lib.ctz 64 (r &&& (zAH vs [⟨((b / 6:Nat):Int),4,(zAK vs (b / 6)).lo+((b % 6:Nat):Int)⟩] ||| g)))=true:=by
    refine (zEJ _ h1 ?_ _).2.1 rfl;refine Nat.lt_of_le_of_lt (Nat.le_of_testBit fun j hj=>hlw j (hrl j ((zB4 _ _ _).1 hj).1)) ?_
    have:=zB6 vs hv;omega
   have hc6:=(hin _ hct).1;have hz:zAL (r &&& (zAH vs [⟨((b / 6:Nat):Int),4,(zAK vs (b / 6)).lo+((b % 6:Nat):Int)⟩] ||| g)) (zAl (r &&& (zAH vs [⟨((b / 6:Nat):Int),4,(zAK vs (b / 6)).lo+((b % 6:Nat):Int)⟩] ||| g)))=0:=by
    refine (zBk _ _).2 fun j hj=>?_
    rw[zBL,decide_eq_true_eq,(hin j hj).1,hc6]
   have hbb:=h2 hz b hb (by rw[zBL,decide_eq_true_eq,hc6])
   rw[Nat.testBit_or,Bool.or_eq_true] at hbb;rcases hbb with h | h
   ·exact ((zMh vs hv b b hbw).1 h).2.2 rfl
   ·have:=((zBU _ _ _).1 (w2 b h)).2
    rw[hbl] at this;cases this
  ·rfl
theorem zNo (vs:List MVar) (hv:zAd vs) (pt:List (List Nat)) (A:List Nat) (r:Nat) (hA:zDm A r):∀(ptl:List (List Nat)) (k l:Nat),(∀(j:Nat) pts,ptl[j]? = some pts→pt.getD (k+j) []=pts)→SubP l (zAD vs)→SubP r l →
 (∀t∈zEE k ptl l,∀x∈zBD vs pt t,x.2∈A)→SubP r (zBC ptl l)
 | [],k,l,_,_,hrl,_=>hrl
 | pts :: rest,k,l,hk,hlw,hrl,hr=>by
   unfold zBC;unfold zEE at hr;by_cases h0:l=0
   ·rw[if_pos h0];exact hrl
   ·rw[if_neg h0] at hr ⊢
    have h36:l<2 ^ 36:=Nat.lt_of_le_of_lt (Nat.le_of_testBit hlw) (zB6 vs hv);refine zNo vs hv pt A r hA rest (k+1) (zBd pts l) (fun j q hq=>by have:=hk (j+1) q (by simpa using hq);rw[←this];congr 1;omega) (fun i hi=>hlw i (zEt pts l i h36 hi)) ?_ (fun t ht=>hr t (List.mem_append_right _ ht))
    by_cases he:zBd pts l=l
    ·rw[he];exact hrl
    ·exact zR6 vs hv pt A r hA k pts (by have:=hk 0 pts rfl;simpa using this) l hlw hrl (fun x hx=>hr (k,l,zBd pts l) (List.mem_append_left _ (by rw[if_neg he];exact List.mem_singleton.2 rfl)) x hx)
theorem zIF (vs:List MVar) (hv:zAd vs) (pt:List (List Nat)) (cs A:List Nat) (hcs:∀c∈cs,c∈A) (r:Nat) (hr36:r<2 ^ 36) (hlk:zCO vs.length r=false) (hA:zDm A r):∀(f l:Nat),SubP l (zAD vs)→SubP r l →
 (∀t∈zCF vs cs pt f l,∀x∈zBD vs pt t,x.2∈A)→SubP r (zBW vs cs pt f l)
 | 0,l,_,hrl,_=>hrl
 | f+1,l,hlw,hrl,hr=>by
   unfold zBW;unfold zCF at hr;have hu:=zHK vs r hr36 hlk cs (zIE hA hcs) l hrl;have hc:=zNo vs hv pt A r hA pt 0 (zAf vs cs l) (fun j pts hj=>by rw[Nat.zero_add,List.getD_eq_getElem?_getD,hj];rfl) (fun i hi=>hlw i (zDh vs cs l i hi)) hu (fun t ht=>hr t (List.mem_append_left _ ht))
   split
   ·exact hrl
   ·rename_i hne
    rw[if_neg hne] at hr;have h36:l<2 ^ 36:=Nat.lt_of_le_of_lt (Nat.le_of_testBit hlw) (zB6 vs hv);refine zIF vs hv pt cs A hcs r hr36 hlk hA f _ (fun i hi=>?_) hc (fun t ht=>hr t (List.mem_append_right _ ht))
    have:∀(ptl:List (List Nat)) (q:Nat),q<2 ^ 36→(zBC ptl q).testBit i=true→q.testBit i=true:=by
     intro ptl
     induction ptl with
     | nil=>intro q _ h;exact h
     | cons pts rest ih =>
       intro q hq h;unfold zBC at h
       split at h
       ·exact h
       ·have:=zF5 pts q hq
        exact zEt pts q i hq (ih _ (by omega) h)
    have h3:=zDq vs cs l;exact hlw i (zDh vs cs l i (this pt _ (by omega) hi))
theorem zJB (vs:List MVar) (hv:zAd vs) (cs:List Nat) (pt:List (List Nat)) (h:Nat) (hz:zBe vs cs pt h=0):zCU vs cs h (zAz vs cs pt h)=true:=by
 unfold zCU zDf;cases hb:(zAf vs (cs++(zAz vs cs pt h).map (·.2)) (zAL (zAD vs) h)==0)
 ·exfalso
  have hn:zAf vs (cs++(zAz vs cs pt h).map (·.2)) (zAL (zAD vs) h)≠0:=by simpa using hb
  have h36:zAL (zAD vs) h<2 ^ 36:=zCe 36 _ _ (zB6 vs hv);obtain⟨k1,k2,k3⟩:=zJc vs _ _ h36 hn;have hle:=zDq vs (cs++(zAz vs cs pt h).map (·.2)) (zAL (zAD vs) h)
  have hL0:zAL (zAD vs) h≠0:=fun he=>hn (by omega)
  unfold zBe at hz;rw[if_neg hL0] at hz;have hs:=zIF vs hv pt cs (cs++(zAz vs cs pt h).map (·.2)) (fun c hc=>List.mem_append_left _ hc) _ (by omega) k1 k2 (zAL (zAD vs) h+1) (zAL (zAD vs) h) (fun i hi=>((zBU _ _ _).1 hi).1) k3 (fun t ht x hx=>by
   refine List.mem_append_right _ (List.mem_map.2 ⟨x,?_,rfl⟩);unfold zAz zH4;rw[if_neg hL0];exact List.mem_flatMap.2 ⟨t,ht,hx⟩)
  rw[hz] at hs;obtain⟨i,hi⟩:=zC3 hn;have:=hs i hi;simp at this
 ·rfl
structure TellOk (vs:List MVar) (pt:List (List Nat)) (t:Nat×Nat×Nat):Prop where
 pts:∃pts,pt[t.1]? = some pts∧t.2.2=zBd pts t.2.1
 sub:SubP t.2.1 (zAD vs)
 ne:t.2.1≠0
 dif:t.2.2≠t.2.1
theorem zNp (vs:List MVar) (hv:zAd vs) (pt:List (List Nat)):∀(ptl:List (List Nat)) (k l:Nat),(∀(j:Nat) pts,ptl[j]? = some pts→pt[k+j]? = some pts)→SubP l (zAD vs)→∀t∈zEE k ptl l,TellOk vs pt t
 | [],k,l,_,_=>fun t ht=>by cases ht
 | pts :: rest,k,l,hk,hlw=>by
   intro t ht;unfold zEE at ht;by_cases h0:l=0
   ·rw[if_pos h0] at ht;cases ht
   ·rw[if_neg h0] at ht
    have h36:l<2 ^ 36:=Nat.lt_of_le_of_lt (Nat.le_of_testBit hlw) (zB6 vs hv);rcases List.mem_append.1 ht with ht | ht
    ·by_cases he:zBd pts l=l
     ·rw[if_pos he] at ht;cases ht
     ·rw[if_neg he] at ht
      rw[List.mem_singleton.1 ht];exact⟨⟨pts,hk 0 pts rfl,rfl⟩,hlw,h0,he⟩
    ·exact zNp vs hv pt rest (k+1) (zBd pts l) (fun j q hq=>by have:=hk (j+1) q (by simpa using hq);rw[←this];congr 1;omega) (fun i hi=>hlw i (zEt pts l i h36 hi)) t ht
theorem zJd (vs:List MVar) (hv:zAd vs) (cs:List Nat) (pt:List (List Nat)):∀(f l:Nat),SubP l (zAD vs)→∀t∈zCF vs cs pt f l,TellOk vs pt t
 | 0,l,_=>fun t ht=>by cases ht
 | f+1,l,hlw=>by
   intro t ht;unfold zCF at ht;have h36:l<2 ^ 36:=Nat.lt_of_le_of_lt (Nat.le_of_testBit hlw) (zB6 vs hv);rcases List.mem_append.1 ht with ht | ht
   ·exact zNp vs hv pt pt 0 _ (fun j pts hj=>by rw[Nat.zero_add];exact hj) (fun i hi=>hlw i (zDh vs cs l i hi)) t ht
   ·split at ht
    ·cases ht
    ·refine zJd vs hv cs pt f _ (fun i hi=>?_) t ht
     have:∀(ptl:List (List Nat)) (q:Nat),q<2 ^ 36→(zBC ptl q).testBit i=true→q.testBit i=true:=by
      intro ptl
      induction ptl with
      | nil=>intro q _ h;exact h
      | cons pts rest ih =>
        intro q hq h;unfold zBC at h
        split at h
        ·exact h
        ·have:=zF5 pts q hq
         exact zEt pts q i hq (ih _ (by omega) h)
     have h3:=zDq vs cs l;exact hlw i (zDh vs cs l i (this pt _ (by omega) hi))
theorem zNq (vs:List MVar) (hv:zAd vs) (cs:List Nat) (pt:List (List Nat)) (h:Nat):∀t∈zH4 vs cs pt h,TellOk vs pt t:=by
 intro t ht;unfold zH4 at ht
 split at ht
 ·cases ht
 ·exact zJd vs hv cs pt _ _ (fun i hi=>((zBU _ _ _).1 hi).1) t ht
theorem zHL (vs:List MVar) (hv:zAd vs) (c:MCon) (hsc:∀v∈zBN c,0≤v∧v<(vs.length:Int)):∀(r u:List Int) (a p:Nat),(∀v∈r,0≤v∧v<(vs.length:Int))→SubP a (zAD vs)→p∈zAs vs c r u a→SubP p (zAD vs)
 | [],u,a,p,_,ha,hp=>by
   unfold zAs at hp
   split at hp
   ·rw[List.mem_singleton.1 hp];exact ha
   ·cases hp
 | v :: r,u,a,p,hr,ha,hp=>by
   unfold zAs at hp;obtain⟨x,hx,hp⟩:=List.mem_flatMap.1 hp;refine zHL vs hv c hsc r _ _ p (fun y hy=>hr y (List.mem_cons_of_mem _ hy)) (fun i hi=>?_) hp
   rw[Nat.testBit_or,Bool.or_eq_true,zCf] at hi;rcases hi with hi | hi
   ·exact ha i hi
   ·have h1:6 * v.toNat+(x - (zAK vs v.toNat).lo).toNat=i:=by simpa using hi
    obtain⟨b1,b2⟩:=(zEK _ _ _).1 hx;obtain⟨v0,v1⟩:=hr v (List.mem_cons_self ..);have h6:=hv.2 v.toNat;unfold zB8 at h6;unfold zAD ofP;rw[zAc vs hv];simp only[Bool.and_eq_true,decide_eq_true_eq];have e1:i / 6=v.toNat:=by omega
    rw[e1];refine⟨by omega,?_,trivial⟩
    unfold zB8;omega
theorem zP8 (m:Mod) (hm:zAF m=0) (j:Nat) (c:MCon) (hc:m.cons[j]? = some c) (l:Nat) (hlw:SubP l (zAD m.vars)) (hl0:l≠0) :
 (zBd (zAM m.vars c) l=0→zCy m.vars (zAM m.vars c) (zAH m.vars [] ||| zAL (zAD m.vars) l)=true) ∧
 (∀b,l.testBit b=true→(zBd (zAM m.vars c) l).testBit b=false→zBd (zAM m.vars c) l≠0→zCy m.vars (zAM m.vars c) (zAH m.vars [(⟨((b / 6:Nat):Int),4,(zAK m.vars (b / 6)).lo+((b % 6:Nat):Int)⟩:MLit)] ||| zAL (zAD m.vars) l)=true):=by
 have hv:=zAg m hm;obtain⟨k1,k2⟩:=zFd m hm j c hc;have hpw:∀q∈zAM m.vars c,SubP q (zAD m.vars):=fun q hq=>zHL m.vars hv c k1 _ _ _ q k1 (fun i hi=>by simp at hi) hq
 have h36:l<2 ^ 36:=Nat.lt_of_le_of_lt (Nat.le_of_testBit hlw) (zB6 m.vars hv)
 constructor
 ·intro h0
  rw[zGY m.vars hv,Nat.zero_or];unfold zCy;rw[Bool.or_eq_true]
  right
  rw[Bool.not_eq_true',List.any_eq_false];intro q hq hst;unfold zEc at hst;have hz:q &&& zAL (zAD m.vars) l=0:=by simpa using hst
  have hql:zAL q l=0:=(zBk _ _).2 fun i hi=>by
   cases hb:l.testBit i
   ·have:=(zB4 q (zAL (zAD m.vars) l) i).2 ⟨hi,(zBU _ _ _).2 ⟨hpw q hq i hi,hb⟩⟩
    rw[hz] at this;simp at this
   ·rfl
  have hfd:=(zD4 l (zAM m.vars c) (0,0,false)).2 (Or.inr ⟨q,hq,hql⟩);unfold zBd at h0;rw[if_pos hfd] at h0;have hst0:∀i,(zCh l (zAM m.vars c) (0,0,false)).2.1.testBit i=false:=fun i=>by
   have:=congrArg (fun z=>Nat.testBit z i) h0
   simp only[Nat.testBit_or,Nat.zero_testBit,Bool.or_eq_false_iff] at this;exact this.2
  have hsc0:(zCh l (zAM m.vars c) (0,0,false)).1=0:=by
   rcases zDO l (zAM m.vars c) (0,0,false) with h1 | ⟨h1,h2⟩
   ·exact h1
   ·apply Nat.eq_of_testBit_eq
    intro i;rw[Nat.zero_testBit];cases hb:(zCh l (zAM m.vars c) (0,0,false)).1.testBit i
    ·rfl
    ·have:=(zEe l i (zAM m.vars c) (0,0,false)).2 (Or.inr ⟨_,h1,h2,hb⟩)
     rw[hst0 i] at this;cases this
  rw[hsc0] at h0;obtain⟨i,hi⟩:=zC3 hl0;have:=congrArg (fun z=>Nat.testBit z i) h0
  simp only[Nat.testBit_or,Nat.zero_testBit,Bool.or_eq_false_iff] at this;have h3:=(zH2 i (0+1) 0 l (by omega) (by decide)).2 ⟨hi,fun j hj=>by simp at hj⟩
  rw[h3] at this;cases this.1
 ·intro b hbl hba hne
  unfold zCy;rw[Bool.or_eq_true]
  right
  rw[Bool.not_eq_true',List.any_eq_false];intro q hq hst;unfold zEc at hst;have hz:q &&& (zAH m.vars [(⟨((b / 6:Nat):Int),4,(zAK m.vars (b / 6)).lo+((b % 6:Nat):Int)⟩:MLit)] ||| zAL (zAD m.vars) l)=0:=by simpa using hst
  have hno:∀i,q.testBit i=true→(zAH m.vars [(⟨((b / 6:Nat):Int),4,(zAK m.vars (b / 6)).lo+((b % 6:Nat):Int)⟩:MLit)]).testBit i=false∧(zAL (zAD m.vars) l).testBit i=false:=fun i hi=>by
   have:=congrArg (fun z=>Nat.testBit z i) hz
   simp only[Nat.testBit_and,Nat.testBit_or,hi,Bool.true_and,Nat.zero_testBit,Bool.or_eq_false_iff] at this;exact this
  have hql:zAL q l=0:=(zBk _ _).2 fun i hi=>by
   cases hb:l.testBit i
   ·have:=(hno i hi).2
    rw[(zBU _ _ _).2 ⟨hpw q hq i hi,hb⟩] at this;cases this
   ·rfl
  have hfd:=(zD4 l (zAM m.vars c) (0,0,false)).2 (Or.inr ⟨q,hq,hql⟩);unfold zBd at hba;rw[if_pos hfd,Nat.testBit_or,Bool.or_eq_false_iff] at hba;have hbq:q.testBit b=false:=by
   cases hb:q.testBit b
   ·rfl
   ·have:=(zEe l b (zAM m.vars c) (0,0,false)).2 (Or.inr ⟨q,hq,hql,hb⟩)
    rw[hba.2] at this;cases this
  have hin:∃s∈zAM m.vars c,∃j,s.testBit j=true∧j / 6=b / 6:=by
   apply Classical.byContradiction;intro hn;have:=(zH2 b _ _ l (Nat.lt_succ_self _) (zGP (zAM m.vars c) l h36)).2 ⟨hbl,fun j hj he=>by
    rcases zDO l (zAM m.vars c) (0,0,false) with h1 | ⟨h1,_⟩
    ·rw[h1] at hj;simp at hj
    ·exact hn ⟨_,h1,j,hj,he⟩⟩
   rw[hba.1] at this;cases this
  obtain⟨s,hs,j2,hj,hj6⟩:=hin;rcases zFD m.vars hv c _ _ _ s hs j2 hj with h4 | ⟨v,hv1,h4⟩
  ·simp at h4
  ·obtain⟨u,_,_,l3,_,_,l6⟩:=zEs m.vars c _ _ _ q k1 (by simp[zBs]) hq
   have hbit:=l6 v hv1;have h3:=l3 v hv1;have h6:=hv.2 v.toNat;unfold zB8 at h6;have hw:=hpw q hq _ hbit;have h5:=(hno _ hbit).1;have hdiv:(6 * v.toNat+(zAZ u v - (zAK m.vars v.toNat).lo).toNat) / 6=b / 6:=by omega
   have hneb:6 * v.toNat+(zAZ u v - (zAK m.vars v.toNat).lo).toNat≠b:=fun he=>by
    rw[he,hbq] at hbit;cases hbit
   rw[(zMh m.vars hv b _ (hlw b hbl)).2 ⟨hw,hdiv,hneb⟩] at h5;cases h5
theorem zBa (m:Mod) (hm:zAF m=0) (cs:List Nat) (h:Nat):∀x∈zAz m.vars cs (ptsM m) h,∃(k:Nat) (c:MCon),m.cons[k]? = some c∧x.1.kind=1∧x.1.con=(k:Int)∧x.2=zAH m.vars x.1.cla∧zCy m.vars (zAM m.vars c) x.2=true:=by
 intro x hx;have hv:=zAg m hm;obtain⟨t,ht,hx⟩:=List.mem_flatMap.1 hx;obtain⟨⟨pts,hp,ha⟩,hsub,hne,hdif⟩:=zNq m.vars hv cs (ptsM m) h t ht;obtain⟨c,hc,hpc⟩:∃c,m.cons[t.1]? = some c∧zAM m.vars c=pts:=by
  unfold ptsM at hp;rw[List.getElem?_map] at hp;obtain⟨c,h1,h2⟩:=Option.map_eq_some_iff.1 hp;exact⟨c,h1,h2⟩
 have hgd:(ptsM m).getD t.1 []=pts:=by rw[List.getD_eq_getElem?_getD,hp];rfl
 have hgw:SubP (zAL (zAD m.vars) t.2.1) (zAD m.vars):=fun i hi=>((zBU _ _ _).1 hi).1
 obtain⟨s1,s2⟩:=zP8 m hm t.1 c hc t.2.1 hsub hne;rw[hpc] at s1 s2;have say:∀(any:Cla),zCy m.vars pts (zAH m.vars any ||| zAL (zAD m.vars) t.2.1)=true→zCy m.vars pts (zAH m.vars (whyP m.vars pts any (zAL (zAD m.vars) t.2.1)))=true:=fun any hs=>by
  rw[(zHg m.vars hv pts any _ hgw).1];exact zJR (fun g=>zCy m.vars pts (zAH m.vars any ||| g)) _ _ _ hs
 unfold zBD at hx;rw[hgd] at hx;by_cases h0:t.2.2=0
 ·rw[if_pos h0] at hx
  rw[List.mem_singleton.1 hx];refine⟨t.1,c,hc,rfl,rfl,rfl,?_⟩;rw[hpc];exact say [] (s1 (by rw[←ha];exact h0))
 ·rw[if_neg h0] at hx
  obtain⟨lt,hlt,rfl⟩:=List.mem_map.1 hx;unfold zBj at hlt;obtain⟨b,hb,rfl⟩:=List.mem_map.1 hlt;unfold zEQ at hb;obtain⟨b1,b2⟩:=(zBU _ _ _).1 (List.mem_filter.1 hb).2;refine⟨t.1,c,hc,rfl,rfl,rfl,?_⟩;rw[hpc];exact say _ (s2 b b1 (by rw[←ha];exact b2) (by rw[←ha];exact h0))
end Go.Proofs.YtdjbejlbmaiocagGreatDoor
