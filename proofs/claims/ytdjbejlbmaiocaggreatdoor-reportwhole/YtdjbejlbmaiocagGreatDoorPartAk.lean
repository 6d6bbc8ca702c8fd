/- What the proof leans on, part 11. -/
import Derived.Test.YtdjbejlbmaiocagGreatDoorPartAj
namespace Go.Proofs.YtdjbejlbmaiocagGreatDoor
def Sol (m:Mod) (x:List Int):Prop:=zDV m.vars x∧∀c∈m.cons,zAo c x=true
def zPs (m:Mod) (G:List Int→Prop) (S:Sk):Prop:=∀x,Sol m x→G x→∀c∈S.cs,Hits m.vars x c
theorem zNU (vs:List MVar) (hv:zAa vs) (i:Nat):(zAF vs []).testBit i=false:=by
 unfold zAF ofP
 rw[zAY vs hv]
 simp[oneB]
theorem zGF (vs:List MVar) (cs:List Nat) (pt:List (List Nat)) (c:Cla) (h:zBC vs cs pt c=true):zBC vs cs pt (zCH vs cs pt c)=true:=zEr _ _ c h
theorem zOJ (m:Mod) (hm:zAE m=0) (G:List Int→Prop) (S:Sk) (hs:zPs m G S) (hz:zAl m.vars (ptsM m) S=0) :
 zPs m G (zBL m.vars (ptsM m) S).2∧((zBL m.vars (ptsM m) S).1=2→∀x,Sol m x→¬G x):=by
 have hn:zBC m.vars S.cs (ptsM m) (zCH m.vars S.cs (ptsM m) S.path)=true:=zGF _ _ _ _ (by unfold zBC;unfold zAl at hz;rw[hz];rfl)
 have hl:∀x,Sol m x→G x→Hits m.vars x (zAF m.vars (zCH m.vars S.cs (ptsM m) S.path)):=fun x hx hg=>zJ4 m hm x hx.1 hx.2 S.cs (hs x hx hg) _ hn
 unfold zBL
 split
 ·exact⟨hs,fun h=>by cases h⟩
 ·split
  ·exact⟨hs,fun h=>by cases h⟩
  ·split
   ·rename_i hc
    refine⟨hs,fun _ x hx hg=>?_⟩
    obtain⟨v,_,hb⟩:=hl x hx hg
    rw[List.length_eq_zero_iff.1 hc,zNU m.vars (zAd m hm)] at hb
    cases hb
   ·refine⟨fun x hx hg c hc=>?_,fun h=>by cases h⟩
    rcases List.mem_append.1 hc with hc | hc
    ·exact hs x hx hg c hc
    ·rw[List.mem_singleton.1 hc];exact hl x hx hg
theorem zHo (vs:List MVar) (cs:List Nat) (pt:List (List Nat)):∀(f l:Nat),l<f→l<2 ^ 36→zA3 pt (zAc vs cs (zBP vs cs pt f l))=zBP vs cs pt f l
 | 0,l,hf,_=>by omega
 | f+1,l,hf,h=>by
   unfold zBP
   split
   ·assumption
   ·have:=zEq vs cs pt l h
    exact zHo vs cs pt f _ (by omega) (by omega)
theorem zI4 (vs:List MVar) (hv:zAa vs) (cs:List Nat) (pt:List (List Nat)) (h:Nat) (hn:zBW vs cs pt h≠0):zA3 pt (zAc vs cs (zBW vs cs pt h))=zBW vs cs pt h:=by
 unfold zBW at hn ⊢
 split
 ·rename_i hc;rw[if_pos hc] at hn;exact absurd rfl hn
 ·exact zHo vs cs pt _ _ (Nat.lt_succ_self _) (zCO 36 _ _ (zBw vs hv))
theorem zKj:∀(pt:List (List Nat)) (l:Nat),l<2 ^ 36→l≠0→zA3 pt l=l→∀pts∈pt,zBV pts l=l
 | [],l,_,_,_=>fun pts hp=>by cases hp
 | pts :: r,l,h,hn,he=>by
   unfold zA3 at he
   rw[if_neg hn] at he
   have h1:=zFj pts l h
   have h2:=zF9 r (zBV pts l) (by omega)
   have h3:zBV pts l=l:=by omega
   rw[h3] at he
   intro q hq
   rcases List.mem_cons.1 hq with rfl | hq
   ·exact h3
   ·exact zKj r l h hn he q hq
theorem zHp:∀(cs:List Nat) (l:Nat),zAj cs l=some l→∀c∈cs,l &&& c≠0
 | [],l,_=>fun c hc=>by cases hc
 | c :: r,l,h=>by
   unfold zAj at h
   split at h
   ·cases h
   ·rename_i h0
    split at h
    ·have h1:=zCc r _ l h
     have h2:=zHa l (zAK (zAf (l &&& c)) (l &&& c))
     have h3:zAK l (zAK (zAf (l &&& c)) (l &&& c))=l:=by omega
     rw[h3] at h
     intro q hq
     rcases List.mem_cons.1 hq with rfl | hq
     ·exact h0
     ·exact zHp r l h q hq
    ·intro q hq
     rcases List.mem_cons.1 hq with rfl | hq
     ·exact h0
     ·exact zHp r l h q hq
theorem zPt (vs:List MVar) (cs:List Nat) (l:Nat) (hn:l≠0) (h:zAc vs cs l=l):zCA vs.length l=false∧∀c∈cs,l &&& c≠0:=by
 unfold zAc at h
 split at h
 ·exact absurd h.symm hn
 ·rename_i hk
  refine⟨by simpa using hk,?_⟩
  rw[zIr] at h
  cases hr:zAj cs l with
  | none=>rw[hr] at h;exact absurd h.symm hn
  | some l' =>
    rw[hr] at h
    simp only at h
    split at h
    ·rename_i he
     rw[he] at hr
     exact zHp cs l hr
    ·have h1:=zCc cs l l' hr
     have h2:=zHc cs (l'+1) l'
     have h3:l'≠l:=by assumption
     exact absurd (by omega:l'=l) h3
theorem zHq (n p:Nat) (h:zCA n p=false) (v:Nat) (hv:v<n):∃k,k<6∧p.testBit (6 * v+k)=true:=by
 unfold zCA at h
 rw[List.any_eq_false] at h
 have h1:=h v (List.mem_range.2 hv)
 have h2:p / 2 ^ (v * 6) &&& 63≠0:=by simpa using h1
 apply Classical.byContradiction
 intro hn
 apply h2
 apply Nat.eq_of_testBit_eq
 intro i
 rw[Nat.testBit_and,Nat.zero_testBit,zGg,Nat.testBit_div_two_pow]
 by_cases hi:i<6
 ·cases hb:p.testBit (i+v * 6)
  ·rfl
  ·exact absurd ⟨i,hi,by rw[show 6 * v+i=i+v * 6 by omega];exact hb⟩ hn
 ·simp[hi]
theorem zOK (vs:List MVar) (hv:zAa vs) (l:Nat) (hw:∀i,l.testBit i=true→(zAC vs).testBit i=true) (hk:zCA vs.length l=false) (hf:zBX (zAe vs l)<0) :
 zDV vs (zAe vs l).flatten∧zBv vs (zAe vs l).flatten l∧∀i,l.testBit i=true→∃v,v<vs.length∧i=posV vs (zAe vs l).flatten v:=by
 have hlen:=zFG vs l
 have hone:∀v,v<vs.length→∃x,(zAe vs l)[v]? = some [x]∧∃i,i<36∧l.testBit i=true∧i / 6=v∧x=(zAL vs v).lo+((i % 6:Nat):Int):=fun v hvl=>by
  obtain⟨k,hk6,hb⟩:=zHq vs.length l hk v hvl
  have hi36:6 * v+k<36:=by have:=hv.1;omega
  have hx:(zAL vs v).lo+((k:Nat):Int)∈(zAe vs l).getD v []:=(zFH vs l v hvl _).2 ⟨6 * v+k,hi36,hb,by omega,by congr 2;omega⟩
  have hg:(zAe vs l)[v]? = some ((zAe vs l).getD v []):=by rw[List.getD_eq_getElem?_getD,List.getElem?_eq_getElem (by omega)];rfl
  have h1:=zMF _ hf _ (List.mem_of_getElem? hg)
  match hr:(zAe vs l).getD v [] with
  | []=>rw[hr] at hx;cases hx
  | [x] =>
    rw[hr] at hg hx
    refine⟨x,hg,6 * v+k,hi36,hb,by omega,?_⟩
    have h2:(zAL vs v).lo+((k:Nat):Int)=x:=by simpa using hx
    rw[←h2]
    congr 2;omega
  | x :: y :: t=>rw[hr] at h1;simp at h1
 have hflat:∀(s:Sto),(∀v:Nat,v<s.length→∃x:Int,s[v]? = some [x])→s.flatten.length=s.length∧∀(v:Nat) (x:Int),s[v]? = some [x]→s.flatten[v]? = some x:=by
  intro s
  induction s with
  | nil=>intro _;exact⟨rfl,fun v x h=>by simp at h⟩
  | cons a r ih =>
    intro h
    obtain⟨x,hx⟩:=h 0 (by simp)
    have ha:a=[x]:=by simpa using hx
    subst ha
    obtain⟨i1,i2⟩:=ih fun v hv=>by
     obtain⟨y,hy⟩:=h (v+1) (by simp;omega)
     exact⟨y,by simpa using hy⟩
    refine⟨by simp[i1],fun v y hy=>?_⟩
    cases v with
    | zero=>simpa using hy
    | succ v=>simpa using i2 v y (by simpa using hy)
 obtain⟨f1,f2⟩:=hflat (zAe vs l) fun v hvl=>(hone v (by omega)).imp fun x hx=>hx.1
 have hval:∀v,v<vs.length→∃i,i<36∧l.testBit i=true∧i / 6=v∧zAO (zAe vs l).flatten (v:Int)=(zAL vs v).lo+((i % 6:Nat):Int):=fun v hvl=>by
  obtain⟨x,h1,i,h2,h3,h4,h5⟩:=hone v hvl
  refine⟨i,h2,h3,h4,?_⟩
  unfold zAO
  rw[Int.toNat_natCast,List.getD_eq_getElem?_getD,f2 v x h1]
  exact h5
 have hsz:∀i,l.testBit i=true→i / 6<vs.length∧i % 6<zBz (zAL vs (i / 6)):=fun i hi=>by
  have:=hw i hi
  unfold zAC ofP at this
  rw[zAY vs hv] at this
  simp only[Bool.and_eq_true,decide_eq_true_eq] at this
  exact⟨this.1,this.2.1⟩
 have hmb:zDV vs (zAe vs l).flatten:=⟨by rw[f1,hlen],fun v hvl=>by
  obtain⟨i,_,h2,h3,h4⟩:=hval v hvl
  have:=(hsz i h2).2
  rw[h3] at this
  unfold zBz at this
  rw[h4]
  omega⟩
 have hpos:∀v,v<vs.length→∃i,l.testBit i=true∧i=posV vs (zAe vs l).flatten v:=fun v hvl=>by
  obtain⟨i,_,h2,h3,h4⟩:=hval v hvl
  refine⟨i,h2,?_⟩
  unfold posV
  rw[h4]
  omega
 refine⟨hmb,fun v hvl=>?_,fun i hi=>?_⟩
 ·obtain⟨i,h1,h2⟩:=hpos v hvl
  rw[←h2];exact h1
 ·refine⟨i / 6,(hsz i hi).1,?_⟩
  obtain⟨x,h1,j,j1,j2,j3,j4⟩:=hone (i / 6) (hsz i hi).1
  have hx:(zAL vs (i / 6)).lo+((i % 6:Nat):Int)∈(zAe vs l).getD (i / 6) []:=(zFH vs l _ (hsz i hi).1 _).2 ⟨i,by have:=(hsz i hi).1;have:=hv.1;omega,hi,rfl,rfl⟩
  rw[List.getD_eq_getElem?_getD,h1] at hx
  have hxx:(zAL vs (i / 6)).lo+((i % 6:Nat):Int)=x:=by simpa using hx
  obtain⟨k,_,k2⟩:=hpos (i / 6) (hsz i hi).1
  unfold posV
  unfold zAO
  rw[Int.toNat_natCast,List.getD_eq_getElem?_getD,f2 _ x h1]
  simp only[Option.getD_some]
  omega
theorem zCe {n:Nat} (h:n≠0):∃i,n.testBit i=true:=by
 apply Classical.byContradiction
 intro hn
 apply h
 apply Nat.eq_of_testBit_eq
 intro i
 rw[Nat.zero_testBit]
 cases hb:n.testBit i
 ·rfl
 ·exact absurd ⟨i,hb⟩ hn
theorem zMH (m:Mod) (hm:zAE m=0) (S:Sk) (hl:zAl m.vars (ptsM m) S≠0) (hf:zBX (zAe m.vars (zAl m.vars (ptsM m) S))<0) :
 Sol m (zAe m.vars (zAl m.vars (ptsM m) S)).flatten∧∀c∈S.cs,Hits m.vars (zAe m.vars (zAl m.vars (ptsM m) S)).flatten c:=by
 have hv:=zAd m hm
 have hfix:=zI4 m.vars hv S.cs (ptsM m) (zAF m.vars S.path) hl
 have h36:=zPp m.vars hv S.cs (ptsM m) (zAF m.vars S.path)
 have hsub:∀i,(zAl m.vars (ptsM m) S).testBit i=true→(zAC m.vars).testBit i=true:=fun i hi=>(zD9 m.vars hv _ _ _ i hi).1
 change zA3 (ptsM m) (zAc m.vars S.cs (zAl m.vars (ptsM m) S))=zAl m.vars (ptsM m) S at hfix
 change zAl m.vars (ptsM m) S<2 ^ 36 at h36
 generalize zAl m.vars (ptsM m) S=l at *
 have h1:=zDF m.vars S.cs l
 have h2:=zF9 (ptsM m) (zAc m.vars S.cs l) (by omega)
 have hu:zAc m.vars S.cs l=l:=by omega
 rw[hu] at hfix
 obtain⟨hk,hcl⟩:=zPt m.vars S.cs l hl hu
 obtain⟨b1,b2,b3⟩:=zOK m.vars hv l hsub hk hf
 generalize (zAe m.vars l).flatten=x at *
 refine⟨⟨b1,fun c hc=>?_⟩,fun c hc=>?_⟩
 ·have hp:=zKj (ptsM m) l h36 hl hfix (zAM m.vars c) (List.mem_map.2 ⟨c,hc,rfl⟩)
  obtain⟨j,hj,he⟩:=List.getElem_of_mem hc
  obtain⟨k1,k2⟩:=zFE m hm j c (by rw[List.getElem?_eq_getElem hj,he])
  have hfd:(zCQ l (zAM m.vars c) (0,0,false)).2.2=true:=by
   cases hq:(zCQ l (zAM m.vars c) (0,0,false)).2.2
   ·unfold zBV at hp
    rw[hq] at hp
    exact absurd hp.symm hl
   ·rfl
  rcases (zDX l _ _).1 hfd with h | ⟨q,hq,hz⟩
  ·cases h
  ·obtain⟨u,l1,l2,l3,_,_,l6⟩:=zEP m.vars c _ _ _ q k1 (by simp[zBm]) hq
   rw[←zFf c u x (fun v hvs=>?_) k2]
   ·exact l2
   ·have hb:=(zBd _ _).1 hz _ (l6 v hvs)
    obtain⟨v',hv',hpos⟩:=b3 _ hb
    have hp1:=zDW m.vars hv x b1 v' hv'
    have h3:=l3 v hvs
    have h4:=k1 v hvs
    have h6:=hv.2 v.toNat
    unfold zBz at h6
    rw[←hpos] at hp1
    have hvv:v'=v.toNat:=by omega
    subst hvv
    rw[Int.toNat_of_nonneg h4.1] at hp1
    omega
 ·have hne:=hcl c hc
  obtain⟨i,hi⟩:=zCe hne
  rw[Nat.testBit_and,Bool.and_eq_true] at hi
  obtain⟨v,hvl,hpos⟩:=b3 i hi.1
  exact⟨v,hvl,by rw[←hpos];exact hi.2⟩
theorem zDM (m:Mod) (hm:zAE m=0) (G:List Int→Prop):∀(N:Nat) (S:Sk),zCj m.vars S<N→zPs m G S →
 zPs m G (zAV m.vars (ptsM m) S).2.2∧((zAV m.vars (ptsM m) S).1=1→Sol m (zAV m.vars (ptsM m) S).2.1∧(∀c∈(zAV m.vars (ptsM m) S).2.2.cs,Hits m.vars (zAV m.vars (ptsM m) S).2.1 c)∧∀c∈S.cs,c∈(zAV m.vars (ptsM m) S).2.2.cs) ∧
  ((zAV m.vars (ptsM m) S).1=2→∀x,Sol m x→¬G x)∧((zAV m.vars (ptsM m) S).1=1∨(zAV m.vars (ptsM m) S).1=2∨(zAV m.vars (ptsM m) S).1=3)∧((zAV m.vars (ptsM m) S).1≠1→(zAV m.vars (ptsM m) S).2.1=[])
 | 0,S,h,_=>by omega
 | N+1,S,h,hs=>by
   rw[zGE m.vars (zAd m hm)]
   split
   ·rename_i hz
    obtain⟨t1,t2⟩:=zOJ m hm G S hs hz
    split
    ·rename_i h0
     obtain⟨n1,n2,n3,n4⟩:=zDM m hm G N _ (by have:=zEA m.vars (ptsM m) S h0;omega) t1
     refine⟨n1,fun hv=>?_,n3,n4⟩
     obtain⟨k1,k2,k3⟩:=n2 hv
     refine⟨k1,k2,fun c hc=>k3 c ?_⟩
     unfold zBL at h0 ⊢
     split
     ·exact hc
     ·split
      ·exact hc
      ·split
       ·exact hc
       ·exact List.mem_append_left _ hc
    ·rename_i h0
     have h3:(zBL m.vars (ptsM m) S).1=0∨(zBL m.vars (ptsM m) S).1=2∨(zBL m.vars (ptsM m) S).1=3:=by
      unfold zBL
      split
      ·exact Or.inr (Or.inr rfl)
      ·split
       ·exact Or.inr (Or.inr rfl)
       ·split
        ·exact Or.inr (Or.inl rfl)
        ·exact Or.inl rfl
     refine⟨t1,fun hv=>?_,t2,?_,fun _=>rfl⟩
     ·simp only at hv
      omega
     ·simp only
      omega
   ·rename_i hz
    split
    ·rename_i hf
     obtain⟨f1,f2⟩:=zMH m hm S hz hf
     exact⟨hs,fun _=>⟨f1,f2,fun c hc=>hc⟩,(fun h=>by cases h),Or.inl rfl,(fun h=>absurd rfl h)⟩
    ·rename_i hf
     exact zDM m hm G N _ (by have:=zFI m.vars (zAd m hm) (ptsM m) S hf;omega) hs
def zDC (A:List Nat) (r:Nat):Prop:=∀c∈A,r &&& c≠0∧(zAK (r &&& c) (zAf (r &&& c))=0→∀i,r.testBit i=true→(zAf (r &&& c)).testBit i=true→c.testBit i=true)
def SubP (a b:Nat):Prop:=∀i,a.testBit i=true→b.testBit i=true
theorem zBr (a b i:Nat):(a &&& b).testBit i=true↔a.testBit i=true∧b.testBit i=true:=by rw[Nat.testBit_and,Bool.and_eq_true]
theorem zBK (a b i:Nat):(zAK a b).testBit i=true↔a.testBit i=true∧b.testBit i=false:=by rw[zAP,Bool.and_eq_true,Bool.not_eq_true']
theorem zEv (p i:Nat) (h:zAK p (zAf p)=0) (hi:p.testBit i=true):∀j,(zAf p).testBit j=true↔j / 6=i / 6:=by
 intro j
 have h1:=(zBd _ _).1 h i hi
 rw[zBB,decide_eq_true_eq] at h1
 rw[zBB,decide_eq_true_eq,h1]
theorem zEw (r:Nat) (hr:r<2 ^ 36):∀(cs:List Nat) (l:Nat),zDC cs r→SubP r l→∃l',zAj cs l=some l'∧SubP r l'
 | [],l,_,hs=>⟨l,rfl,hs⟩
 | c :: t,l,hc,hs=>by
   obtain⟨h1,h2⟩:=hc c (List.mem_cons_self ..)
   obtain⟨i,hi⟩:=zCe h1
   have hi2:=(zBr _ _ _).1 hi
   have hne:l &&& c≠0:=fun h=>by
    have:=(zBr l c i).2 ⟨hs i hi2.1,hi2.2⟩
    rw[h] at this
    simp at this
   unfold zAj
   rw[if_neg hne]
   split
   ·rename_i hf
    refine zEw r hr t _ (fun d hd=>hc d (List.mem_cons_of_mem _ hd)) fun j hj=>?_
    have hli:(l &&& c).testBit i=true:=(zBr _ _ _).2 ⟨hs i hi2.1,hi2.2⟩
    have hfl:=zEv _ i hf hli
    have hrf:zAK (r &&& c) (zAf (r &&& c))=0:=by
     refine (zBd _ _).2 fun k hk=>?_
     have hk2:=(zBr _ _ _).1 hk
     have hkl:(l &&& c).testBit k=true:=(zBr _ _ _).2 ⟨hs k hk2.1,hk2.2⟩
     have hk3:=(hfl k).1 ((zBd _ _).1 hf k hkl)
     have hct:(r &&& c).testBit (Lib.ctz 64 (r &&& c))=true:=by
      have hle:r &&& c≤r:=Nat.and_le_left
      exact (zDn _ h1 (by omega) _).2.1 rfl
     have hc2:=(zBr _ _ _).1 hct
     have hcl:(l &&& c).testBit (Lib.ctz 64 (r &&& c))=true:=(zBr _ _ _).2 ⟨hs _ hc2.1,hc2.2⟩
     have hc3:=(hfl _).1 ((zBd _ _).1 hf _ hcl)
     rw[zBB,decide_eq_true_eq]
     omega
    rw[zBK]
    refine⟨hs j hj,?_⟩
    cases hb:(zAK (zAf (l &&& c)) (l &&& c)).testBit j
    ·rfl
    ·exfalso
     obtain⟨b1,b2⟩:=(zBK _ _ _).1 hb
     have hj6:=(hfl j).1 b1
     have hrj:=zEv _ i hrf hi
     have:=h2 hrf j hj ((hrj j).2 hj6)
     rw[(zBr _ _ _).2 ⟨hs j hj,this⟩] at b2
     cases b2
   ·exact zEw r hr t l (fun d hd=>hc d (List.mem_cons_of_mem _ hd)) hs
theorem zGG (r:Nat) (hr:r<2 ^ 36) (cs:List Nat) (hc:zDC cs r):∀(f l:Nat),SubP r l→SubP r (zBH cs f l)
 | 0,l,hs=>hs
 | f+1,l,hs=>by
   obtain⟨l',h1,h2⟩:=zEw r hr cs l hc hs
   unfold zBH
   rw[h1]
   simp only
   split
   ·exact hs
   ·exact zGG r hr cs hc f l' h2
theorem zRi (n a b:Nat) (h:SubP a b) (ha:zCA n a=false):zCA n b=false:=by
 refine zHK n b fun v hv=>?_
 obtain⟨k,h1,h2⟩:=zHq n a ha v hv
 exact⟨k,h1,h _ h2⟩
theorem zG3 (vs:List MVar) (r:Nat) (hr:r<2 ^ 36) (hl:zCA vs.length r=false) (cs:List Nat) (hc:zDC cs r) (l:Nat) (hs:SubP r l):SubP r (zAc vs cs l):=by
 unfold zAc
 rw[if_neg (by rw[zRi _ _ _ hs hl];decide)]
 exact zGG r hr cs hc _ l hs
theorem zGh (n:Nat):∀(cs:List Nat) (l l':Nat),l<2 ^ 36→zAj cs l=some l'→zCA n l=false→zCA n l'=false
 | [],l,l',_,h,hl=>by simp[zAj] at h;rw[←h];exact hl
 | c :: t,l,l',h36,h,hl=>by
   unfold zAj at h
   split at h
   ·cases h
   ·rename_i h0
    split at h
    ·rename_i hf
     have h36':=zHa l (zAK (zAf (l &&& c)) (l &&& c))
     refine zGh n t _ l' (by omega) h (zHK n _ fun v hv=>?_)
     obtain⟨k,k1,k2⟩:=zHq n l hl v hv
     obtain⟨i,hi⟩:=zCe h0
     have hfl:=zEv _ i hf hi
     by_cases hv6:v=i / 6
     ·subst hv6
      refine⟨i % 6,by omega,?_⟩
      rw[show 6 * (i / 6)+i % 6=i by omega,zBK]
      refine⟨((zBr _ _ _).1 hi).1,?_⟩
      rw[zAP,hi];simp
     ·refine⟨k,k1,?_⟩
      rw[zBK]
      refine⟨k2,?_⟩
      cases hb:(zAK (zAf (l &&& c)) (l &&& c)).testBit (6 * v+k)
      ·rfl
      ·have:=(hfl _).1 ((zBK _ _ _).1 hb).1
       omega
    ·exact zGh n t l l' h36 h hl
theorem zHr (n:Nat) (cs:List Nat):∀(f l:Nat),l<2 ^ 36→zCA n l=false→zBH cs f l≠0→zCA n (zBH cs f l)=false
 | 0,l,_,hl,_=>hl
 | f+1,l,h,hl,hn=>by
   unfold zBH at hn ⊢
   cases hr:zAj cs l with
   | none=>rw[hr] at hn;exact absurd rfl hn
   | some l' =>
     rw[hr] at hn
     simp only at hn ⊢
     by_cases he:l'=l
     ·rw[if_pos he];exact hl
     ·rw[if_neg he] at hn ⊢
      have:=zCc cs l l' hr
      exact zHr n cs f l' (by omega) (zGh n cs l l' h hr hl) hn
theorem zI5 (cs:List Nat):∀(f l:Nat),l<f→zBH cs f l≠0→zAj cs (zBH cs f l)=some (zBH cs f l)
 | 0,l,h,_=>by omega
 | f+1,l,h,hn=>by
   unfold zBH at hn ⊢
   cases hr:zAj cs l with
   | none=>rw[hr] at hn;exact absurd rfl hn
   | some l' =>
     rw[hr] at hn
     simp only at hn ⊢
     by_cases he:l'=l
     ·rw[if_pos he];rw[he] at hr;exact hr
     ·rw[if_neg he] at hn ⊢
      have:=zCc cs l l' hr
      exact zI5 cs f l' (by omega) hn
theorem zGi:∀(cs:List Nat) (l:Nat),zAj cs l=some l→zDC cs l
 | [],l,_=>fun c hc=>by cases hc
 | c :: t,l,h=>by
   unfold zAj at h
   split at h
   ·cases h
   ·rename_i h0
    split at h
    ·rename_i hf
     have h1:=zCc t _ l h
     have h2:=zHa l (zAK (zAf (l &&& c)) (l &&& c))
     have h3:zAK l (zAK (zAf (l &&& c)) (l &&& c))=l:=by omega
     rw[h3] at h
     intro d hd
     rcases List.mem_cons.1 hd with rfl | hd
     ·refine⟨h0,fun _ i hi hfi=>?_⟩
      have h4:=congrArg (fun z=>Nat.testBit z i) h3
      simp only[zAP,hi,hfi] at h4
      have h5:(l &&& d).testBit i=true:=by
       cases hb:(l &&& d).testBit i
       ·rw[hb] at h4;simp at h4
       ·rfl
      exact ((zBr _ _ _).1 h5).2
     ·exact zGi t l h d hd
    ·rename_i hf
     intro d hd
     rcases List.mem_cons.1 hd with rfl | hd
     ·exact⟨h0,fun h5=>absurd h5 hf⟩
     ·exact zGi t l h d hd
theorem zI6 (vs:List MVar) (A:List Nat) (l:Nat) (h36:l<2 ^ 36) (hn:zAc vs A l≠0):zCA vs.length (zAc vs A l)=false∧zDC A (zAc vs A l)∧SubP (zAc vs A l) l:=by
 refine⟨?_,?_,fun i hi=>zC8 vs A l i hi⟩
 ·unfold zAc at hn ⊢
  split
  ·rename_i hc;rw[if_pos hc] at hn;exact absurd rfl hn
  ·rename_i hc
   rw[if_neg hc] at hn
   exact zHr _ A _ l h36 (by simpa using hc) hn
 ·unfold zAc at hn ⊢
  split
  ·rename_i hc;rw[if_pos hc] at hn;exact absurd rfl hn
  ·rename_i hc
   rw[if_neg hc] at hn
   exact zGi A _ (zI5 A _ l (Nat.lt_succ_self _) hn)
theorem zHs {A B:List Nat} {r:Nat} (h:zDC B r) (hs:∀c∈A,c∈B):zDC A r:=fun c hc=>h c (hs c hc)
theorem zPu (vs:List MVar) (hv:zAa vs) (g:Nat) (hg:SubP g (zAC vs)) (i:Nat):(zAF vs (zBc vs g)).testBit i=g.testBit i:=by
 unfold zAF ofP
 rw[zAY vs hv]
 rw[Bool.eq_iff_iff]
 simp only[Bool.and_eq_true,decide_eq_true_eq]
 constructor
 ·rintro ⟨h1,h2,h3⟩
  unfold oneB at h3
  obtain⟨l,hl,hc⟩:=List.any_eq_true.1 h3
  unfold zBc at hl
  obtain⟨j,hj,rfl⟩:=List.mem_map.1 hl
  unfold zDw at hj
  have hj2:=(List.mem_filter.1 hj).2
  simp only[Bool.and_eq_true,decide_eq_true_eq] at hc
  obtain⟨c1,c2⟩:=hc
  have c1':j / 6=i / 6:=by omega
  rw[c1'] at c2
  unfold litV at c2
  simp at c2
  have:j=i:=by omega
  rw[←this];exact hj2
 ·intro h
  have hw:=hg i h
  unfold zAC ofP at hw
  rw[zAY vs hv] at hw
  simp only[Bool.and_eq_true,decide_eq_true_eq] at hw
  refine⟨hw.1,hw.2.1,?_⟩
  unfold oneB
  refine List.any_eq_true.2 ⟨⟨((i / 6:Nat):Int),3,(zAL vs (i / 6)).lo+((i % 6:Nat):Int)⟩,?_,?_⟩
  ·unfold zBc
   refine List.mem_map.2 ⟨i,(zJ3 g i (by have:=hv.1;omega)).2 h,rfl⟩
  ·simp only[decide_true,Bool.true_and]
   unfold litV
   simp
theorem zMI (vs:List MVar) (hv:zAa vs) (b i:Nat) (hb:(zAC vs).testBit b=true):(zAF vs [(⟨((b / 6:Nat):Int),4,(zAL vs (b / 6)).lo+((b % 6:Nat):Int)⟩:MLit)]).testBit i=true↔(zAC vs).testBit i=true∧i / 6=b / 6∧i≠b:=by
 unfold zAF zAC ofP at *
 rw[zAY vs hv,zAY vs hv]
 simp only[Bool.and_eq_true,decide_eq_true_eq]
 unfold oneB
 simp only[List.any_cons,List.any_nil,Bool.or_false,Bool.and_eq_true,decide_eq_true_eq]
 constructor
 ·rintro ⟨h1,h2,h3,h4⟩
  have h5:i / 6=b / 6:=by omega
  refine⟨⟨h1,h2,trivial⟩,h5,fun he=>?_⟩
  subst he
  unfold litV at h4
  simp at h4
 ·rintro ⟨⟨h1,h2,_⟩,h3,h4⟩
  refine⟨h1,h2,by omega,?_⟩
  unfold litV
  rw[h3]
  simp
  omega
theorem zGH (vs:List MVar) (hv:zAa vs):zAF vs []=0:=by
 apply Nat.eq_of_testBit_eq
 intro i
 rw[zNU vs hv,Nat.zero_testBit]
def zKk (vs:List MVar) (pts:List Nat) (any:Cla) (gone:Nat):Nat:=zCY (fun g=>zCa vs pts (zAF vs any ||| g)) (gone+1) gone gone
theorem zHM (vs:List MVar) (hv:zAa vs) (pts:List Nat) (any:Cla) (gone:Nat) (hg:SubP gone (zAC vs)):zAF vs (whyP vs pts any gone)=zAF vs any ||| zKk vs pts any gone∧SubP (zKk vs pts any gone) gone:=by
 have hs:SubP (zKk vs pts any gone) gone:=fun i hi=>zHf _ _ _ _ i hi
 refine⟨?_,hs⟩
 apply Nat.eq_of_testBit_eq
 intro i
 unfold whyP
 rw[zEu vs hv,Nat.testBit_or]
 congr 1
 exact zPu vs hv _ (fun j hj=>hg j (hs j hj)) i
theorem zRj (vs:List MVar) (hv:zAa vs) (pt:List (List Nat)) (A:List Nat) (r:Nat) (hA:zDC A r) (k:Nat) (pts:List Nat) (hk:pt.getD k []=pts) (l:Nat) (hlw:SubP l (zAC vs)) (hrl:SubP r l)
 (hr:∀x∈zA4 vs pt (k,l,zBV pts l),x.2∈A):SubP r (zBV pts l):=by
 have hgw:SubP (zAK (zAC vs) l) (zAC vs):=fun i hi=>((zBK _ _ _).1 hi).1
 by_cases h0:zBV pts l=0
 ·exfalso
  have hm:=hr (zCd vs k (whyP vs pts [] (zAK (zAC vs) l))) (by unfold zA4;simp only;rw[if_pos h0,hk];exact List.mem_singleton.2 rfl)
  obtain⟨h1,_⟩:=hA _ hm
  obtain⟨i,hi⟩:=zCe h1
  obtain⟨i1,i2⟩:=(zBr _ _ _).1 hi
  obtain⟨w1,w2⟩:=zHM vs hv pts [] (zAK (zAC vs) l) hgw
  have i3:(zAF vs (whyP vs pts [] (zAK (zAC vs) l))).testBit i=true:=i2
  rw[w1,zGH vs hv,Nat.zero_or] at i3
  have:=((zBK _ _ _).1 (w2 i i3)).2
  rw[hrl i i1] at this
  cases this
 ·intro b hb
  cases hab:(zBV pts l).testBit b
  ·exfalso
   have hbl:=hrl b hb
   have hbw:=hlw b hbl
   have hb36:b<36:=by
    have:=hbw
    unfold zAC ofP at this
    rw[zAY vs hv] at this
    simp only[Bool.and_eq_true,decide_eq_true_eq] at this
    have:=hv.1
    omega
   have hlit:(⟨((b / 6:Nat):Int),3,(zAL vs (b / 6)).lo+((b % 6:Nat):Int)⟩:MLit)∈zBc vs (zAK l (zBV pts l)):=by
    unfold zBc
    exact List.mem_map.2 ⟨b,(zJ3 _ b hb36).2 ((zBK _ _ _).2 ⟨hbl,hab⟩),rfl⟩
   have hm:=hr (zCd vs k (whyP vs pts [⟨((b / 6:Nat):Int),4,(zAL vs (b / 6)).lo+((b % 6:Nat):Int)⟩] (zAK (zAC vs) l))) (by
    unfold zA4
    simp only
    rw[if_neg h0,hk]
    exact List.mem_map.2 ⟨_,hlit,rfl⟩)
   obtain⟨w1,w2⟩:=zHM vs hv pts [⟨((b / 6:Nat):Int),4,(zAL vs (b / 6)).lo+((b % 6:Nat):Int)⟩] (zAK (zAC vs) l) hgw
   obtain⟨h1,h2⟩:=hA _ hm
   change r &&& zAF vs (whyP vs pts [⟨((b / 6:Nat):Int),4,(zAL vs (b / 6)).lo+((b % 6:Nat):Int)⟩] (zAK (zAC vs) l))≠0 at h1
   change zAK (r &&& zAF vs (whyP vs pts [⟨((b / 6:Nat):Int),4,(zAL vs (b / 6)).lo+((b % 6:Nat):Int)⟩] (zAK (zAC vs) l))) (zAf (r &&& zAF vs (whyP vs pts [⟨((b / 6:Nat):Int),4,(zAL vs (b / 6)).lo+((b % 6:Nat):Int)⟩] (zAK (zAC vs) l))))=0→∀i,r.testBit i=true→(zAf (r &&& zAF vs (whyP vs pts [⟨((b / 6:Nat):Int),4,(zAL vs (b / 6)).lo+((b % 6:Nat):Int)⟩] (zAK (zAC vs) l)))).testBit i=true→(zAF vs (whyP vs pts [⟨((b / 6:Nat):Int),4,(zAL vs (b / 6)).lo+((b % 6:Nat):Int)⟩] (zAK (zAC vs) l))).testBit i=true at h2
   rw[w1] at h1 h2
   generalize zKk vs pts [⟨((b / 6:Nat):Int),4,(zAL vs (b / 6)).lo+((b % 6:Nat):Int)⟩] (zAK (zAC vs) l)=g at *
   have hin:∀i,(r &&& (zAF vs [⟨((b / 6:Nat):Int),4,(zAL vs (b / 6)).lo+((b % 6:Nat):Int)⟩] ||| g)).testBit i=true→i / 6=b / 6∧i≠b:=fun i hi=>by
    obtain⟨i1,i2⟩:=(zBr _ _ _).1 hi
    rw[Nat.testBit_or,Bool.or_eq_true] at i2
    rcases i2 with i2 | i2
    ·exact ((zMI vs hv b i hbw).1 i2).2
    ·have:=((zBK _ _ _).1 (w2 i i2)).2
     rw[hrl i i1] at this
     cases this
   obtain⟨i,hi⟩:=zCe h1
   have hct:(r &&& (zAF vs [⟨((b / 6:Nat):Int),4,(zAL vs (b / 6)).lo+((b % 6:Nat):Int)⟩] ||| g)).testBit (Lib.ctz 64 (r &&& (zAF vs [⟨((b / 6:Nat):Int),4,(zAL vs (b / 6)).lo+((b % 6:Nat):Int)⟩] ||| g)))=true:=by
    refine (zDn _ h1 ?_ _).2.1 rfl
    refine Nat.lt_of_le_of_lt (Nat.le_of_testBit fun j hj=>hlw j (hrl j ((zBr _ _ _).1 hj).1)) ?_
    have:=zBw vs hv
    omega
   have hc6:=(hin _ hct).1
   have hz:zAK (r &&& (zAF vs [⟨((b / 6:Nat):Int),4,(zAL vs (b / 6)).lo+((b % 6:Nat):Int)⟩] ||| g)) (zAf (r &&& (zAF vs [⟨((b / 6:Nat):Int),4,(zAL vs (b / 6)).lo+((b % 6:Nat):Int)⟩] ||| g)))=0:=by
    refine (zBd _ _).2 fun j hj=>?_
    rw[zBB,decide_eq_true_eq,(hin j hj).1,hc6]
   have hbb:=h2 hz b hb (by rw[zBB,decide_eq_true_eq,hc6])
   rw[Nat.testBit_or,Bool.or_eq_true] at hbb
   rcases hbb with h | h
   ·exact ((zMI vs hv b b hbw).1 h).2.2 rfl
   ·have:=((zBK _ _ _).1 (w2 b h)).2
    rw[hbl] at this
    cases this
  ·rfl
theorem zNV (vs:List MVar) (hv:zAa vs) (pt:List (List Nat)) (A:List Nat) (r:Nat) (hA:zDC A r):∀(ptl:List (List Nat)) (k l:Nat),(∀(j:Nat) pts,ptl[j]? = some pts→pt.getD (k+j) []=pts)→SubP l (zAC vs)→SubP r l →
 (∀t∈zDh k ptl l,∀x∈zA4 vs pt t,x.2∈A)→SubP r (zA3 ptl l)
 | [],k,l,_,_,hrl,_=>hrl
 | pts :: rest,k,l,hk,hlw,hrl,hr=>by
   unfold zA3
   unfold zDh at hr
   by_cases h0:l=0
   ·rw[if_pos h0];exact hrl
   ·rw[if_neg h0] at hr ⊢
    have h36:l<2 ^ 36:=Nat.lt_of_le_of_lt (Nat.le_of_testBit hlw) (zBw vs hv)
    refine zNV vs hv pt A r hA rest (k+1) (zBV pts l) (fun j q hq=>by have:=hk (j+1) q (by simpa using hq);rw[←this];congr 1;omega) (fun i hi=>hlw i (zEQ pts l i h36 hi)) ?_ (fun t ht=>hr t (List.mem_append_right _ ht))
    by_cases he:zBV pts l=l
    ·rw[he];exact hrl
    ·exact zRj vs hv pt A r hA k pts (by have:=hk 0 pts rfl;simpa using this) l hlw hrl (fun x hx=>hr (k,l,zBV pts l) (List.mem_append_left _ (by rw[if_neg he];exact List.mem_singleton.2 rfl)) x hx)
theorem zHt (vs:List MVar) (hv:zAa vs) (pt:List (List Nat)) (cs A:List Nat) (hcs:∀c∈cs,c∈A) (r:Nat) (hr36:r<2 ^ 36) (hlk:zCA vs.length r=false) (hA:zDC A r):∀(f l:Nat),SubP l (zAC vs)→SubP r l →
 (∀t∈zB3 vs cs pt f l,∀x∈zA4 vs pt t,x.2∈A)→SubP r (zBP vs cs pt f l)
 | 0,l,_,hrl,_=>hrl
 | f+1,l,hlw,hrl,hr=>by
   unfold zBP
   unfold zB3 at hr
   have hu:=zG3 vs r hr36 hlk cs (zHs hA hcs) l hrl
   have hc:=zNV vs hv pt A r hA pt 0 (zAc vs cs l) (fun j pts hj=>by rw[Nat.zero_add,List.getD_eq_getElem?_getD,hj];rfl) (fun i hi=>hlw i (zC8 vs cs l i hi)) hu (fun t ht=>hr t (List.mem_append_left _ ht))
   split
   ·exact hrl
   ·rename_i hne
    rw[if_neg hne] at hr
    have h36:l<2 ^ 36:=Nat.lt_of_le_of_lt (Nat.le_of_testBit hlw) (zBw vs hv)
    refine zHt vs hv pt cs A hcs r hr36 hlk hA f _ (fun i hi=>?_) hc (fun t ht=>hr t (List.mem_append_right _ ht))
    have:∀(ptl:List (List Nat)) (q:Nat),q<2 ^ 36→(zA3 ptl q).testBit i=true→q.testBit i=true:=by
     intro ptl
     induction ptl with
     | nil=>intro q _ h;exact h
     | cons pts rest ih =>
       intro q hq h
       unfold zA3 at h
       split at h
       ·exact h
       ·have:=zFj pts q hq
        exact zEQ pts q i hq (ih _ (by omega) h)
    have h3:=zDF vs cs l
    exact hlw i (zC8 vs cs l i (this pt _ (by omega) hi))
theorem zIZ (vs:List MVar) (hv:zAa vs) (cs:List Nat) (pt:List (List Nat)) (h:Nat) (hz:zBW vs cs pt h=0):zCE vs cs h (zAt vs cs pt h)=true:=by
 unfold zCE zC6
 cases hb:(zAc vs (cs++(zAt vs cs pt h).map (·.2)) (zAK (zAC vs) h)==0)
 ·exfalso
  have hn:zAc vs (cs++(zAt vs cs pt h).map (·.2)) (zAK (zAC vs) h)≠0:=by simpa using hb
  have h36:zAK (zAC vs) h<2 ^ 36:=zCO 36 _ _ (zBw vs hv)
  obtain⟨k1,k2,k3⟩:=zI6 vs _ _ h36 hn
  have hle:=zDF vs (cs++(zAt vs cs pt h).map (·.2)) (zAK (zAC vs) h)
  have hL0:zAK (zAC vs) h≠0:=fun he=>hn (by omega)
  unfold zBW at hz
  rw[if_neg hL0] at hz
  have hs:=zHt vs hv pt cs (cs++(zAt vs cs pt h).map (·.2)) (fun c hc=>List.mem_append_left _ hc) _ (by omega) k1 k2 (zAK (zAC vs) h+1) (zAK (zAC vs) h) (fun i hi=>((zBK _ _ _).1 hi).1) k3 (fun t ht x hx=>by
   refine List.mem_append_right _ (List.mem_map.2 ⟨x,?_,rfl⟩)
   unfold zAt zHi
   rw[if_neg hL0]
   exact List.mem_flatMap.2 ⟨t,ht,hx⟩)
  rw[hz] at hs
  obtain⟨i,hi⟩:=zCe hn
  have:=hs i hi
  simp at this
 ·rfl
end Go.Proofs.YtdjbejlbmaiocagGreatDoor
