/- What the proof leans on, part 21. -/
import Derived.Test.YtndcpnlaadikoaaGreatDoorPartAt
import Derived.Test.YtndcpnlaadikoaaGreatDoorPartAn
set_option maxRecDepth 100000
set_option maxHeartbeats 3200000
namespace Go.Proofs.YtndcpnlaadikoaaGreatDoor
def Sol (m:Mod) (x:List Int):Prop:=zD5 m.vars x∧∀c∈m.cons,zAR c x=true
def zRA (m:Mod) (G:List Int→Prop) (S:Sk):Prop:=∀x,Sol m x→G x→∀c∈S.cs,Hits m.vars x c
theorem zM4 (vs:List MVar) (hv:zAc vs) (i:Nat):(zAH vs []).testBit i=false:=by
 unfold zAH ofP;rw[zAd vs hv];simp[oneB]
theorem zFu (vs:List MVar) (cs:List Nat) (pt:List (List Nat)) (c:Cla) (h:zBB vs cs pt c=true):zBB vs cs pt (zBz vs cs pt c)=true:=zEd _ _ c h
theorem zNx (m:Mod) (hm:zAG m=0) (G:List Int→Prop) (S:Sk) (hs:zRA m G S) (hz:zAo m.vars (ptsM m) S=0) :
 zRA m G (zBL m.vars (ptsM m) S).2∧((zBL m.vars (ptsM m) S).1=2→∀x,Sol m x→¬G x):=by
 have hn:zBB m.vars S.cs (ptsM m) (zBz m.vars S.cs (ptsM m) S.path)=true:=zFu _ _ _ _ (by unfold zBB;unfold zAo at hz;rw[hz];rfl)
 have hl:∀x,Sol m x→G x→Hits m.vars x (zAH m.vars (zBz m.vars S.cs (ptsM m) S.path)):=fun x hx hg=>zJj m hm x hx.1 hx.2 S.cs (hs x hx hg) _ hn
 unfold zBL
 split
 ·exact⟨hs,fun h=>by cases h⟩
 ·split
  ·exact⟨hs,fun h=>by cases h⟩
  ·split
   ·rename_i hc
    refine⟨hs,fun _ x hx hg=>?_⟩
    obtain⟨v,_,hb⟩:=hl x hx hg;rw[List.length_eq_zero_iff.1 hc,zM4 m.vars (zAy m hm)] at hb;cases hb
   ·refine⟨fun x hx hg c hc=>?_,fun h=>by cases h⟩
    rcases List.mem_append.1 hc with hc | hc
    ·exact hs x hx hg c hc
    ·rw[List.mem_singleton.1 hc];exact hl x hx hg
theorem zHq (vs:List MVar) (cs:List Nat) (pt:List (List Nat)):∀(f l:Nat),l<f→l<2 ^ 36→zA2 pt (zAa vs cs (zBN vs cs pt f l))=zBN vs cs pt f l
 | 0,l,hf,_=>by omega
 | f+1,l,hf,h=>by
   unfold zBN
   split
   ·assumption
   ·have:=zEc vs cs pt l h
    exact zHq vs cs pt f _ (by omega) (by omega)
theorem zI1 (vs:List MVar) (hv:zAc vs) (cs:List Nat) (pt:List (List Nat)) (h:Nat) (hn:zBU vs cs pt h≠0):zA2 pt (zAa vs cs (zBU vs cs pt h))=zBU vs cs pt h:=by
 unfold zBU at hn ⊢
 split
 ·rename_i hc;rw[if_pos hc] at hn;exact absurd rfl hn
 ·exact zHq vs cs pt _ _ (Nat.lt_succ_self _) (zB9 36 _ _ (zBh vs hv))
theorem zKd:∀(pt:List (List Nat)) (l:Nat),l<2 ^ 36→l≠0→zA2 pt l=l→∀pts∈pt,zBT pts l=l
 | [],l,_,_,_=>fun pts hp=>by cases hp
 | pts :: r,l,h,hn,he=>by
   unfold zA2 at he;rw[if_neg hn] at he;have h1:=zFM pts l h;have h2:=zFo r (zBT pts l) (by omega)
   have h3:zBT pts l=l:=by omega
   rw[h3] at he;intro q hq;rcases List.mem_cons.1 hq with rfl | hq
   ·exact h3
   ·exact zKd r l h hn he q hq
theorem zHr:∀(cs:List Nat) (l:Nat),zAl cs l=some l→∀c∈cs,l &&& c≠0
 | [],l,_=>fun c hc=>by cases hc
 | c :: r,l,h=>by
   unfold zAl at h
   split at h
   ·cases h
   ·rename_i h0
    split at h
    ·have h1:=zCP r _ l h
     have h2:=zHW l (zAL (zAh (l &&& c)) (l &&& c));have h3:zAL l (zAL (zAh (l &&& c)) (l &&& c))=l:=by omega
     rw[h3] at h;intro q hq;rcases List.mem_cons.1 hq with rfl | hq
     ·exact h0
     ·exact zHr r l h q hq
    ·intro q hq
     rcases List.mem_cons.1 hq with rfl | hq
     ·exact h0
     ·exact zHr r l h q hq
theorem zPV (vs:List MVar) (cs:List Nat) (l:Nat) (hn:l≠0) (h:zAa vs cs l=l):zBt vs.length l=false∧∀c∈cs,l &&& c≠0:=by
 unfold zAa at h
 split at h
 ·exact absurd h.symm hn
 ·rename_i hk
  refine⟨by simpa using hk,?_⟩
  rw[zIl] at h;cases hr:zAl cs l with
  | none=>rw[hr] at h;exact absurd h.symm hn
  | some l' =>
    rw[hr] at h;simp only at h
    split at h
    ·rename_i he
     rw[he] at hr;exact zHr cs l hr
    ·have h1:=zCP cs l l' hr
     have h2:=zHY cs (l'+1) l';have h3:l'≠l:=by assumption
     exact absurd (by omega:l'=l) h3
theorem zHs (n p:Nat) (h:zBt n p=false) (v:Nat) (hv:v<n):∃k,k<6∧p.testBit (6 * v+k)=true:=by
 unfold zBt at h;rw[List.any_eq_false] at h;have h1:=h v (List.mem_range.2 hv);have h2:p / 2 ^ (v * 6) &&& 63≠0:=by simpa using h1
 apply Classical.byContradiction;intro hn;apply h2;apply Nat.eq_of_testBit_eq;intro i;rw[Nat.testBit_and,Nat.zero_testBit,zGF,Nat.testBit_div_two_pow];by_cases hi:i<6
 ·cases hb:p.testBit (i+v * 6)
  ·rfl
  ·exact absurd ⟨i,hi,by rw[show 6 * v+i=i+v * 6 by omega];exact hb⟩ hn
 ·simp[hi]
theorem zNy (vs:List MVar) (hv:zAc vs) (l:Nat) (hw:∀i,l.testBit i=true→(zAE vs).testBit i=true) (hk:zBt vs.length l=false) (hf:zBV (zAb vs l)<0) :
 zD5 vs (zAb vs l).flatten∧zBe vs (zAb vs l).flatten l∧∀i,l.testBit i=true→∃v,v<vs.length∧i=posV vs (zAb vs l).flatten v:=by
 have hlen:=zEv vs l;have hone:∀v,v<vs.length→∃x,(zAb vs l)[v]? = some [x]∧∃i,i<36∧l.testBit i=true∧i / 6=v∧x=(zAJ vs v).lo+((i % 6:Nat):Int):=fun v hvl=>by
  obtain⟨k,hk6,hb⟩:=zHs vs.length l hk v hvl;have hi36:6 * v+k<36:=by have:=hv.1;omega
  have hx:(zAJ vs v).lo+((k:Nat):Int)∈(zAb vs l).getD v []:=(zEw vs l v hvl _).2 ⟨6 * v+k,hi36,hb,by omega,by congr 2;omega⟩
  have hg:(zAb vs l)[v]? = some ((zAb vs l).getD v []):=by rw[List.getD_eq_getElem?_getD,List.getElem?_eq_getElem (by omega)];rfl
  have h1:=zLn _ hf _ (List.mem_of_getElem? hg)
  match hr:(zAb vs l).getD v [] with
  | []=>rw[hr] at hx;cases hx
  | [x] =>
    rw[hr] at hg hx;refine⟨x,hg,6 * v+k,hi36,hb,by omega,?_⟩
    have h2:(zAJ vs v).lo+((k:Nat):Int)=x:=by simpa using hx
    rw[←h2]
    congr 2;omega
  | x :: y :: t=>rw[hr] at h1;simp at h1
 have hflat:∀(s:Sto),(∀v:Nat,v<s.length→∃x:Int,s[v]? = some [x])→s.flatten.length=s.length∧∀(v:Nat) (x:Int),s[v]? = some [x]→s.flatten[v]? = some x:=by
  intro s
  induction s with
  | nil=>intro _;exact⟨rfl,fun v x h=>by simp at h⟩
  | cons a r ih =>
    intro h;obtain⟨x,hx⟩:=h 0 (by simp)
    have ha:a=[x]:=by simpa using hx
    subst ha;obtain⟨i1,i2⟩:=ih fun v hv=>by
     obtain⟨y,hy⟩:=h (v+1) (by simp;omega)
     exact⟨y,by simpa using hy⟩
    refine⟨by simp[i1],fun v y hy=>?_⟩
    cases v with
    | zero=>simpa using hy
    | succ v=>simpa using i2 v y (by simpa using hy)
 obtain⟨f1,f2⟩:=hflat (zAb vs l) fun v hvl=>(hone v (by omega)).imp fun x hx=>hx.1
 have hval:∀v,v<vs.length→∃i,i<36∧l.testBit i=true∧i / 6=v∧zAf (zAb vs l).flatten (v:Int)=(zAJ vs v).lo+((i % 6:Nat):Int):=fun v hvl=>by
  obtain⟨x,h1,i,h2,h3,h4,h5⟩:=hone v hvl;refine⟨i,h2,h3,h4,?_⟩;unfold zAf;rw[Int.toNat_natCast,List.getD_eq_getElem?_getD,f2 v x h1];exact h5
 have hsz:∀i,l.testBit i=true→i / 6<vs.length∧i % 6<zBj (zAJ vs (i / 6)):=fun i hi=>by
  have:=hw i hi;unfold zAE ofP at this;rw[zAd vs hv] at this;simp only[Bool.and_eq_true,decide_eq_true_eq] at this;exact⟨this.1,this.2.1⟩
 have hmb:zD5 vs (zAb vs l).flatten:=⟨by rw[f1,hlen],fun v hvl=>by
  obtain⟨i,_,h2,h3,h4⟩:=hval v hvl;have:=(hsz i h2).2;rw[h3] at this;unfold zBj at this;rw[h4];omega⟩
 have hpos:∀v,v<vs.length→∃i,l.testBit i=true∧i=posV vs (zAb vs l).flatten v:=fun v hvl=>by
  obtain⟨i,_,h2,h3,h4⟩:=hval v hvl;refine⟨i,h2,?_⟩;unfold posV;rw[h4];omega
 refine⟨hmb,fun v hvl=>?_,fun i hi=>?_⟩
 ·obtain⟨i,h1,h2⟩:=hpos v hvl
  rw[←h2];exact h1
 ·refine⟨i / 6,(hsz i hi).1,?_⟩
  obtain⟨x,h1,j,j1,j2,j3,j4⟩:=hone (i / 6) (hsz i hi).1;have hx:(zAJ vs (i / 6)).lo+((i % 6:Nat):Int)∈(zAb vs l).getD (i / 6) []:=(zEw vs l _ (hsz i hi).1 _).2 ⟨i,by have:=(hsz i hi).1;have:=hv.1;omega,hi,rfl,rfl⟩
  rw[List.getD_eq_getElem?_getD,h1] at hx;have hxx:(zAJ vs (i / 6)).lo+((i % 6:Nat):Int)=x:=by simpa using hx
  obtain⟨k,_,k2⟩:=hpos (i / 6) (hsz i hi).1;unfold posV;unfold zAf;rw[Int.toNat_natCast,List.getD_eq_getElem?_getD,f2 _ x h1];simp only[Option.getD_some];omega
theorem zCt {n:Nat} (h:n≠0):∃i,n.testBit i=true:=by
 apply Classical.byContradiction;intro hn;apply h;apply Nat.eq_of_testBit_eq;intro i;rw[Nat.zero_testBit];cases hb:n.testBit i
 ·rfl
 ·exact absurd ⟨i,hb⟩ hn
theorem zLp (m:Mod) (hm:zAG m=0) (S:Sk) (hl:zAo m.vars (ptsM m) S≠0) (hf:zBV (zAb m.vars (zAo m.vars (ptsM m) S))<0) :
 Sol m (zAb m.vars (zAo m.vars (ptsM m) S)).flatten∧∀c∈S.cs,Hits m.vars (zAb m.vars (zAo m.vars (ptsM m) S)).flatten c:=by
 have hv:=zAy m hm;have hfix:=zI1 m.vars hv S.cs (ptsM m) (zAH m.vars S.path) hl;have h36:=zPS m.vars hv S.cs (ptsM m) (zAH m.vars S.path);have hsub:∀i,(zAo m.vars (ptsM m) S).testBit i=true→(zAE m.vars).testBit i=true:=fun i hi=>(zDs m.vars hv _ _ _ i hi).1
 change zA2 (ptsM m) (zAa m.vars S.cs (zAo m.vars (ptsM m) S))=zAo m.vars (ptsM m) S at hfix
 change zAo m.vars (ptsM m) S<2 ^ 36 at h36
 generalize zAo m.vars (ptsM m) S=l at *;have h1:=zDA m.vars S.cs l;have h2:=zFo (ptsM m) (zAa m.vars S.cs l) (by omega)
 have hu:zAa m.vars S.cs l=l:=by omega
 rw[hu] at hfix;obtain⟨hk,hcl⟩:=zPV m.vars S.cs l hl hu;obtain⟨b1,b2,b3⟩:=zNy m.vars hv l hsub hk hf;generalize (zAb m.vars l).flatten=x at *;refine⟨⟨b1,fun c hc=>?_⟩,fun c hc=>?_⟩
 ·have hp:=zKd (ptsM m) l h36 hl hfix (zAK m.vars c) (List.mem_map.2 ⟨c,hc,rfl⟩)
  obtain⟨j,hj,he⟩:=List.getElem_of_mem hc;obtain⟨k1,k2⟩:=zC9 m hm j c (by rw[List.getElem?_eq_getElem hj,he])
  have hfd:(zCB l (zAK m.vars c) (0,0,false)).2.2=true:=by
   cases hq:(zCB l (zAK m.vars c) (0,0,false)).2.2
   ·unfold zBT at hp
    rw[hq] at hp;exact absurd hp.symm hl
   ·rfl
  rcases (zDM l _ _).1 hfd with h | ⟨q,hq,hz⟩
  ·cases h
  ·obtain⟨u,l1,l2,l3,_,_,l6⟩:=zD8 m.vars c _ _ _ q k1 (by simp[zBS]) hq
   rw[←zFH c u x (fun v hvs=>?_) k2]
   ·exact l2
   ·have hb:=(zBb _ _).1 hz _ (l6 v hvs)
    obtain⟨v',hv',hpos⟩:=b3 _ hb;have hp1:=zDJ m.vars hv x b1 v' hv';have h3:=l3 v hvs;have h4:=k1 v hvs;have h6:=hv.2 v.toNat;unfold zBj at h6;rw[←hpos] at hp1;have hvv:v'=v.toNat:=by omega
    subst hvv;rw[Int.toNat_of_nonneg h4.1] at hp1;omega
 ·have hne:=hcl c hc
  obtain⟨i,hi⟩:=zCt hne;rw[Nat.testBit_and,Bool.and_eq_true] at hi;obtain⟨v,hvl,hpos⟩:=b3 i hi.1;exact⟨v,hvl,by rw[←hpos];exact hi.2⟩
theorem zGI (m:Mod) (hm:zAG m=0) (G:List Int→Prop):∀(N:Nat) (S:Sk),zCY m.vars S<N→zRA m G S →
 zRA m G (zAt m.vars (ptsM m) S).2.2∧((zAt m.vars (ptsM m) S).1=1→Sol m (zAt m.vars (ptsM m) S).2.1∧(∀c∈(zAt m.vars (ptsM m) S).2.2.cs,Hits m.vars (zAt m.vars (ptsM m) S).2.1 c)∧∀c∈S.cs,c∈(zAt m.vars (ptsM m) S).2.2.cs) ∧
  ((zAt m.vars (ptsM m) S).1=2→∀x,Sol m x→¬G x)∧((zAt m.vars (ptsM m) S).1=1∨(zAt m.vars (ptsM m) S).1=2∨(zAt m.vars (ptsM m) S).1=3)∧((zAt m.vars (ptsM m) S).1≠1→(zAt m.vars (ptsM m) S).2.1=[])
 | 0,S,h,_=>by omega
 | N+1,S,h,hs=>by
   rw[zFt m.vars (zAy m hm)]
   split
   ·rename_i hz
    obtain⟨t1,t2⟩:=zNx m hm G S hs hz
    split
    ·rename_i h0
     obtain⟨n1,n2,n3,n4⟩:=zGI m hm G N _ (by have:=zDt m.vars (ptsM m) S h0;omega) t1
     refine⟨n1,fun hv=>?_,n3,n4⟩
     obtain⟨k1,k2,k3⟩:=n2 hv;refine⟨k1,k2,fun c hc=>k3 c ?_⟩
     unfold zBL at h0 ⊢
     split
     ·exact hc
     ·split
      ·exact hc
      ·split
       ·exact hc
       ·exact List.mem_append_left _ hc
    ·rename_i h0
     have h3:(zBL m.vars (ptsM m) S).1=0∨(zBL m.vars (ptsM m) S).1=2∨(zBL m.vars (ptsM m) S).1=3:=by
      unfold zBL
      split
      ·exact Or.inr (Or.inr rfl)
      ·split
       ·exact Or.inr (Or.inr rfl)
       ·split
        ·exact Or.inr (Or.inl rfl)
        ·exact Or.inl rfl
     refine⟨t1,fun hv=>?_,t2,?_,fun _=>rfl⟩
     ·simp only at hv
      omega
     ·simp only
      omega
   ·rename_i hz
    split
    ·rename_i hf
     obtain⟨f1,f2⟩:=zLp m hm S hz hf;exact⟨hs,fun _=>⟨f1,f2,fun c hc=>hc⟩,(fun h=>by cases h),Or.inl rfl,(fun h=>absurd rfl h)⟩
    ·rename_i hf
     exact zGI m hm G N _ (by have:=zEx m.vars (zAy m hm) (ptsM m) S hf;omega) hs
def zCW (c:MCon):Nat:=((zAk c).getLastD 0).toNat
def dueP (cons:List MCon) (v:Nat):List MCon:=cons.filter fun c=>zCW c==v
def zEM (lo hi:Int):List Int:=(List.range (hi+1 - lo).toNat).map fun (i:Nat)=>lo+(i:Int)
def okD (cons:List MCon) (v:Nat) (u:List Int):Bool:=!((dueP cons v).any fun c=>!zAR c u)
def zEA (vs:List MVar) (cons:List MCon):Nat→List Int→List (List Int)
 | 0,pre=>[pre]
 | k+1,pre=>(zEM (zAJ vs pre.length).lo (zAJ vs pre.length).hi).flatMap fun x=>if okD cons pre.length (pre++[x]) then zEA vs cons k (pre++[x]) else []
def runT {σ:Type} (tell:σ→List Int→Bool×σ):List (List Int)→σ→Bool×σ
 | [],s=>(true,s)
 | x :: l,s=>if (tell s x).1 then runT tell l (tell s x).2 else (false,(tell s x).2)
theorem zHt {σ:Type} (tell:σ→List Int→Bool×σ):∀(a b:List (List Int)) (s:σ),runT tell (a++b) s=if (runT tell a s).1 then runT tell b (runT tell a s).2 else runT tell a s
 | [],b,s=>by simp[runT]
 | x :: a,b,s=>by
   rw[List.cons_append,runT,runT]
   split
   ·exact zHt tell a b _
   ·rw[if_neg (by simp)]
def zEB (s:List (List Int)) (x:List Int):Bool×List (List Int):=if s.length=200 then (false,s) else (true,s++[x])
theorem zKe:∀(l s:List (List Int)),s.length≤200→runT zEB l s=(decide (s.length+l.length≤200),(s++l).take 200)
 | [],s,h=>by
   rw[runT,List.append_nil,List.take_of_length_le h];simp[h]
 | x :: l,s,h=>by
   rw[runT];unfold zEB;by_cases h2:s.length=200
   ·rw[if_pos h2]
    simp only[Bool.false_eq_true,if_false];rw[List.take_append_of_le_length (by omega),List.take_of_length_le h]
    simp[h2]
   ·rw[if_neg h2]
    simp only[if_true];have:=zKe l (s++[x]) (by rw[List.length_append];simp;omega)
    unfold zEB at this;rw[this,List.append_assoc];simp[Nat.add_assoc,Nat.add_comm 1]
def allL (m:Mod):List (List Int):=zEA m.vars m.cons m.vars.length []
def zHu (m:Mod):List (List Int)×Bool×Int:=if zAG m=0 then ((allL m).take 200,decide ((allL m).length≤200),0) else ([],false,zAG m)
theorem zGk (c:MCon):(zAk c).Pairwise (·≤·):=by
 unfold zAk zGE;obtain⟨zs,hz⟩:∃zs,zD4 (zBm c)=zs:=⟨_,rfl⟩;have hp:zs.Pairwise (·≤·):=by
  rw[←hz];unfold zD4;have:=List.pairwise_mergeSort (le:=fun (x y:Int)=>decide (x≤y)) (fun a b c h1 h2=>by simp at *;omega) (fun a b=>by simp;omega) (zBm c)
  exact this.imp (fun h=>by simpa using h)
 rw[hz];unfold Lib.compact Lib.compactUpTo;rw[List.pairwise_map];refine List.Pairwise.imp_of_mem ?_ ((List.pairwise_lt_range (n:=zs.length)).filter _);intro a b ha hb hab;have h1:b<zs.length:=List.mem_range.1 (List.mem_filter.1 hb |>.1)
 have h2:a<zs.length:=by omega
 have:=(List.pairwise_iff_getElem.1 hp) a b h2 h1 hab;simpa[h1,h2] using this
theorem zM5 (l:List Int) (h:l.Pairwise (·≤·)) (v:Int) (hv:v∈l):v≤l.getLastD 0:=by
 rcases List.eq_nil_or_concat l with rfl | ⟨i,x,rfl⟩
 ·cases hv
 ·rw[List.concat_eq_append] at h hv ⊢
  rw[List.pairwise_append] at h;have e:(i++[x]).getLastD 0=x:=by simp
  rw[e];rcases List.mem_append.1 hv with hv | hv
  ·exact h.2.2 v hv x (List.mem_singleton.2 rfl)
  ·rw[List.mem_singleton.1 hv];exact Int.le_refl _
theorem zPW (l:List Int) (h:l≠[]):l.getLastD 0∈l:=by
 rcases List.eq_nil_or_concat l with rfl | ⟨i,x,rfl⟩
 ·exact absurd rfl h
 ·simp
theorem zHv (m:Mod) (hm:zAG m=0) (c:MCon) (hc:c∈m.cons) (u:List Int) (k:Nat) (hk:zCW c<k):zAR c (u.take k)=zAR c u:=by
 obtain⟨j,hj⟩:=List.mem_iff_getElem?.1 hc;obtain⟨h1,h2⟩:=zC9 m hm j c hj;refine zFH c _ _ (fun v hv=>?_) h2
 have h3:=zM5 _ (zGk c) v hv;have h4:=(h1 v hv).1;unfold zCW at hk;unfold zAf;rw[List.getD_eq_getElem?_getD,List.getD_eq_getElem?_getD,List.getElem?_take_of_lt (by omega)]
theorem zRB (m:Mod) (hm:zAG m=0) (c:MCon) (hc:c∈m.cons):zCW c<m.vars.length:=by
 obtain⟨j,hj⟩:=List.mem_iff_getElem?.1 hc;obtain⟨h1,_⟩:=zC9 m hm j c hj;unfold zCW;by_cases he:zAk c=[]
 ·rw[he]
  have:=(zAe m hm).1;simp only[List.getLastD_nil];show (0:Nat)<_;omega
 ·have:=h1 _ (zPW _ he)
  omega
def fL (vs:List MVar) (cons:List MCon) (k:Nat) (pre:List Int) (x:Int):List (List Int):=if okD cons pre.length (pre++[x]) then zEA vs cons k (pre++[x]) else []
theorem zPX (vs:List MVar) (cons:List MCon) (k:Nat) (pre:List Int):zEA vs cons (k+1) pre=(zEM (zAJ vs pre.length).lo (zAJ vs pre.length).hi).flatMap (fL vs cons k pre):=rfl
theorem zPY (x hi:Int) (h:x≤hi):zEM x hi=x :: zEM (x+1) hi:=by
 unfold zEM;have e:(hi+1 - x).toNat=(hi+1 - (x+1)).toNat+1:=by omega
 rw[e,List.range_succ_eq_map,List.map_cons,List.map_map]
 congr 1
 ·simp
 ·apply List.map_congr_left
  intro i _;simp only[Function.comp];omega
theorem zRC (x hi:Int) (h:hi<x):zEM x hi=[]:=by
 unfold zEM;have e:(hi+1 - x).toNat=0:=by omega
 rw[e];rfl
theorem zRD {α:Type} (l:List α) (p q:α→Bool) (h:∀x∈l,p x=q x):l.any p=l.any q:=by
 induction l with
 | nil=>rfl
 | cons x r ih=>rw[List.any_cons,List.any_cons,h x (List.mem_cons_self ..),ih fun y hy=>h y (List.mem_cons_of_mem _ hy)]
theorem zNz (m:Mod) (hm:zAG m=0) (v:Nat) (vals u:List Int) (h:vals.take (v+1)=u):(dueP m.cons v).any (fun c=>!zAR c vals)=!okD m.cons v u:=by
 unfold okD;rw[Bool.not_not];subst h;refine zRD _ _ _ fun c hc=>?_
 obtain⟨hc1,hc2⟩:=List.mem_filter.1 hc;have hl:zCW c=v:=by simpa using hc2
 rw[zHv m hm c hc1 vals (v+1) (by omega)]
open Go.RowKit
theorem zPZ (c:MCon) (vals:List Int) (vv vc vr vl v:Value) (w:World) (hk:KArg w vv vc vr vl c) (hv:IArg w v vals) (hc:conE vals.length c=0) (hob:∀x∈ownV c.vars vals,-50≤x∧x≤50) :
 Calls Tryz.prog 98 #[conV vv vc vr vl c,v] w fun e w'=>e=.returned (.bool (zAR c vals))∧Below w.heap.size w w':=by
 obtain⟨⟨hk1,hk10⟩,hmany,hform,hvars,hconsts,hlits⟩:=zEX _ _ hc;obtain⟨hn4,hl4,hc8,_⟩:=zG4 c hmany;have HVI:Hid (∀x∈c.vars,0≤x∧x<(vals.length:Int)):=(zHU c _ hvars).1;have HLI:Hid (∀l∈c.lits,0≤l.var∧l.var<(vals.length:Int)):=(zHU c _ hvars).2;have HCI:Hid (∀x∈c.consts,-1000≤x∧x≤1000):=zKO c hconsts;have HOB:Hid (∀x∈ownV c.vars vals,-50≤x∧x≤50):=hob;have HKA:Hid (∀w':World,Below w.heap.size w w'→KArg w' vv vc vr vl c):=fun w' h=>KArg.below h hk
 have HVA:Hid (∀w':World,Below w.heap.size w w'→IArg w' v vals):=fun w' h=>IArg.below h hv
 have HFO:Hid (zCJ c=true):=hform;obtain⟨⟨a1,c1,rfl,_,_⟩,⟨a2,c2,rfl,hm2,_⟩,⟨a3,c3,rfl,_,_⟩,⟨a4,c4,rfl,hm4,_⟩⟩:=hk;obtain⟨a5,c5,rfl,_,_⟩:=hv;unfold maxLen at hm2 hm4;obtain⟨hm21,hm2⟩:=hm2;obtain⟨hm41,hm4⟩:=hm4;obtain⟨R,hR⟩:∃R,zAR c vals=R:=⟨_,rfl⟩;rw[hR];have HR:Hid (zAR c vals=R):=hR;unfold conV;clear hR hc hob hmany hform hvars hconsts hlits;go_enter Tryz.func98,Tryz.ntmps98
 go_wp2_with fail
 refine (zKN c.vars vals _ _ _ ?_ ?_ hn4 HVI.out).mono ?_
 ·exact (HKA.out _ (zAA _ _)).1
 ·exact HVA.out _ (zAA _ _)
 rintro e w1 ⟨x,rfl,hx,hb1⟩;have d0:w1.cell? ⟨w.heap.size,0,none⟩=some (.int .i64 c.kind):=(hb1.cell (by simp)).trans (by simp)
 have d2:w1.cell? ⟨w.heap.size,2,none⟩=some (.slice a2 c.consts.length c2):=(hb1.cell (by simp)).trans (by simp)
 have d3:w1.cell? ⟨w.heap.size,3,none⟩=some (.int .i64 c.n):=(hb1.cell (by simp)).trans (by simp)
 have d4:w1.cell? ⟨w.heap.size,4,none⟩=some (.slice a3 c.rows.length c3):=(hb1.cell (by simp)).trans (by simp)
 have d5:w1.cell? ⟨w.heap.size,5,none⟩=some (.slice a4 c.lits.length c4):=(hb1.cell (by simp)).trans (by simp)
 have hs1:w.heap.size+1≤w1.heap.size:=by simpa using hb1.size
 have HB1:Hid (Below w.heap.size w w1):=(zAA _ _).trans (hb1.mono (by simp))
 have HX:Hid (∀w':World,Below w1.heap.size w1 w'→IArg w' x (ownV c.vars vals)):=fun w' h=>IArg.below h hx
 obtain⟨own,HOWN⟩:∃own,Hid (ownV c.vars vals=own):=⟨_,rfl⟩;have HOL:Hid (own.length=c.vars.length):=by rw[←HOWN.out];exact zMr _ _
 rw[HOWN.out] at HX HOB hx;obtain⟨a6,c6,rfl,hm6,h6⟩:=hx;unfold maxLen at hm6;obtain⟨hm61,hm6⟩:=hm6;have H6:Hid (∀(i:Nat) (z:Int),own[i]? = some z→∃b off,a6=some ⟨b,off,none⟩∧b<w1.heap.size∧w1.cell? ⟨b,off+i,none⟩=some (.int .i64 z)):=h6;clear hb1 h6;have hl0:w.heap.size<w1.heap.size:=by omega
 have HB2:Hid (Below w.heap.size w (w1.alloc (.cells #[.slice a6 own.length c6] 42))):=HB1.out.trans ((zAA _ _).mono (by omega))
 obtain⟨kd,hkd⟩:∃kd,c.kind=kd:=⟨_,rfl⟩;have HKD:Hid (c.kind=kd):=hkd;rw[hkd] at d0 hk1 hk10;clear hkd hs1;have HN:Hid (R=true∨R=false):=by cases R <;> simp[Hid]
 have hcases:kd=1∨kd=2∨kd=3∨kd=4∨kd=5∨kd=6∨kd=7∨kd=8∨kd=9∨kd=10:=by omega
 clear hk1 hk10;rcases hcases with rfl | rfl | rfl | rfl | rfl | rfl | rfl | rfl | rfl | rfl
 ·
  have HL:Hid (c.consts.length=own.length):=by
   have h:=HFO.out;unfold zCJ at h;rw[HKD.out] at h;simp at h;exact h.2.1.trans HOL.out.symm
  have HE:Hid (R=decide (sumV c.consts own≤c.n)):=by rw[←HR.out,←HOWN.out];unfold zAR;rw[HKD.out];rfl
  have HS:Hid (∀n,Calls Tryz.prog 164 #[.slice a2 c.consts.length c2,.slice a6 own.length c6] ((w1.alloc (.cells #[.slice a6 own.length c6] 42)).drewN n) fun e w'=>e=.returned (.int .i64 (sumV c.consts own))∧∃k,w'=(w1.alloc (.cells #[.slice a6 own.length c6] 42)).drewN k):=by
   intro n;refine (zGC c.consts own _ _ _ ((HKA.out _ (below_drewN HB2.out n)).2.1) (HX.out _ (below_drewN (zAA _ _) n)) HL.out hc8 HCI.out HOB.out).mono ?_;rintro e w' ⟨rfl,rfl⟩;exact⟨rfl,n,rfl⟩
  go_wp2
  go_quiet ((go_at_call 164;exact HS.out _))
  go_wp2
  go_ret
  exact⟨zAD HE.out.symm,below_drewN HB2.out _⟩
 ·
  have HL:Hid (c.consts.length=own.length):=by
   have h:=HFO.out;unfold zCJ at h;rw[HKD.out] at h;simp at h;exact h.2.1.trans HOL.out.symm
  have HE:Hid (R=(sumV c.consts own==c.n)):=by rw[←HR.out,←HOWN.out];unfold zAR;rw[HKD.out];rfl
  have HS:Hid (∀n,Calls Tryz.prog 164 #[.slice a2 c.consts.length c2,.slice a6 own.length c6] ((w1.alloc (.cells #[.slice a6 own.length c6] 42)).drewN n) fun e w'=>e=.returned (.int .i64 (sumV c.consts own))∧∃k,w'=(w1.alloc (.cells #[.slice a6 own.length c6] 42)).drewN k):=by
   intro n;refine (zGC c.consts own _ _ _ ((HKA.out _ (below_drewN HB2.out n)).2.1) (HX.out _ (below_drewN (zAA _ _) n)) HL.out hc8 HCI.out HOB.out).mono ?_;rintro e w' ⟨rfl,rfl⟩;exact⟨rfl,n,rfl⟩
  go_wp2
  go_quiet ((go_at_call 164;exact HS.out _))
  go_wp2
  go_ret
  exact⟨zAD HE.out.symm,below_drewN HB2.out _⟩
 ·
  have HL:Hid (c.consts.length=own.length):=by
   have h:=HFO.out;unfold zCJ at h;rw[HKD.out] at h;simp at h;exact h.2.1.trans HOL.out.symm
  have HE:Hid (R=(sumV c.consts own != c.n)):=by rw[←HR.out,←HOWN.out];unfold zAR;rw[HKD.out];rfl
  have HS:Hid (∀n,Calls Tryz.prog 164 #[.slice a2 c.consts.length c2,.slice a6 own.length c6] ((w1.alloc (.cells #[.slice a6 own.length c6] 42)).drewN n) fun e w'=>e=.returned (.int .i64 (sumV c.consts own))∧∃k,w'=(w1.alloc (.cells #[.slice a6 own.length c6] 42)).drewN k):=by
   intro n;refine (zGC c.consts own _ _ _ ((HKA.out _ (below_drewN HB2.out n)).2.1) (HX.out _ (below_drewN (zAA _ _) n)) HL.out hc8 HCI.out HOB.out).mono ?_;rintro e w' ⟨rfl,rfl⟩;exact⟨rfl,n,rfl⟩
  go_wp2
  go_quiet ((go_at_call 164;exact HS.out _))
  go_wp2
  go_ret
  exact⟨zAD HE.out.symm,below_drewN HB2.out _⟩
 ·
  have HE:Hid (R=decide own.Nodup):=by rw[←HR.out,←HOWN.out];unfold zAR;rw[HKD.out];rfl
  have ho4:own.length≤4:=by have:=HOL.out;omega
  go_wp2_with fail
  refine (zIg own _ _ (HX.out _ (zAA _ _)) ho4 HOB.out).mono ?_;rintro e w3 ⟨rfl,hb3⟩;have hb4:Below w.heap.size w w3:=HB2.out.trans (hb3.mono (by simp;omega))
  clear hb3;go_wp2
  go_ret
  exact⟨zAD HE.out.symm,hb4⟩
 ·
  have HL:Hid (own.length=2):=by
   have h:=HFO.out;unfold zCJ at h;rw[HKD.out] at h;simp at h;exact HOL.out.trans h.2.1
  obtain⟨p,q,rfl⟩:∃p q,own=[p,q]:=by
   match own,HL.out with
   | [p,q],_=>exact⟨p,q,rfl⟩
  obtain⟨b,off,rfl,hb,e0⟩:=H6.out 0 p rfl;obtain⟨b',off',hab,hb',e1⟩:=H6.out 1 q rfl;cases hab
  rw[Nat.add_zero] at e0;have HE:Hid (R=(decide (0≤p)&&(decide (p<c.consts.length)&&(c.consts.getD p.toNat 0==q)))):=by rw[←HR.out];unfold zAR;rw[HKD.out,HOWN.out];rfl
  by_cases q1:0≤p
  ·obtain⟨j,rfl⟩:∃j:Nat,p=(j:Int):=⟨p.toNat,by omega⟩
   by_cases q2:j<c.consts.length
   ·obtain⟨y,hy⟩:∃y,c.consts[j]? = some y:=⟨c.consts[j],by simp[q2]⟩
    obtain⟨a2',c2',hva,_,hrc⟩:=(HKA.out _ HB1.out).2.1;obtain⟨b2,off2,hax,hb2,e2⟩:=hrc j y hy;have ha2:a2=some ⟨b2,off2,none⟩:=by cases hva;exact hax
    subst ha2;have HE2:Hid (R=(y==q)):=by
     show _=_;rw[HE.out,decide_eq_true q1,decide_eq_true (show (j:Int)<c.consts.length by omega),Int.toNat_natCast,List.getD_eq_getElem?_getD,hy];rfl
    have q2':(j:Int)<(c.consts.length:Int):=by omega
    clear hy hva hrc hax;go_wp2
    go_quiet (fail)
    go_wp2
    go_ret
    exact⟨zAD HE2.out.symm,below_drewN HB2.out _⟩
   ·have HE2:Hid (R=false):=by
     show _=_;rw[HE.out,decide_eq_true q1,decide_eq_false (show ¬(j:Int)<c.consts.length by omega)];rfl
    have q3:decide (j<c.consts.length)=false:=decide_eq_false q2;have q4:decide ((j:Int)<(c.consts.length:Int))=false:=decide_eq_false (by omega)
    clear q2;go_wp2
    go_quiet (fail)
    go_wp2
    go_ret
    exact⟨zAD HE2.out.symm,below_drewN HB2.out _⟩
  ·have HE2:Hid (R=false):=by
    show _=_;rw[HE.out,decide_eq_false q1];rfl
   have q3:decide (0≤p)=false:=decide_eq_false q1;go_wp2
   go_quiet (fail)
   go_wp2
   go_ret
   exact⟨zAD HE2.out.symm,below_drewN HB2.out _⟩
 ·
  have HE:Hid (R=c.rows.any fun r=>decide (r=own)):=by rw[←HR.out,←HOWN.out];unfold zAR;rw[HKD.out];rfl
  go_wp2_with fail
  refine (zE6 167 _ (fun r=>decide (r=own)) c.rows _ _ ((HKA.out _ HB2.out).2.2.1) ⟨zIh,?_⟩).mono ?_
  ·intro r x w' hb' hx'
   exact zMp own r _ x w1.heap.size w' (HX.out _ ((zAA _ _).trans (hb'.mono (by simp)))) hx' ((hb'.cell (by simp)).trans (by simp))
  rintro e w3 ⟨rfl,hb3⟩;have hb4:Below w.heap.size w w3:=HB2.out.trans (hb3.mono (by simp;omega))
  clear hb3;go_wp2
  go_ret
  exact⟨zAD HE.out.symm,hb4⟩
 ·
  have HL:Hid (own.length=3):=by
   have h:=HFO.out;unfold zCJ at h;rw[HKD.out] at h;simp at h;exact HOL.out.trans h.2.1
  obtain⟨p,q,r,rfl⟩:∃p q r,own=[p,q,r]:=by
   match own,HL.out with
   | [p,q,r],_=>exact⟨p,q,r,rfl⟩
  obtain⟨b,off,rfl,hb,e0⟩:=H6.out 0 p rfl;obtain⟨b',off',hab,hb',e1⟩:=H6.out 1 q rfl;cases hab
  obtain⟨b',off',hab,hb',e2⟩:=H6.out 2 r rfl;cases hab
  rw[Nat.add_zero] at e0;have HE:Hid (R=(p * q==r)):=by rw[←HR.out];unfold zAR;rw[HKD.out,HOWN.out];rfl
  obtain⟨g1,g2⟩:=zHQ p q (by have:=HOB.out p (by simp);omega) (by have:=HOB.out p (by simp);omega) (HOB.out q (by simp)).1 (HOB.out q (by simp)).2
  go_wp2
  go_quiet (fail)
  go_wp2
  go_ret
  exact⟨zAD HE.out.symm,below_drewN HB2.out _⟩
 ·
  have HL:Hid (2≤own.length):=by
   have h:=HFO.out;unfold zCJ at h;rw[HKD.out] at h;simp at h;have:=HOL.out;show 2≤_;omega
  obtain⟨p,q,r,rfl⟩:∃p q r,own=p :: q :: r:=by
   match own,HL.out with
   | p :: q :: r,_=>exact⟨p,q,r,rfl⟩
  obtain⟨b,off,rfl,hb,e0⟩:=H6.out 0 p rfl;rw[Nat.add_zero] at e0;have HE:Hid (R=(p==r.foldl max q)):=by rw[←HR.out];unfold zAR;rw[HKD.out,HOWN.out];rfl
  obtain⟨n,hn⟩:∃n,(p :: q :: r).length=n:=⟨_,rfl⟩;have hn2:2≤n:=by rw[←hn];simp
  have HT:Hid (IArg w1 (.slice (some ⟨b,off+1,none⟩) (n - 1) (c6 - 1)) (q :: r)):=by
   refine⟨_,_,by rw[←hn];rfl,⟨by rw[←hn] at *;simp at *;omega,by unfold maxLen;omega⟩,fun i z hz=>?_⟩
   obtain⟨b',off',hab,hb',e1⟩:=H6.out (i+1) z (by simpa using hz)
   cases hab
   exact⟨b,off+1,rfl,hb,by rw[Nat.add_assoc,Nat.add_comm 1 i];exact e1⟩
  rw[hn] at hm61 HB2 ⊢;clear hn;go_wp2
  go_quiet ((go_at_call 169;exact (zO5 q r _ _ (IArg.below (below_drewN (zAA _ _) _) HT.out)).mono (fun _ _ h=>⟨h.1,_,h.2⟩)))
  go_wp2
  go_ret
  exact⟨zAD HE.out.symm,below_drewN HB2.out _⟩
 ·
  have HE:Hid (R=c.lits.any (litB vals)):=by rw[←HR.out];unfold zAR;rw[HKD.out];rfl
  go_wp2_with fail
  refine (zHS c.lits vals _ _ _ ((HKA.out _ HB2.out).2.2.2) (HVA.out _ HB2.out) HLI.out).mono ?_;rintro e w3 ⟨rfl,hb3⟩;have hb4:Below w.heap.size w w3:=HB2.out.trans (hb3.mono (by simp;omega))
  clear hb3;go_wp2
  go_ret
  exact⟨zAD HE.out.symm,hb4⟩
 ·
  have HFF:Hid (own.length=1∧c.lits.length=1):=by
   have h:=HFO.out;unfold zCJ at h;rw[HKD.out] at h;simp at h;exact⟨HOL.out.trans h.2.1,h.2.2.1⟩
  obtain⟨p,rfl⟩:∃p,own=[p]:=by
   match own,HFF.out.1 with
   | [p],_=>exact⟨p,rfl⟩
  obtain⟨l,hl⟩:∃l,c.lits=[l]:=by
   match c.lits,HFF.out.2 with
   | [l],_=>exact⟨l,rfl⟩
  obtain⟨b,off,rfl,hb,e0⟩:=H6.out 0 p rfl;rw[Nat.add_zero] at e0;have HE:Hid (R=(p==(if litB vals l then 1 else 0))):=by rw[←HR.out];unfold zAR;rw[HKD.out,HOWN.out,hl];rfl
  obtain⟨a2',c2',hva,_,hrc⟩:=(HKA.out _ HB1.out).2.2.2;obtain⟨b2,off2,hax,hb2,g0,g1,g2⟩:=hrc 0 l (by rw[hl];rfl)
  have ha2:a4=some ⟨b2,off2,none⟩:=by cases hva;exact hax
  subst ha2;simp only[Nat.zero_mul,Nat.add_zero] at g0 g1 g2;have HLL:=HLI.out l (by rw[hl];simp)
  have hlen:c.lits.length=1:=by rw[hl];rfl
  obtain⟨j,hj⟩:∃j:Nat,l.var=(j:Int):=⟨l.var.toNat,by omega⟩
  have hjl:j<vals.length:=by omega
  obtain⟨y,hy⟩:∃y,vals[j]? = some y:=⟨vals[j],by simp[hjl]⟩
  obtain⟨a7,c7,hva7,hm7,hrc7⟩:=HVA.out _ HB1.out;obtain⟨b7,off7,hax7,hb7,g7⟩:=hrc7 j y hy;have ha5:a5=some ⟨b7,off7,none⟩:=by cases hva7;exact hax7
  have hm75:vals.length≤c5∧c5≤maxLen:=by cases hva7;exact hm7
  unfold maxLen at hm75;obtain⟨hm71,hm72⟩:=hm75;subst ha5;obtain⟨B,HB⟩:∃B:Bool,Hid (litB vals l=B):=⟨_,rfl⟩;rw[HB.out] at HE;have HBV:Hid (litV y l=B):=by
   have h:=HB.out;unfold litB at h;rwa [hj,zFf vals j y hy] at h
  obtain⟨N,hN⟩:∃N:Int,(if B then (1:Int) else 0)=N:=⟨_,rfl⟩
  have HOI:Hid (∀W':World,Calls Tryz.prog 171 #[.bool B] W' fun e w'=>e=.returned (.int .i64 N)∧w'=W'):=by
   intro W';rw[←hN];exact zKM B W'
  rw[hN] at HE;clear hN;obtain⟨W,hW⟩:∃W:World,W=w1.alloc (.cells #[.slice (some ⟨b,off,none⟩) 1 c6] 42):=⟨_,rfl⟩;have HW:Hid (W=w1.alloc (.cells #[.slice (some ⟨b,off,none⟩) 1 c6] 42)):=hW;have HB2W:Hid (Below w.heap.size w W):=by rw[hW];exact HB2.out
  have HCL:Hid (∀wq:World,Below W.heap.size W wq→Calls Tryz.prog 172 #[.agg #[.int .i64 (j:Int),.int .i64 l.op,.int .i64 l.n],.int .i64 y] wq fun e w'=>e=.returned (.bool B)∧Below W.heap.size W w'):=by
   intro wq hq;rw[←hj];refine (zG3 l y wq).mono ?_;rintro e w' ⟨rfl,hb⟩;exact⟨by rw[HBV.out],hq.trans (hb.mono hq.size)⟩
  have k0:W.cell? ⟨w1.heap.size,0,none⟩=some (.slice (some ⟨b,off,none⟩) 1 c6):=by rw[hW];simp
  have k1:W.cell? ⟨b,off,none⟩=some (.int .i64 p):=by rw[hW];exact (World.cell?_alloc_past _ _ _ hb).trans e0
  have k2:W.cell? ⟨w.heap.size,5,none⟩=some (.slice (some ⟨b2,off2,none⟩) 1 c4):=by rw[hW,←hlen];exact (World.cell?_alloc_past _ _ _ hl0).trans d5
  have k3:W.cell? ⟨b2,off2,none⟩=some (.int .i64 (j:Int)):=by rw[hW,←hj];exact (World.cell?_alloc_past _ _ _ hb2).trans g0
  have k4:W.cell? ⟨b2,off2+1,none⟩=some (.int .i64 l.op):=by rw[hW];exact (World.cell?_alloc_past _ _ _ hb2).trans g1
  have k5:W.cell? ⟨b2,off2+2,none⟩=some (.int .i64 l.n):=by rw[hW];exact (World.cell?_alloc_past _ _ _ hb2).trans g2
  have k7:W.cell? ⟨b7,off7+j,none⟩=some (.int .i64 y):=by rw[hW];exact (World.cell?_alloc_past _ _ _ hb7).trans g7
  have hsW:W.heap.size=w1.heap.size+1:=by rw[hW];simp
  have HSW:Hid (W.heap.size=w1.heap.size+1):=hsW;clear hW hsW hva hrc hax hl hva7 hrc7 hax7 hm7 hy hj;go_wp2
  rw[←HW.out];clear d0 d2 d3 d4 d5 e0 g0 g1 g2 g7 H6 HX HKA HVA HVI HLI HCI HOB HFO HFF HOL HOWN HLL HR HKD HB1 hm21 hm41 hm2 hm4 hm61 hm6;refine zEW (by kernel_rfl) (by kernel_rfl) ?_
  go_big_quiet_want
  refine⟨.slice (some ⟨b,off,none⟩) 1 c6,fun wq hq=>?_,?_⟩
  ·have h0:=(hq.cell (p:=⟨w1.heap.size,0,none⟩) (by have:=HSW.out;simp only;omega)).trans k0
   simp[Oper.quietAt,go_sem,h0]
  go_simp
  go_big_quiet_on
  go_big_quiet_want
  go_big_quiet_op
  first | go_big_quiet_on | (refine⟨_,fun _ _=>rfl,?_⟩;go_big_quiet_on)
  go_big_quiet_want
  refine⟨.int .i64 p,fun wq hq=>?_,?_⟩
  ·have h0:=(hq.cell (p:=⟨b,off,none⟩) (by have:=HSW.out;simp only;omega)).trans k1
   simp[Oper.quietAt,go_sem,h0]
  go_simp
  go_big_quiet_on
  go_big_quiet_want
  go_big_quiet_op
  first | go_big_quiet_on | (refine⟨_,fun _ _=>rfl,?_⟩;go_big_quiet_on)
  go_big_quiet_want
  refine⟨.slice (some ⟨b2,off2,none⟩) 1 c4,fun wq hq=>?_,?_⟩
  ·have h0:=(hq.cell (p:=⟨w.heap.size,5,none⟩) (by have:=HSW.out;simp only;omega)).trans k2
   simp[Oper.quietAt,go_sem,h0]
  go_simp
  go_big_quiet_on
  go_big_quiet_want
  go_big_quiet_op
  first | go_big_quiet_on | (refine⟨_,fun _ _=>rfl,?_⟩;go_big_quiet_on)
  go_big_quiet_want
  refine⟨.agg #[.int .i64 (j:Int),.int .i64 l.op,.int .i64 l.n],fun wq hq=>?_,?_⟩
  ·have h0:=(hq.cell (p:=⟨b2,off2,none⟩) (by have:=HSW.out;simp only;omega)).trans k3
   have h1:=(hq.cell (p:=⟨b2,off2+1,none⟩) (by have:=HSW.out;simp only;omega)).trans k4
   have h2:=(hq.cell (p:=⟨b2,off2+2,none⟩) (by have:=HSW.out;simp only;omega)).trans k5
   simp[Oper.quietAt,go_sem,h0,h1,h2]
  go_simp
  go_big_quiet_on
  go_big_quiet_want
  go_big_quiet_op
  first | go_big_quiet_on | (refine⟨_,fun _ _=>rfl,?_⟩;go_big_quiet_on)
  go_big_quiet_want
  go_big_quiet_op
  first | go_big_quiet_on | (refine⟨_,fun _ _=>rfl,?_⟩;go_big_quiet_on)
  go_big_quiet_want
  refine⟨.slice (some ⟨b2,off2,none⟩) 1 c4,fun wq hq=>?_,?_⟩
  ·have h0:=(hq.cell (p:=⟨w.heap.size,5,none⟩) (by have:=HSW.out;simp only;omega)).trans k2
   simp[Oper.quietAt,go_sem,h0]
  go_simp
  go_big_quiet_on
  go_big_quiet_want
  go_big_quiet_op
  first | go_big_quiet_on | (refine⟨_,fun _ _=>rfl,?_⟩;go_big_quiet_on)
  go_big_quiet_want
  go_big_quiet_op
  first | go_big_quiet_on | (refine⟨_,fun _ _=>rfl,?_⟩;go_big_quiet_on)
  go_big_quiet_want
  refine⟨.int .i64 (j:Int),fun wq hq=>?_,?_⟩
  ·have h0:=(hq.cell (p:=⟨b2,off2,none⟩) (by have:=HSW.out;simp only;omega)).trans k3
   simp[Oper.quietAt,go_sem,h0]
  go_simp
  go_big_quiet_on
  go_big_quiet_want
  go_big_quiet_op
  first | go_big_quiet_on | (refine⟨_,fun _ _=>rfl,?_⟩;go_big_quiet_on)
  go_big_quiet_want
  refine⟨.int .i64 y,fun wq hq=>?_,?_⟩
  ·have h0:=(hq.cell (p:=⟨b7,off7+j,none⟩) (by have:=HSW.out;simp only;omega)).trans k7
   simp[Oper.quietAt,go_sem,h0]
  go_simp
  go_big_quiet_on
  go_big_quiet_want
  refine⟨.bool B,fun wq hq=>?_,?_⟩
  ·simp[Oper.quietAt,go_sem]
   exact HCL.out wq hq
  go_simp
  go_big_quiet_on
  go_big_quiet_want
  refine⟨.int .i64 N,fun wq hq=>?_,?_⟩
  ·simp[Oper.quietAt,go_sem]
   exact (HOI.out wq).mono (fun e w' h=>⟨h.1,by rw[h.2];exact hq⟩)
  go_simp
  go_big_quiet_on
  go_big_quiet_want
  go_big_quiet_op
  first | go_big_quiet_on | (refine⟨_,fun _ _=>rfl,?_⟩;go_big_quiet_on)
  go_big_quiet_want
  go_big_quiet_op
  first | go_big_quiet_on | (refine⟨_,fun _ _=>rfl,?_⟩;go_big_quiet_on)
  refine wpQuiet_nil ?_;intro w' hw';have hb4:Below w.heap.size w w':=HB2W.out.trans (hw'.mono HB2W.out.size);clear hw';go_wp2
  go_ret
  exact⟨zAD HE.out.symm,hb4⟩
end Go.Proofs.YtndcpnlaadikoaaGreatDoor
