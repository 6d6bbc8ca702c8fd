/- What the proof leans on, part 18. -/
import Derived.Test.YtdjbejlbmaiocafGreatDoorPartAq
namespace Go.Proofs.YtdjbejlbmaiocafGreatDoor
def Sol (m:Mod) (x:List Int):Prop:=zCL m.vars x∧∀c∈m.cons,zAN c x=true
def zJB (m:Mod) (G:List Int→Prop) (S:Sk):Prop:=∀x,Sol m x→G x→∀c∈S.cs,Hits m.vars x c
theorem zKN (vs:List MVar) (hv:zAW vs) (i:Nat):(zAR vs []).testBit i=false:=by
 unfold zAR ofP
 rw[zAf vs hv]
 simp[oneB]
theorem zFc (vs:List MVar) (cs:List Nat) (pt:List (List Nat)) (c:Cla) (h:zAs vs cs pt c=true):zAs vs cs pt (zBF vs cs pt c)=true:=zDm _ _ c h
theorem zH8 (m:Mod) (hm:zAI m=0) (G:List Int→Prop) (S:Sk) (hs:zJB m G S) (hz:zAT m.vars (ptsM m) S=0) :
 zJB m G (zAk m.vars (ptsM m) S).2∧((zAk m.vars (ptsM m) S).1=2→∀x,Sol m x→¬G x):=by
 have hn:zAs m.vars S.cs (ptsM m) (zBF m.vars S.cs (ptsM m) S.path)=true:=zFc _ _ _ _ (by unfold zAs;unfold zAT at hz;rw[hz];rfl)
 have hl:∀x,Sol m x→G x→Hits m.vars x (zAR m.vars (zBF m.vars S.cs (ptsM m) S.path)):=fun x hx hg=>zFb m hm x hx.1 hx.2 S.cs (hs x hx hg) _ hn
 unfold zAk
 split
 ·exact⟨hs,fun h=>by cases h⟩
 ·split
  ·exact⟨hs,fun h=>by cases h⟩
  ·split
   ·rename_i hc
    refine⟨hs,fun _ x hx hg=>?_⟩
    obtain⟨v,_,hb⟩:=hl x hx hg
    rw[List.length_eq_zero_iff.1 hc,zKN m.vars (zBw m hm)] at hb
    cases hb
   ·refine⟨fun x hx hg c hc=>?_,fun h=>by cases h⟩
    rcases List.mem_append.1 hc with hc | hc
    ·exact hs x hx hg c hc
    ·rw[List.mem_singleton.1 hc];exact hl x hx hg
theorem zEZ (vs:List MVar) (cs:List Nat) (pt:List (List Nat)):∀(f l:Nat),l<f→l<2 ^ 36→zAe pt (zAU vs cs (zAo vs cs pt f l))=zAo vs cs pt f l
 | 0,l,hf,_=>by omega
 | f+1,l,hf,h=>by
   unfold zAo
   split
   ·assumption
   ·have:=zCW vs cs pt l h
    exact zEZ vs cs pt f _ (by omega) (by omega)
theorem zH9 (vs:List MVar) (hv:zAW vs) (cs:List Nat) (pt:List (List Nat)) (h:Nat) (hn:zA1 vs cs pt h≠0):zAe pt (zAU vs cs (zA1 vs cs pt h))=zA1 vs cs pt h:=by
 unfold zA1 at hn ⊢
 split
 ·rename_i hc;rw[if_pos hc] at hn;exact absurd rfl hn
 ·exact zEZ vs cs pt _ _ (Nat.lt_succ_self _) (zBN 36 _ _ (zCi vs hv))
theorem zF5:∀(pt:List (List Nat)) (l:Nat),l<2 ^ 36→l≠0→zAe pt l=l→∀pts∈pt,zBb pts l=l
 | [],l,_,_,_=>fun pts hp=>by cases hp
 | pts :: r,l,h,hn,he=>by
   unfold zAe at he
   rw[if_neg hn] at he
   have h1:=zEP pts l h
   have h2:=zDG r (zBb pts l) (by omega)
   have h3:zBb pts l=l:=by omega
   rw[h3] at he
   intro q hq
   rcases List.mem_cons.1 hq with rfl | hq
   ·exact h3
   ·exact zF5 r l h hn he q hq
theorem zEa:∀(cs:List Nat) (l:Nat),zAX cs l=some l→∀c∈cs,l &&& c≠0
 | [],l,_=>fun c hc=>by cases hc
 | c :: r,l,h=>by
   unfold zAX at h
   split at h
   ·cases h
   ·rename_i h0
    split at h
    ·have h1:=zBv r _ l h
     have h2:=zGm l (zAM (zAV (l &&& c)) (l &&& c))
     have h3:zAM l (zAM (zAV (l &&& c)) (l &&& c))=l:=by omega
     rw[h3] at h
     intro q hq
     rcases List.mem_cons.1 hq with rfl | hq
     ·exact h0
     ·exact zEa r l h q hq
    ·intro q hq
     rcases List.mem_cons.1 hq with rfl | hq
     ·exact h0
     ·exact zEa r l h q hq
theorem zJC (vs:List MVar) (cs:List Nat) (l:Nat) (hn:l≠0) (h:zAU vs cs l=l):zBf vs.length l=false∧∀c∈cs,l &&& c≠0:=by
 unfold zAU at h
 split at h
 ·exact absurd h.symm hn
 ·rename_i hk
  refine⟨by simpa using hk,?_⟩
  rw[zFB] at h
  cases hr:zAX cs l with
  | none=>rw[hr] at h;exact absurd h.symm hn
  | some l' =>
    rw[hr] at h
    simp only at h
    split at h
    ·rename_i he
     rw[he] at hr
     exact zEa cs l hr
    ·have h1:=zBv cs l l' hr
     have h2:=zEL cs (l'+1) l'
     have h3:l'≠l:=by assumption
     exact absurd (by omega:l'=l) h3
theorem zJD (n p:Nat) (h:zBf n p=false) (v:Nat) (hv:v<n):∃k,k<6∧p.testBit (6 * v+k)=true:=by
 unfold zBf at h
 rw[List.any_eq_false] at h
 have h1:=h v (List.mem_range.2 hv)
 have h2:p / 2 ^ (v * 6) &&& 63≠0:=by simpa using h1
 apply Classical.byContradiction
 intro hn
 apply h2
 apply Nat.eq_of_testBit_eq
 intro i
 rw[Nat.testBit_and,Nat.zero_testBit,zDX,Nat.testBit_div_two_pow]
 by_cases hi:i<6
 ·cases hb:p.testBit (i+v * 6)
  ·rfl
  ·exact absurd ⟨i,hi,by rw[show 6 * v+i=i+v * 6 by omega];exact hb⟩ hn
 ·simp[hi]
theorem zIA (vs:List MVar) (hv:zAW vs) (l:Nat) (hw:∀i,l.testBit i=true→(zAG vs).testBit i=true) (hk:zBf vs.length l=false) (hf:zAp (zAP vs l)<0) :
 zCL vs (zAP vs l).flatten∧zAy vs (zAP vs l).flatten l∧∀i,l.testBit i=true→∃v,v<vs.length∧i=posV vs (zAP vs l).flatten v:=by
 have hlen:=zDa vs l
 have hone:∀v,v<vs.length→∃x,(zAP vs l)[v]? = some [x]∧∃i,i<36∧l.testBit i=true∧i / 6=v∧x=(zAE vs v).lo+((i % 6:Nat):Int):=fun v hvl=>by
  obtain⟨k,hk6,hb⟩:=zJD vs.length l hk v hvl
  have hi36:6 * v+k<36:=by have:=hv.1;omega
  have hx:(zAE vs v).lo+((k:Nat):Int)∈(zAP vs l).getD v []:=(zDb vs l v hvl _).2 ⟨6 * v+k,hi36,hb,by omega,by congr 2;omega⟩
  have hg:(zAP vs l)[v]? = some ((zAP vs l).getD v []):=by rw[List.getD_eq_getElem?_getD,List.getElem?_eq_getElem (by omega)];rfl
  have h1:=zGx _ hf _ (List.mem_of_getElem? hg)
  match hr:(zAP vs l).getD v [] with
  | []=>rw[hr] at hx;cases hx
  | [x] =>
    rw[hr] at hg hx
    refine⟨x,hg,6 * v+k,hi36,hb,by omega,?_⟩
    have h2:(zAE vs v).lo+((k:Nat):Int)=x:=by simpa using hx
    rw[←h2]
    congr 2;omega
  | x :: y :: t=>rw[hr] at h1;simp at h1
 have hflat:∀(s:Sto),(∀v:Nat,v<s.length→∃x:Int,s[v]? = some [x])→s.flatten.length=s.length∧∀(v:Nat) (x:Int),s[v]? = some [x]→s.flatten[v]? = some x:=by
  intro s
  induction s with
  | nil=>intro _;exact⟨rfl,fun v x h=>by simp at h⟩
  | cons a r ih =>
    intro h
    obtain⟨x,hx⟩:=h 0 (by simp)
    have ha:a=[x]:=by simpa using hx
    subst ha
    obtain⟨i1,i2⟩:=ih fun v hv=>by
     obtain⟨y,hy⟩:=h (v+1) (by simp;omega)
     exact⟨y,by simpa using hy⟩
    refine⟨by simp[i1],fun v y hy=>?_⟩
    cases v with
    | zero=>simpa using hy
    | succ v=>simpa using i2 v y (by simpa using hy)
 obtain⟨f1,f2⟩:=hflat (zAP vs l) fun v hvl=>(hone v (by omega)).imp fun x hx=>hx.1
 have hval:∀v,v<vs.length→∃i,i<36∧l.testBit i=true∧i / 6=v∧zAY (zAP vs l).flatten (v:Int)=(zAE vs v).lo+((i % 6:Nat):Int):=fun v hvl=>by
  obtain⟨x,h1,i,h2,h3,h4,h5⟩:=hone v hvl
  refine⟨i,h2,h3,h4,?_⟩
  unfold zAY
  rw[Int.toNat_natCast,List.getD_eq_getElem?_getD,f2 v x h1]
  exact h5
 have hsz:∀i,l.testBit i=true→i / 6<vs.length∧i % 6<zBH (zAE vs (i / 6)):=fun i hi=>by
  have:=hw i hi
  unfold zAG ofP at this
  rw[zAf vs hv] at this
  simp only[Bool.and_eq_true,decide_eq_true_eq] at this
  exact⟨this.1,this.2.1⟩
 have hmb:zCL vs (zAP vs l).flatten:=⟨by rw[f1,hlen],fun v hvl=>by
  obtain⟨i,_,h2,h3,h4⟩:=hval v hvl
  have:=(hsz i h2).2
  rw[h3] at this
  unfold zBH at this
  rw[h4]
  omega⟩
 have hpos:∀v,v<vs.length→∃i,l.testBit i=true∧i=posV vs (zAP vs l).flatten v:=fun v hvl=>by
  obtain⟨i,_,h2,h3,h4⟩:=hval v hvl
  refine⟨i,h2,?_⟩
  unfold posV
  rw[h4]
  omega
 refine⟨hmb,fun v hvl=>?_,fun i hi=>?_⟩
 ·obtain⟨i,h1,h2⟩:=hpos v hvl
  rw[←h2];exact h1
 ·refine⟨i / 6,(hsz i hi).1,?_⟩
  obtain⟨x,h1,j,j1,j2,j3,j4⟩:=hone (i / 6) (hsz i hi).1
  have hx:(zAE vs (i / 6)).lo+((i % 6:Nat):Int)∈(zAP vs l).getD (i / 6) []:=(zDb vs l _ (hsz i hi).1 _).2 ⟨i,by have:=(hsz i hi).1;have:=hv.1;omega,hi,rfl,rfl⟩
  rw[List.getD_eq_getElem?_getD,h1] at hx
  have hxx:(zAE vs (i / 6)).lo+((i % 6:Nat):Int)=x:=by simpa using hx
  obtain⟨k,_,k2⟩:=hpos (i / 6) (hsz i hi).1
  unfold posV
  unfold zAY
  rw[Int.toNat_natCast,List.getD_eq_getElem?_getD,f2 _ x h1]
  simp only[Option.getD_some]
  omega
theorem zJE {n:Nat} (h:n≠0):∃i,n.testBit i=true:=by
 apply Classical.byContradiction
 intro hn
 apply h
 apply Nat.eq_of_testBit_eq
 intro i
 rw[Nat.zero_testBit]
 cases hb:n.testBit i
 ·rfl
 ·exact absurd ⟨i,hb⟩ hn
theorem zGz (m:Mod) (hm:zAI m=0) (S:Sk) (hl:zAT m.vars (ptsM m) S≠0) (hf:zAp (zAP m.vars (zAT m.vars (ptsM m) S))<0) :
 Sol m (zAP m.vars (zAT m.vars (ptsM m) S)).flatten∧∀c∈S.cs,Hits m.vars (zAP m.vars (zAT m.vars (ptsM m) S)).flatten c:=by
 have hv:=zBw m hm
 have hfix:=zH9 m.vars hv S.cs (ptsM m) (zAR m.vars S.path) hl
 have h36:=zI6 m.vars hv S.cs (ptsM m) (zAR m.vars S.path)
 have hsub:∀i,(zAT m.vars (ptsM m) S).testBit i=true→(zAG m.vars).testBit i=true:=fun i hi=>(zCj m.vars hv _ _ _ i hi).1
 change zAe (ptsM m) (zAU m.vars S.cs (zAT m.vars (ptsM m) S))=zAT m.vars (ptsM m) S at hfix
 change zAT m.vars (ptsM m) S<2 ^ 36 at h36
 generalize zAT m.vars (ptsM m) S=l at *
 have h1:=zDD m.vars S.cs l
 have h2:=zDG (ptsM m) (zAU m.vars S.cs l) (by omega)
 have hu:zAU m.vars S.cs l=l:=by omega
 rw[hu] at hfix
 obtain⟨hk,hcl⟩:=zJC m.vars S.cs l hl hu
 obtain⟨b1,b2,b3⟩:=zIA m.vars hv l hsub hk hf
 generalize (zAP m.vars l).flatten=x at *
 refine⟨⟨b1,fun c hc=>?_⟩,fun c hc=>?_⟩
 ·have hp:=zF5 (ptsM m) l h36 hl hfix (zAj m.vars c) (List.mem_map.2 ⟨c,hc,rfl⟩)
  obtain⟨j,hj,he⟩:=List.getElem_of_mem hc
  obtain⟨k1,k2⟩:=zBu m hm j c (by rw[List.getElem?_eq_getElem hj,he])
  have hfd:(zBQ l (zAj m.vars c) (0,0,false)).2.2=true:=by
   cases hq:(zBQ l (zAj m.vars c) (0,0,false)).2.2
   ·unfold zBb at hp
    rw[hq] at hp
    exact absurd hp.symm hl
   ·rfl
  rcases (zC1 l _ _).1 hfd with h | ⟨q,hq,hz⟩
  ·cases h
  ·obtain⟨u,l1,l2,l3,_,_,l6⟩:=zC0 m.vars c _ _ _ q k1 (by simp[zAn]) hq
   rw[←zCx c u x (fun v hvs=>?_) k2]
   ·exact l2
   ·have hb:=(zCV _ _).1 hz _ (l6 v hvs)
    obtain⟨v',hv',hpos⟩:=b3 _ hb
    have hp1:=zBk m.vars hv x b1 v' hv'
    have h3:=l3 v hvs
    have h4:=k1 v hvs
    have h6:=hv.2 v.toNat
    unfold zBH at h6
    rw[←hpos] at hp1
    have hvv:v'=v.toNat:=by omega
    subst hvv
    rw[Int.toNat_of_nonneg h4.1] at hp1
    omega
 ·have hne:=hcl c hc
  obtain⟨i,hi⟩:=zJE hne
  rw[Nat.testBit_and,Bool.and_eq_true] at hi
  obtain⟨v,hvl,hpos⟩:=b3 i hi.1
  exact⟨v,hvl,by rw[←hpos];exact hi.2⟩
theorem zDc (m:Mod) (hm:zAI m=0) (G:List Int→Prop):∀(N:Nat) (S:Sk),zBZ m.vars S<N→zJB m G S →
 zJB m G (zA4 m.vars (ptsM m) S).2.2∧((zA4 m.vars (ptsM m) S).1=1→Sol m (zA4 m.vars (ptsM m) S).2.1∧(∀c∈(zA4 m.vars (ptsM m) S).2.2.cs,Hits m.vars (zA4 m.vars (ptsM m) S).2.1 c)∧∀c∈S.cs,c∈(zA4 m.vars (ptsM m) S).2.2.cs) ∧
  ((zA4 m.vars (ptsM m) S).1=2→∀x,Sol m x→¬G x)∧((zA4 m.vars (ptsM m) S).1=1∨(zA4 m.vars (ptsM m) S).1=2∨(zA4 m.vars (ptsM m) S).1=3)∧((zA4 m.vars (ptsM m) S).1≠1→(zA4 m.vars (ptsM m) S).2.1=[])
 | 0,S,h,_=>by omega
 | N+1,S,h,hs=>by
   rw[zDM m.vars (zBw m hm)]
   split
   ·rename_i hz
    obtain⟨t1,t2⟩:=zH8 m hm G S hs hz
    split
    ·rename_i h0
     obtain⟨n1,n2,n3,n4⟩:=zDc m hm G N _ (by have:=zCZ m.vars (ptsM m) S h0;omega) t1
     refine⟨n1,fun hv=>?_,n3,n4⟩
     obtain⟨k1,k2,k3⟩:=n2 hv
     refine⟨k1,k2,fun c hc=>k3 c ?_⟩
     unfold zAk at h0 ⊢
     split
     ·exact hc
     ·split
      ·exact hc
      ·split
       ·exact hc
       ·exact List.mem_append_left _ hc
    ·rename_i h0
     have h3:(zAk m.vars (ptsM m) S).1=0∨(zAk m.vars (ptsM m) S).1=2∨(zAk m.vars (ptsM m) S).1=3:=by
      unfold zAk
      split
      ·exact Or.inr (Or.inr rfl)
      ·split
       ·exact Or.inr (Or.inr rfl)
       ·split
        ·exact Or.inr (Or.inl rfl)
        ·exact Or.inl rfl
     refine⟨t1,fun hv=>?_,t2,?_,fun _=>rfl⟩
     ·simp only at hv
      omega
     ·simp only
      omega
   ·rename_i hz
    split
    ·rename_i hf
     obtain⟨f1,f2⟩:=zGz m hm S hz hf
     exact⟨hs,fun _=>⟨f1,f2,fun c hc=>hc⟩,(fun h=>by cases h),Or.inl rfl,(fun h=>absurd rfl h)⟩
    ·rename_i hf
     exact zDc m hm G N _ (by have:=zDK m.vars (zBw m hm) (ptsM m) S hf;omega) hs
def zA5 (c:MCon):Nat:=((zAQ c).getLastD 0).toNat
def dueP (cons:List MCon) (v:Nat):List MCon:=cons.filter fun c=>zA5 c==v
def zCB (lo hi:Int):List Int:=(List.range (hi+1 - lo).toNat).map fun (i:Nat)=>lo+(i:Int)
def okD (cons:List MCon) (v:Nat) (u:List Int):Bool:=!((dueP cons v).any fun c=>!zAN c u)
def zBp (vs:List MVar) (cons:List MCon):Nat→List Int→List (List Int)
 | 0,pre=>[pre]
 | k+1,pre=>(zCB (zAE vs pre.length).lo (zAE vs pre.length).hi).flatMap fun x=>if okD cons pre.length (pre++[x]) then zBp vs cons k (pre++[x]) else []
def runT {σ:Type} (tell:σ→List Int→Bool×σ):List (List Int)→σ→Bool×σ
 | [],s=>(true,s)
 | x :: l,s=>if (tell s x).1 then runT tell l (tell s x).2 else (false,(tell s x).2)
theorem zEb {σ:Type} (tell:σ→List Int→Bool×σ):∀(a b:List (List Int)) (s:σ),runT tell (a++b) s=if (runT tell a s).1 then runT tell b (runT tell a s).2 else runT tell a s
 | [],b,s=>by simp[runT]
 | x :: a,b,s=>by
   rw[List.cons_append,runT,runT]
   split
   ·exact zEb tell a b _
   ·rw[if_neg (by simp)]
def zCH (s:List (List Int)) (x:List Int):Bool×List (List Int):=if s.length=200 then (false,s) else (true,s++[x])
theorem zF6:∀(l s:List (List Int)),s.length≤200→runT zCH l s=(decide (s.length+l.length≤200),(s++l).take 200)
 | [],s,h=>by
   rw[runT,List.append_nil,List.take_of_length_le h]
   simp[h]
 | x :: l,s,h=>by
   rw[runT]
   unfold zCH
   by_cases h2:s.length=200
   ·rw[if_pos h2]
    simp only[Bool.false_eq_true,if_false]
    rw[List.take_append_of_le_length (by omega),List.take_of_length_le h]
    simp[h2]
   ·rw[if_neg h2]
    simp only[if_true]
    have:=zF6 l (s++[x]) (by rw[List.length_append];simp;omega)
    unfold zCH at this
    rw[this,List.append_assoc]
    simp[Nat.add_assoc,Nat.add_comm 1]
def allL (m:Mod):List (List Int):=zBp m.vars m.cons m.vars.length []
def zDx (m:Mod):List (List Int)×Bool×Int:=if zAI m=0 then ((allL m).take 200,decide ((allL m).length≤200),0) else ([],false,zAI m)
theorem zF7 (lo hi x:Int):x∈zCB lo hi↔lo≤x∧x≤hi:=by
 unfold zCB
 rw[List.mem_map]
 constructor
 ·rintro ⟨i,hi,rfl⟩
  rw[List.mem_range] at hi
  omega
 ·intro h
  exact⟨(x - lo).toNat,List.mem_range.2 (by omega),by omega⟩
theorem zFd (vs:List MVar) (cons:List MCon):∀(k:Nat) (pre u:List Int),u∈zBp vs cons k pre ↔
 (u.length=pre.length+k∧u.take pre.length=pre∧∀v,pre.length≤v→v<pre.length+k→((zAE vs v).lo≤zAY u (v:Int)∧zAY u (v:Int)≤(zAE vs v).hi)∧okD cons v (u.take (v+1))=true)
 | 0,pre,u=>by
   simp only[zBp,List.mem_singleton,Nat.add_zero]
   constructor
   ·rintro rfl
    exact⟨rfl,List.take_length,fun v h1 h2=>by omega⟩
   ·rintro ⟨h1,h2,_⟩
    rw[←h2,List.take_of_length_le (by omega)]
 | k+1,pre,u=>by
   simp only[zBp,List.mem_flatMap]
   constructor
   ·rintro ⟨x,hx,hu⟩
    by_cases ho:okD cons pre.length (pre++[x])=true
    ·rw[if_pos ho] at hu
     obtain⟨h1,h2,h3⟩:=(zFd vs cons k (pre++[x]) u).1 hu
     rw[List.length_append,List.length_singleton] at h1 h2 h3
     have ht:u.take pre.length=pre:=by
      have:=congrArg (List.take pre.length) h2
      rw[List.take_take,Nat.min_eq_left (by omega),List.take_append_of_le_length (by omega),List.take_length] at this
      exact this
     refine⟨by omega,ht,fun v hv1 hv2=>?_⟩
     by_cases hv:v=pre.length
     ·subst hv
      have hval:zAY u (pre.length:Int)=x:=by
       unfold zAY
       rw[Int.toNat_natCast,List.getD_eq_getElem?_getD]
       have:=congrArg (fun l=>l[pre.length]?) h2
       simp only[List.getElem?_take_of_lt (show pre.length<pre.length+1 by omega),List.getElem?_concat_length] at this
       rw[this];rfl
      rw[hval,h2]
      exact⟨(zF7 _ _ _).1 hx,ho⟩
     ·exact h3 v (by omega) (by omega)
    ·rw[if_neg ho] at hu;cases hu
   ·rintro ⟨h1,h2,h3⟩
    have hlt:pre.length<u.length:=by omega
    obtain⟨hr,ho⟩:=h3 pre.length (Nat.le_refl _) (by omega)
    have hval:zAY u (pre.length:Int)=u[pre.length]:=by
     unfold zAY
     rw[Int.toNat_natCast,List.getD_eq_getElem?_getD,List.getElem?_eq_getElem hlt];rfl
    have ht:u.take (pre.length+1)=pre++[u[pre.length]]:=by
     rw[List.take_add_one,List.getElem?_eq_getElem hlt,h2];rfl
    refine⟨u[pre.length],(zF7 _ _ _).2 (by rw[←hval];exact hr),?_⟩
    rw[ht] at ho
    rw[if_pos ho]
    refine (zFd vs cons k _ u).2 ⟨by rw[List.length_append,List.length_singleton];omega,by rw[List.length_append,List.length_singleton];exact ht,fun v hv1 hv2=>?_⟩
    rw[List.length_append,List.length_singleton] at hv1 hv2
    exact h3 v (by omega) (by omega)
theorem zDo (c:MCon):(zAQ c).Pairwise (·≤·):=by
 unfold zAQ zDW
 obtain⟨zs,hz⟩:∃zs,zCS (zA6 c)=zs:=⟨_,rfl⟩
 have hp:zs.Pairwise (·≤·):=by
  rw[←hz]
  unfold zCS
  have:=List.pairwise_mergeSort (le:=fun (x y:Int)=>decide (x≤y)) (fun a b c h1 h2=>by simp at *;omega) (fun a b=>by simp;omega) (zA6 c)
  exact this.imp (fun h=>by simpa using h)
 rw[hz]
 unfold Lib.compact Lib.compactUpTo
 rw[List.pairwise_map]
 refine List.Pairwise.imp_of_mem ?_ ((List.pairwise_lt_range (n:=zs.length)).filter _)
 intro a b ha hb hab
 have h1:b<zs.length:=List.mem_range.1 (List.mem_filter.1 hb |>.1)
 have h2:a<zs.length:=by omega
 have:=(List.pairwise_iff_getElem.1 hp) a b h2 h1 hab
 simpa[h1,h2] using this
theorem zHZ (l:List Int) (h:l.Pairwise (·≤·)) (v:Int) (hv:v∈l):v≤l.getLastD 0:=by
 rcases List.eq_nil_or_concat l with rfl | ⟨i,x,rfl⟩
 ·cases hv
 ·rw[List.concat_eq_append] at h hv ⊢
  rw[List.pairwise_append] at h
  have e:(i++[x]).getLastD 0=x:=by simp
  rw[e]
  rcases List.mem_append.1 hv with hv | hv
  ·exact h.2.2 v hv x (List.mem_singleton.2 rfl)
  ·rw[List.mem_singleton.1 hv];exact Int.le_refl _
theorem zJF (l:List Int) (h:l≠[]):l.getLastD 0∈l:=by
 rcases List.eq_nil_or_concat l with rfl | ⟨i,x,rfl⟩
 ·exact absurd rfl h
 ·simp
theorem zBl (m:Mod) (hm:zAI m=0) (c:MCon) (hc:c∈m.cons) (u:List Int) (k:Nat) (hk:zA5 c<k):zAN c (u.take k)=zAN c u:=by
 obtain⟨j,hj⟩:=List.mem_iff_getElem?.1 hc
 obtain⟨h1,h2⟩:=zBu m hm j c hj
 refine zCx c _ _ (fun v hv=>?_) h2
 have h3:=zHZ _ (zDo c) v hv
 have h4:=(h1 v hv).1
 unfold zA5 at hk
 unfold zAY
 rw[List.getD_eq_getElem?_getD,List.getD_eq_getElem?_getD,List.getElem?_take_of_lt (by omega)]
theorem zHa (m:Mod) (hm:zAI m=0) (c:MCon) (hc:c∈m.cons):zA5 c<m.vars.length:=by
 obtain⟨j,hj⟩:=List.mem_iff_getElem?.1 hc
 obtain⟨h1,_⟩:=zBu m hm j c hj
 unfold zA5
 by_cases he:zAQ c=[]
 ·rw[he]
  have:=(zAc m hm).1
  simp only[List.getLastD_nil]
  show (0:Nat)<_
  omega
 ·have:=h1 _ (zJF _ he)
  omega
theorem zJG (m:Mod) (hm:zAI m=0) (u:List Int):u∈allL m↔Sol m u:=by
 unfold allL
 rw[zFd]
 simp only[List.length_nil,Nat.zero_add]
 constructor
 ·rintro ⟨h1,_,h3⟩
  refine⟨⟨h1,fun v hv=>(h3 v (Nat.zero_le _) hv).1⟩,fun c hc=>?_⟩
  have hl:=zHa m hm c hc
  have h4:=(h3 (zA5 c) (Nat.zero_le _) hl).2
  rw[←zBl m hm c hc u (zA5 c+1) (by omega)]
  unfold okD at h4
  cases hh:zAN c (u.take (zA5 c+1))
  ·exfalso
   have:(dueP m.cons (zA5 c)).any (fun c'=>!zAN c' (u.take (zA5 c+1)))=true:=List.any_eq_true.2 ⟨c,List.mem_filter.2 ⟨hc,by simp⟩,by rw[hh];rfl⟩
   rw[this] at h4
   cases h4
  ·rfl
 ·rintro ⟨⟨h1,h2⟩,h3⟩
  refine⟨h1,rfl,fun v _ hv=>⟨h2 v hv,?_⟩⟩
  unfold okD
  have:(dueP m.cons v).any (fun c=>!zAN c (u.take (v+1)))=false:=by
   rw[List.any_eq_false]
   intro c hc
   obtain⟨hc1,hc2⟩:=List.mem_filter.1 hc
   have hl:zA5 c=v:=by simpa using hc2
   rw[zBl m hm c hc1 u (v+1) (by omega),h3 c hc1]
   simp
  rw[this]
  rfl
def fL (vs:List MVar) (cons:List MCon) (k:Nat) (pre:List Int) (x:Int):List (List Int):=if okD cons pre.length (pre++[x]) then zBp vs cons k (pre++[x]) else []
theorem zJH (vs:List MVar) (cons:List MCon) (k:Nat) (pre:List Int):zBp vs cons (k+1) pre=(zCB (zAE vs pre.length).lo (zAE vs pre.length).hi).flatMap (fL vs cons k pre):=rfl
theorem zJI (x hi:Int) (h:x≤hi):zCB x hi=x :: zCB (x+1) hi:=by
 unfold zCB
 have e:(hi+1 - x).toNat=(hi+1 - (x+1)).toNat+1:=by omega
 rw[e,List.range_succ_eq_map,List.map_cons,List.map_map]
 congr 1
 ·simp
 ·apply List.map_congr_left
  intro i _
  simp only[Function.comp]
  omega
theorem zKO (x hi:Int) (h:hi<x):zCB x hi=[]:=by
 unfold zCB
 have e:(hi+1 - x).toNat=0:=by omega
 rw[e];rfl
theorem zKP {α:Type} (l:List α) (p q:α→Bool) (h:∀x∈l,p x=q x):l.any p=l.any q:=by
 induction l with
 | nil=>rfl
 | cons x r ih=>rw[List.any_cons,List.any_cons,h x (List.mem_cons_self ..),ih fun y hy=>h y (List.mem_cons_of_mem _ hy)]
theorem zIB (m:Mod) (hm:zAI m=0) (v:Nat) (vals u:List Int) (h:vals.take (v+1)=u):(dueP m.cons v).any (fun c=>!zAN c vals)=!okD m.cons v u:=by
 unfold okD
 rw[Bool.not_not]
 subst h
 refine zKP _ _ _ fun c hc=>?_
 obtain⟨hc1,hc2⟩:=List.mem_filter.1 hc
 have hl:zA5 c=v:=by simpa using hc2
 rw[zBl m hm c hc1 vals (v+1) (by omega)]
end Go.Proofs.YtdjbejlbmaiocafGreatDoor
