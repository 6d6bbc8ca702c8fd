/- What the proof leans on, part 40. -/
import Derived.Test.YtndcpnlaadikoaaGreatDoorPartBm
import Derived.Test.YtndcpnlaadikoaaGreatDoorPartAt
import Derived.Test.YtndcpnlaadikoaaGreatDoorPartAr
import Derived.Test.YtndcpnlaadikoaaGreatDoorPartAp
import Derived.Test.YtndcpnlaadikoaaGreatDoorPartBa
namespace Go.Proofs.YtndcpnlaadikoaaGreatDoor
structure TellOk (vs:List MVar) (pt:List (List Nat)) (t:Nat×Nat×Nat):Prop where
 pts:∃pts,pt[t.1]? = some pts∧t.2.2=zBI pts t.2.1
 sub:SubP t.2.1 (zAC vs)
 ne:t.2.1≠0
 dif:t.2.2≠t.2.1
theorem zJs (vs:List MVar) (hv:zAb vs) (pt:List (List Nat)):∀(ptl:List (List Nat)) (k l:Nat),(∀(j:Nat) pts,ptl[j]? = some pts→pt[k+j]? = some pts)→SubP l (zAC vs)→∀t∈zCS k ptl l,TellOk vs pt t
 | [],k,l,_,_=>fun t ht=>by cases ht
 | pts :: rest,k,l,hk,hlw=>by
   intro t ht
   unfold zCS at ht
   by_cases h0:l=0
   ·rw[if_pos h0] at ht;cases ht
   ·rw[if_neg h0] at ht
    have h36:l<2 ^ 36:=Nat.lt_of_le_of_lt (Nat.le_of_testBit hlw) (zBu vs hv)
    rcases List.mem_append.1 ht with ht | ht
    ·by_cases he:zBI pts l=l
     ·rw[if_pos he] at ht;cases ht
     ·rw[if_neg he] at ht
      rw[List.mem_singleton.1 ht]
      exact⟨⟨pts,hk 0 pts rfl,rfl⟩,hlw,h0,he⟩
    ·exact zJs vs hv pt rest (k+1) (zBI pts l) (fun j q hq=>by have:=hk (j+1) q (by simpa using hq);rw[←this];congr 1;omega) (fun i hi=>hlw i (zDS pts l i h36 hi)) t ht
theorem zGa (vs:List MVar) (hv:zAb vs) (cs:List Nat) (pt:List (List Nat)):∀(f l:Nat),SubP l (zAC vs)→∀t∈zBB vs cs pt f l,TellOk vs pt t
 | 0,l,_=>fun t ht=>by cases ht
 | f+1,l,hlw=>by
   intro t ht
   unfold zBB at ht
   have h36:l<2 ^ 36:=Nat.lt_of_le_of_lt (Nat.le_of_testBit hlw) (zBu vs hv)
   rcases List.mem_append.1 ht with ht | ht
   ·exact zJs vs hv pt pt 0 _ (fun j pts hj=>by rw[Nat.zero_add];exact hj) (fun i hi=>hlw i (zCM vs cs l i hi)) t ht
   ·split at ht
    ·cases ht
    ·refine zGa vs hv cs pt f _ (fun i hi=>?_) t ht
     have:∀(ptl:List (List Nat)) (q:Nat),q<2 ^ 36→(zAs ptl q).testBit i=true→q.testBit i=true:=by
      intro ptl
      induction ptl with
      | nil=>intro q _ h;exact h
      | cons pts rest ih =>
        intro q hq h
        unfold zAs at h
        split at h
        ·exact h
        ·have:=zGv pts q hq
         exact zDS pts q i hq (ih _ (by omega) h)
     have h3:=zD6 vs cs l
     exact hlw i (zCM vs cs l i (this pt _ (by omega) hi))
theorem zJt (vs:List MVar) (hv:zAb vs) (cs:List Nat) (pt:List (List Nat)) (h:Nat):∀t∈zFQ vs cs pt h,TellOk vs pt t:=by
 intro t ht
 unfold zFQ at ht
 split at ht
 ·cases ht
 ·exact zGa vs hv cs pt _ _ (fun i hi=>((zAh _ _ _).1 hi).1) t ht
theorem zEq (vs:List MVar) (hv:zAb vs) (c:MCon) (hsc:∀v∈zAO c,0≤v∧v<(vs.length:Int)):∀(r u:List Int) (a p:Nat),(∀v∈r,0≤v∧v<(vs.length:Int))→SubP a (zAC vs)→p∈zAa vs c r u a→SubP p (zAC vs)
 | [],u,a,p,_,ha,hp=>by
   unfold zAa at hp
   split at hp
   ·rw[List.mem_singleton.1 hp];exact ha
   ·cases hp
 | v :: r,u,a,p,hr,ha,hp=>by
   unfold zAa at hp
   obtain⟨x,hx,hp⟩:=List.mem_flatMap.1 hp
   refine zEq vs hv c hsc r _ _ p (fun y hy=>hr y (List.mem_cons_of_mem _ hy)) (fun i hi=>?_) hp
   rw[Nat.testBit_or,Bool.or_eq_true,zBO] at hi
   rcases hi with hi | hi
   ·exact ha i hi
   ·have h1:6 * v.toNat+(x - (zAH vs v.toNat).lo).toNat=i:=by simpa using hi
    obtain⟨b1,b2⟩:=(zAx _ _ _).1 hx
    obtain⟨v0,v1⟩:=hr v (List.mem_cons_self ..)
    have h6:=hv.2 v.toNat
    unfold zAu at h6
    unfold zAC ofP
    rw[zAg vs hv]
    simp only[Bool.and_eq_true,decide_eq_true_eq]
    have e1:i / 6=v.toNat:=by omega
    rw[e1]
    refine⟨by omega,?_,trivial⟩
    unfold zAu
    omega
theorem zLv (m:Mod) (hm:zAP m=0) (j:Nat) (c:MCon) (hc:m.cons[j]? = some c) (l:Nat) (hlw:SubP l (zAC m.vars)) (hl0:l≠0) :
 (zBI (zAR m.vars c) l=0→zBX m.vars (zAR m.vars c) (zAF m.vars [] ||| zAJ (zAC m.vars) l)=true) ∧
 (∀b,l.testBit b=true→(zBI (zAR m.vars c) l).testBit b=false→zBI (zAR m.vars c) l≠0→zBX m.vars (zAR m.vars c) (zAF m.vars [(⟨((b / 6:Nat):Int),4,(zAH m.vars (b / 6)).lo+((b % 6:Nat):Int)⟩:MLit)] ||| zAJ (zAC m.vars) l)=true):=by
 have hv:=zBt m hm
 obtain⟨k1,k2⟩:=zD5 m hm j c hc
 have hpw:∀q∈zAR m.vars c,SubP q (zAC m.vars):=fun q hq=>zEq m.vars hv c k1 _ _ _ q k1 (fun i hi=>by simp at hi) hq
 have h36:l<2 ^ 36:=Nat.lt_of_le_of_lt (Nat.le_of_testBit hlw) (zBu m.vars hv)
 constructor
 ·intro h0
  rw[zFh m.vars hv,Nat.zero_or]
  unfold zBX
  rw[Bool.or_eq_true]
  right
  rw[Bool.not_eq_true',List.any_eq_false]
  intro q hq hst
  unfold zCR at hst
  have hz:q &&& zAJ (zAC m.vars) l=0:=by simpa using hst
  have hql:zAJ q l=0:=(zBA _ _).2 fun i hi=>by
   cases hb:l.testBit i
   ·have:=(zA4 q (zAJ (zAC m.vars) l) i).2 ⟨hi,(zAh _ _ _).2 ⟨hpw q hq i hi,hb⟩⟩
    rw[hz] at this
    simp at this
   ·rfl
  have hfd:=(zDk l (zAR m.vars c) (0,0,false)).2 (Or.inr ⟨q,hq,hql⟩)
  unfold zBI at h0
  rw[if_pos hfd] at h0
  have hst0:∀i,(zBc l (zAR m.vars c) (0,0,false)).2.1.testBit i=false:=fun i=>by
   have:=congrArg (fun z=>Nat.testBit z i) h0
   simp only[Nat.testBit_or,Nat.zero_testBit,Bool.or_eq_false_iff] at this
   exact this.2
  have hsc0:(zBc l (zAR m.vars c) (0,0,false)).1=0:=by
   rcases zCL l (zAR m.vars c) (0,0,false) with h1 | ⟨h1,h2⟩
   ·exact h1
   ·apply Nat.eq_of_testBit_eq
    intro i
    rw[Nat.zero_testBit]
    cases hb:(zBc l (zAR m.vars c) (0,0,false)).1.testBit i
    ·rfl
    ·have:=(zDR l i (zAR m.vars c) (0,0,false)).2 (Or.inr ⟨_,h1,h2,hb⟩)
     rw[hst0 i] at this
     cases this
  rw[hsc0] at h0
  obtain⟨i,hi⟩:=zB2 hl0
  have:=congrArg (fun z=>Nat.testBit z i) h0
  simp only[Nat.testBit_or,Nat.zero_testBit,Bool.or_eq_false_iff] at this
  have h3:=(zGu i (0+1) 0 l (by omega) (by decide)).2 ⟨hi,fun j hj=>by simp at hj⟩
  rw[h3] at this
  cases this.1
 ·intro b hbl hba hne
  unfold zBX
  rw[Bool.or_eq_true]
  right
  rw[Bool.not_eq_true',List.any_eq_false]
  intro q hq hst
  unfold zCR at hst
  have hz:q &&& (zAF m.vars [(⟨((b / 6:Nat):Int),4,(zAH m.vars (b / 6)).lo+((b % 6:Nat):Int)⟩:MLit)] ||| zAJ (zAC m.vars) l)=0:=by simpa using hst
  have hno:∀i,q.testBit i=true→(zAF m.vars [(⟨((b / 6:Nat):Int),4,(zAH m.vars (b / 6)).lo+((b % 6:Nat):Int)⟩:MLit)]).testBit i=false∧(zAJ (zAC m.vars) l).testBit i=false:=fun i hi=>by
   have:=congrArg (fun z=>Nat.testBit z i) hz
   simp only[Nat.testBit_and,Nat.testBit_or,hi,Bool.true_and,Nat.zero_testBit,Bool.or_eq_false_iff] at this
   exact this
  have hql:zAJ q l=0:=(zBA _ _).2 fun i hi=>by
   cases hb:l.testBit i
   ·have:=(hno i hi).2
    rw[(zAh _ _ _).2 ⟨hpw q hq i hi,hb⟩] at this
    cases this
   ·rfl
  have hfd:=(zDk l (zAR m.vars c) (0,0,false)).2 (Or.inr ⟨q,hq,hql⟩)
  unfold zBI at hba
  rw[if_pos hfd,Nat.testBit_or,Bool.or_eq_false_iff] at hba
  have hbq:q.testBit b=false:=by
   cases hb:q.testBit b
   ·rfl
   ·have:=(zDR l b (zAR m.vars c) (0,0,false)).2 (Or.inr ⟨q,hq,hql,hb⟩)
    rw[hba.2] at this
    cases this
  have hin:∃s∈zAR m.vars c,∃j,s.testBit j=true∧j / 6=b / 6:=by
   apply Classical.byContradiction
   intro hn
   have:=(zGu b _ _ l (Nat.lt_succ_self _) (zGw (zAR m.vars c) l h36)).2 ⟨hbl,fun j hj he=>by
    rcases zCL l (zAR m.vars c) (0,0,false) with h1 | ⟨h1,_⟩
    ·rw[h1] at hj;simp at hj
    ·exact hn ⟨_,h1,j,hj,he⟩⟩
   rw[hba.1] at this
   cases this
  obtain⟨s,hs,j2,hj,hj6⟩:=hin
  rcases zEh m.vars hv c _ _ _ s hs j2 hj with h4 | ⟨v,hv1,h4⟩
  ·simp at h4
  ·obtain⟨u,_,_,l3,_,_,l6⟩:=zCy m.vars c _ _ _ q k1 (by simp[zAN]) hq
   have hbit:=l6 v hv1
   have h3:=l3 v hv1
   have h6:=hv.2 v.toNat
   unfold zAu at h6
   have hw:=hpw q hq _ hbit
   have h5:=(hno _ hbit).1
   have hdiv:(6 * v.toNat+(zAX u v - (zAH m.vars v.toNat).lo).toNat) / 6=b / 6:=by omega
   have hneb:6 * v.toNat+(zAX u v - (zAH m.vars v.toNat).lo).toNat≠b:=fun he=>by
    rw[he,hbq] at hbit
    cases hbit
   rw[(zI5 m.vars hv b _ (hlw b hbl)).2 ⟨hw,hdiv,hneb⟩] at h5
   cases h5
theorem zBF (m:Mod) (hm:zAP m=0) (cs:List Nat) (h:Nat):∀x∈zAf m.vars cs (ptsM m) h,∃(k:Nat) (c:MCon),m.cons[k]? = some c∧x.1.kind=1∧x.1.con=(k:Int)∧x.2=zAF m.vars x.1.cla∧zBX m.vars (zAR m.vars c) x.2=true:=by
 intro x hx
 have hv:=zBt m hm
 obtain⟨t,ht,hx⟩:=List.mem_flatMap.1 hx
 obtain⟨⟨pts,hp,ha⟩,hsub,hne,hdif⟩:=zJt m.vars hv cs (ptsM m) h t ht
 obtain⟨c,hc,hpc⟩:∃c,m.cons[t.1]? = some c∧zAR m.vars c=pts:=by
  unfold ptsM at hp
  rw[List.getElem?_map] at hp
  obtain⟨c,h1,h2⟩:=Option.map_eq_some_iff.1 hp
  exact⟨c,h1,h2⟩
 have hgd:(ptsM m).getD t.1 []=pts:=by rw[List.getD_eq_getElem?_getD,hp];rfl
 have hgw:SubP (zAJ (zAC m.vars) t.2.1) (zAC m.vars):=fun i hi=>((zAh _ _ _).1 hi).1
 obtain⟨s1,s2⟩:=zLv m hm t.1 c hc t.2.1 hsub hne
 rw[hpc] at s1 s2
 have say:∀(any:Cla),zBX m.vars pts (zAF m.vars any ||| zAJ (zAC m.vars) t.2.1)=true→zBX m.vars pts (zAF m.vars (whyP m.vars pts any (zAJ (zAC m.vars) t.2.1)))=true:=fun any hs=>by
  rw[(zE2 m.vars hv pts any _ hgw).1]
  exact zGC (fun g=>zBX m.vars pts (zAF m.vars any ||| g)) _ _ _ hs
 unfold zAi at hx
 rw[hgd] at hx
 by_cases h0:t.2.2=0
 ·rw[if_pos h0] at hx
  rw[List.mem_singleton.1 hx]
  refine⟨t.1,c,hc,rfl,rfl,rfl,?_⟩
  rw[hpc]
  exact say [] (s1 (by rw[←ha];exact h0))
 ·rw[if_neg h0] at hx
  obtain⟨lt,hlt,rfl⟩:=List.mem_map.1 hx
  unfold zBP at hlt
  obtain⟨b,hb,rfl⟩:=List.mem_map.1 hlt
  unfold zDX at hb
  obtain⟨b1,b2⟩:=(zAh _ _ _).1 (List.mem_filter.1 hb).2
  refine⟨t.1,c,hc,rfl,rfl,rfl,?_⟩
  rw[hpc]
  exact say _ (s2 b b1 (by rw[←ha];exact b2) (by rw[←ha];exact h0))
open Go.RowKit
def zEM (w:World) (v:Value) (l:List MStep):Prop :=
 ∃a c,v=.slice a l.length c∧(l.length≤c∧c≤maxLen)∧∀(i:Nat) (t:MStep),l[i]? = some t→∃b off x,a=some ⟨b,off,none⟩∧b<w.heap.size ∧
  w.cell? ⟨b,off+i * 3,none⟩=some (.int .i64 t.kind)∧w.cell? ⟨b,off+i * 3+1,none⟩=some (.int .i64 t.con)∧w.cell? ⟨b,off+i * 3+2,none⟩=some x∧LArg w x t.cla
theorem zEM.below {w w':World} {v:Value} {l:List MStep} (hb:Below w.heap.size w w') (h:zEM w v l):zEM w' v l:=by
 obtain⟨a,c,hv,hm,hr⟩:=h
 refine⟨a,c,hv,hm,fun i z hz=>?_⟩
 obtain⟨b,off,x,ha,hlt,c0,c1,c2,hx⟩:=hr i z hz
 exact⟨b,off,x,ha,Nat.lt_of_lt_of_le hlt hb.size,(hb.cell (p:=⟨b,off+i * 3,none⟩) hlt).trans c0,(hb.cell (p:=⟨b,off+i * 3+1,none⟩) hlt).trans c1,(hb.cell (p:=⟨b,off+i * 3+2,none⟩) hlt).trans c2,LArg.below hb hx⟩
theorem zGb (m:Mod) (s:MStep):∀(l:List MStep) (A:List Nat),zBb m A (l++[s])=(zBb m A l&&zCp m (A++l.map fun t=>zAF m.vars t.cla) s)
 | [],A=>by simp[zBb]
 | t :: r,A=>by
   rw[List.cons_append]
   unfold zBb
   rw[zGb m s r,Bool.and_assoc]
   simp
end Go.Proofs.YtndcpnlaadikoaaGreatDoor
