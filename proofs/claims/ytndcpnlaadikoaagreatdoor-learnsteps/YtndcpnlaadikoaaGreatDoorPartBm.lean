/- What the proof leans on, part 39. -/
import Derived.Test.YtndcpnlaadikoaaGreatDoorPartBl
namespace Go.Proofs.YtndcpnlaadikoaaGreatDoor
def zBi (A:List Nat) (r:Nat):Prop:=∀c∈A,r &&& c≠0∧(zAJ (r &&& c) (zAZ (r &&& c))=0→∀i,r.testBit i=true→(zAZ (r &&& c)).testBit i=true→c.testBit i=true)
def SubP (a b:Nat):Prop:=∀i,a.testBit i=true→b.testBit i=true
theorem zA4 (a b i:Nat):(a &&& b).testBit i=true↔a.testBit i=true∧b.testBit i=true:=by rw[Nat.testBit_and,Bool.and_eq_true]
theorem zAh (a b i:Nat):(zAJ a b).testBit i=true↔a.testBit i=true∧b.testBit i=false:=by rw[zAW,Bool.and_eq_true,Bool.not_eq_true']
theorem zBV (p i:Nat) (h:zAJ p (zAZ p)=0) (hi:p.testBit i=true):∀j,(zAZ p).testBit j=true↔j / 6=i / 6:=by
 intro j
 have h1:=(zBA _ _).1 h i hi
 rw[zAr,decide_eq_true_eq] at h1
 rw[zAr,decide_eq_true_eq,h1]
theorem zDJ (r:Nat) (hr:r<2 ^ 36):∀(cs:List Nat) (l:Nat),zBi cs r→SubP r l→∃l',zAd cs l=some l'∧SubP r l'
 | [],l,_,hs=>⟨l,rfl,hs⟩
 | c :: t,l,hc,hs=>by
   obtain⟨h1,h2⟩:=hc c (List.mem_cons_self ..)
   obtain⟨i,hi⟩:=zB2 h1
   have hi2:=(zA4 _ _ _).1 hi
   have hne:l &&& c≠0:=fun h=>by
    have:=(zA4 l c i).2 ⟨hs i hi2.1,hi2.2⟩
    rw[h] at this
    simp at this
   unfold zAd
   rw[if_neg hne]
   split
   ·rename_i hf
    refine zDJ r hr t _ (fun d hd=>hc d (List.mem_cons_of_mem _ hd)) fun j hj=>?_
    have hli:(l &&& c).testBit i=true:=(zA4 _ _ _).2 ⟨hs i hi2.1,hi2.2⟩
    have hfl:=zBV _ i hf hli
    have hrf:zAJ (r &&& c) (zAZ (r &&& c))=0:=by
     refine (zBA _ _).2 fun k hk=>?_
     have hk2:=(zA4 _ _ _).1 hk
     have hkl:(l &&& c).testBit k=true:=(zA4 _ _ _).2 ⟨hs k hk2.1,hk2.2⟩
     have hk3:=(hfl k).1 ((zBA _ _).1 hf k hkl)
     have hct:(r &&& c).testBit (Lib.ctz 64 (r &&& c))=true:=by
      have hle:r &&& c≤r:=Nat.and_le_left
      exact (zCY _ h1 (by omega) _).2.1 rfl
     have hc2:=(zA4 _ _ _).1 hct
     have hcl:(l &&& c).testBit (Lib.ctz 64 (r &&& c))=true:=(zA4 _ _ _).2 ⟨hs _ hc2.1,hc2.2⟩
     have hc3:=(hfl _).1 ((zBA _ _).1 hf _ hcl)
     rw[zAr,decide_eq_true_eq]
     omega
    rw[zAh]
    refine⟨hs j hj,?_⟩
    cases hb:(zAJ (zAZ (l &&& c)) (l &&& c)).testBit j
    ·rfl
    ·exfalso
     obtain⟨b1,b2⟩:=(zAh _ _ _).1 hb
     have hj6:=(hfl j).1 b1
     have hrj:=zBV _ i hrf hi
     have:=h2 hrf j hj ((hrj j).2 hj6)
     rw[(zA4 _ _ _).2 ⟨hs j hj,this⟩] at b2
     cases b2
   ·exact zDJ r hr t l (fun d hd=>hc d (List.mem_cons_of_mem _ hd)) hs
theorem zEL (r:Nat) (hr:r<2 ^ 36) (cs:List Nat) (hc:zBi cs r):∀(f l:Nat),SubP r l→SubP r (zAv cs f l)
 | 0,l,hs=>hs
 | f+1,l,hs=>by
   obtain⟨l',h1,h2⟩:=zDJ r hr cs l hc hs
   unfold zAv
   rw[h1]
   simp only
   split
   ·exact hs
   ·exact zEL r hr cs hc f l' h2
theorem zJq (n a b:Nat) (h:SubP a b) (ha:zA7 n a=false):zA7 n b=false:=by
 refine zEz n b fun v hv=>?_
 obtain⟨k,h1,h2⟩:=zEK n a ha v hv
 exact⟨k,h1,h _ h2⟩
theorem zEp (vs:List MVar) (r:Nat) (hr:r<2 ^ 36) (hl:zA7 vs.length r=false) (cs:List Nat) (hc:zBi cs r) (l:Nat) (hs:SubP r l):SubP r (zAc vs cs l):=by
 unfold zAc
 rw[if_neg (by rw[zJq _ _ _ hs hl];decide)]
 exact zEL r hr cs hc _ l hs
theorem zEc (n:Nat):∀(cs:List Nat) (l l':Nat),l<2 ^ 36→zAd cs l=some l'→zA7 n l=false→zA7 n l'=false
 | [],l,l',_,h,hl=>by simp[zAd] at h;rw[←h];exact hl
 | c :: t,l,l',h36,h,hl=>by
   unfold zAd at h
   split at h
   ·cases h
   ·rename_i h0
    split at h
    ·rename_i hf
     have h36':=zGq l (zAJ (zAZ (l &&& c)) (l &&& c))
     refine zEc n t _ l' (by omega) h (zEz n _ fun v hv=>?_)
     obtain⟨k,k1,k2⟩:=zEK n l hl v hv
     obtain⟨i,hi⟩:=zB2 h0
     have hfl:=zBV _ i hf hi
     by_cases hv6:v=i / 6
     ·subst hv6
      refine⟨i % 6,by omega,?_⟩
      rw[show 6 * (i / 6)+i % 6=i by omega,zAh]
      refine⟨((zA4 _ _ _).1 hi).1,?_⟩
      rw[zAW,hi];simp
     ·refine⟨k,k1,?_⟩
      rw[zAh]
      refine⟨k2,?_⟩
      cases hb:(zAJ (zAZ (l &&& c)) (l &&& c)).testBit (6 * v+k)
      ·rfl
      ·have:=(hfl _).1 ((zAh _ _ _).1 hb).1
       omega
    ·exact zEc n t l l' h36 h hl
theorem zFg (n:Nat) (cs:List Nat):∀(f l:Nat),l<2 ^ 36→zA7 n l=false→zAv cs f l≠0→zA7 n (zAv cs f l)=false
 | 0,l,_,hl,_=>hl
 | f+1,l,h,hl,hn=>by
   unfold zAv at hn ⊢
   cases hr:zAd cs l with
   | none=>rw[hr] at hn;exact absurd rfl hn
   | some l' =>
     rw[hr] at hn
     simp only at hn ⊢
     by_cases he:l'=l
     ·rw[if_pos he];exact hl
     ·rw[if_neg he] at hn ⊢
      have:=zCA cs l l' hr
      exact zFg n cs f l' (by omega) (zEc n cs l l' h hr hl) hn
theorem zGY (cs:List Nat):∀(f l:Nat),l<f→zAv cs f l≠0→zAd cs (zAv cs f l)=some (zAv cs f l)
 | 0,l,h,_=>by omega
 | f+1,l,h,hn=>by
   unfold zAv at hn ⊢
   cases hr:zAd cs l with
   | none=>rw[hr] at hn;exact absurd rfl hn
   | some l' =>
     rw[hr] at hn
     simp only at hn ⊢
     by_cases he:l'=l
     ·rw[if_pos he];rw[he] at hr;exact hr
     ·rw[if_neg he] at hn ⊢
      have:=zCA cs l l' hr
      exact zGY cs f l' (by omega) hn
theorem zEd:∀(cs:List Nat) (l:Nat),zAd cs l=some l→zBi cs l
 | [],l,_=>fun c hc=>by cases hc
 | c :: t,l,h=>by
   unfold zAd at h
   split at h
   ·cases h
   ·rename_i h0
    split at h
    ·rename_i hf
     have h1:=zCA t _ l h
     have h2:=zGq l (zAJ (zAZ (l &&& c)) (l &&& c))
     have h3:zAJ l (zAJ (zAZ (l &&& c)) (l &&& c))=l:=by omega
     rw[h3] at h
     intro d hd
     rcases List.mem_cons.1 hd with rfl | hd
     ·refine⟨h0,fun _ i hi hfi=>?_⟩
      have h4:=congrArg (fun z=>Nat.testBit z i) h3
      simp only[zAW,hi,hfi] at h4
      have h5:(l &&& d).testBit i=true:=by
       cases hb:(l &&& d).testBit i
       ·rw[hb] at h4;simp at h4
       ·rfl
      exact ((zA4 _ _ _).1 h5).2
     ·exact zEd t l h d hd
    ·rename_i hf
     intro d hd
     rcases List.mem_cons.1 hd with rfl | hd
     ·exact⟨h0,fun h5=>absurd h5 hf⟩
     ·exact zEd t l h d hd
theorem zGZ (vs:List MVar) (A:List Nat) (l:Nat) (h36:l<2 ^ 36) (hn:zAc vs A l≠0):zA7 vs.length (zAc vs A l)=false∧zBi A (zAc vs A l)∧SubP (zAc vs A l) l:=by
 refine⟨?_,?_,fun i hi=>zCM vs A l i hi⟩
 ·unfold zAc at hn ⊢
  split
  ·rename_i hc;rw[if_pos hc] at hn;exact absurd rfl hn
  ·rename_i hc
   rw[if_neg hc] at hn
   exact zFg _ A _ l h36 (by simpa using hc) hn
 ·unfold zAc at hn ⊢
  split
  ·rename_i hc;rw[if_pos hc] at hn;exact absurd rfl hn
  ·rename_i hc
   rw[if_neg hc] at hn
   exact zEd A _ (zGY A _ l (Nat.lt_succ_self _) hn)
theorem zI4 {A B:List Nat} {r:Nat} (h:zBi B r) (hs:∀c∈A,c∈B):zBi A r:=fun c hc=>h c (hs c hc)
theorem zLu (vs:List MVar) (hv:zAb vs) (g:Nat) (hg:SubP g (zAC vs)) (i:Nat):(zAF vs (zBP vs g)).testBit i=g.testBit i:=by
 unfold zAF ofP
 rw[zAg vs hv]
 rw[Bool.eq_iff_iff]
 simp only[Bool.and_eq_true,decide_eq_true_eq]
 constructor
 ·rintro ⟨h1,h2,h3⟩
  unfold oneB at h3
  obtain⟨l,hl,hc⟩:=List.any_eq_true.1 h3
  unfold zBP at hl
  obtain⟨j,hj,rfl⟩:=List.mem_map.1 hl
  unfold zDX at hj
  have hj2:=(List.mem_filter.1 hj).2
  simp only[Bool.and_eq_true,decide_eq_true_eq] at hc
  obtain⟨c1,c2⟩:=hc
  have c1':j / 6=i / 6:=by omega
  rw[c1'] at c2
  unfold litV at c2
  simp at c2
  have:j=i:=by omega
  rw[←this];exact hj2
 ·intro h
  have hw:=hg i h
  unfold zAC ofP at hw
  rw[zAg vs hv] at hw
  simp only[Bool.and_eq_true,decide_eq_true_eq] at hw
  refine⟨hw.1,hw.2.1,?_⟩
  unfold oneB
  refine List.any_eq_true.2 ⟨⟨((i / 6:Nat):Int),3,(zAH vs (i / 6)).lo+((i % 6:Nat):Int)⟩,?_,?_⟩
  ·unfold zBP
   refine List.mem_map.2 ⟨i,(zJX g i (by have:=hv.1;omega)).2 h,rfl⟩
  ·simp only[decide_true,Bool.true_and]
   unfold litV
   simp
theorem zI5 (vs:List MVar) (hv:zAb vs) (b i:Nat) (hb:(zAC vs).testBit b=true):(zAF vs [(⟨((b / 6:Nat):Int),4,(zAH vs (b / 6)).lo+((b % 6:Nat):Int)⟩:MLit)]).testBit i=true↔(zAC vs).testBit i=true∧i / 6=b / 6∧i≠b:=by
 unfold zAF zAC ofP at *
 rw[zAg vs hv,zAg vs hv]
 simp only[Bool.and_eq_true,decide_eq_true_eq]
 unfold oneB
 simp only[List.any_cons,List.any_nil,Bool.or_false,Bool.and_eq_true,decide_eq_true_eq]
 constructor
 ·rintro ⟨h1,h2,h3,h4⟩
  have h5:i / 6=b / 6:=by omega
  refine⟨⟨h1,h2,trivial⟩,h5,fun he=>?_⟩
  subst he
  unfold litV at h4
  simp at h4
 ·rintro ⟨⟨h1,h2,_⟩,h3,h4⟩
  refine⟨h1,h2,by omega,?_⟩
  unfold litV
  rw[h3]
  simp
  omega
theorem zFh (vs:List MVar) (hv:zAb vs):zAF vs []=0:=by
 apply Nat.eq_of_testBit_eq
 intro i
 rw[zM2 vs hv,Nat.zero_testBit]
def zID (vs:List MVar) (pts:List Nat) (any:Cla) (gone:Nat):Nat:=zBU (fun g=>zBX vs pts (zAF vs any ||| g)) (gone+1) gone gone
theorem zE2 (vs:List MVar) (hv:zAb vs) (pts:List Nat) (any:Cla) (gone:Nat) (hg:SubP gone (zAC vs)):zAF vs (whyP vs pts any gone)=zAF vs any ||| zID vs pts any gone∧SubP (zID vs pts any gone) gone:=by
 have hs:SubP (zID vs pts any gone) gone:=fun i hi=>zFN _ _ _ _ i hi
 refine⟨?_,hs⟩
 apply Nat.eq_of_testBit_eq
 intro i
 unfold whyP
 rw[zIC vs hv,Nat.testBit_or]
 congr 1
 exact zLu vs hv _ (fun j hj=>hg j (hs j hj)) i
theorem zM3 (vs:List MVar) (hv:zAb vs) (pt:List (List Nat)) (A:List Nat) (r:Nat) (hA:zBi A r) (k:Nat) (pts:List Nat) (hk:pt.getD k []=pts) (l:Nat) (hlw:SubP l (zAC vs)) (hrl:SubP r l)
 (hr:∀x∈zAi vs pt (k,l,zBI pts l),x.2∈A):SubP r (zBI pts l):=by
 have hgw:SubP (zAJ (zAC vs) l) (zAC vs):=fun i hi=>((zAh _ _ _).1 hi).1
 by_cases h0:zBI pts l=0
 ·exfalso
  have hm:=hr (zBd vs k (whyP vs pts [] (zAJ (zAC vs) l))) (by unfold zAi;simp only;rw[if_pos h0,hk];exact List.mem_singleton.2 rfl)
  obtain⟨h1,_⟩:=hA _ hm
  obtain⟨i,hi⟩:=zB2 h1
  obtain⟨i1,i2⟩:=(zA4 _ _ _).1 hi
  obtain⟨w1,w2⟩:=zE2 vs hv pts [] (zAJ (zAC vs) l) hgw
  have i3:(zAF vs (whyP vs pts [] (zAJ (zAC vs) l))).testBit i=true:=i2
  rw[w1,zFh vs hv,Nat.zero_or] at i3
  have:=((zAh _ _ _).1 (w2 i i3)).2
  rw[hrl i i1] at this
  cases this
 ·intro b hb
  cases hab:(zBI pts l).testBit b
  ·exfalso
   have hbl:=hrl b hb
   have hbw:=hlw b hbl
   have hb36:b<36:=by
    have:=hbw
    unfold zAC ofP at this
    rw[zAg vs hv] at this
    simp only[Bool.and_eq_true,decide_eq_true_eq] at this
    have:=hv.1
    omega
   have hlit:(⟨((b / 6:Nat):Int),3,(zAH vs (b / 6)).lo+((b % 6:Nat):Int)⟩:MLit)∈zBP vs (zAJ l (zBI pts l)):=by
    unfold zBP
    exact List.mem_map.2 ⟨b,(zJX _ b hb36).2 ((zAh _ _ _).2 ⟨hbl,hab⟩),rfl⟩
   have hm:=hr (zBd vs k (whyP vs pts [⟨((b / 6:Nat):Int),4,(zAH vs (b / 6)).lo+((b % 6:Nat):Int)⟩] (zAJ (zAC vs) l))) (by
    unfold zAi
    simp only
    rw[if_neg h0,hk]
    exact List.mem_map.2 ⟨_,hlit,rfl⟩)
   obtain⟨w1,w2⟩:=zE2 vs hv pts [⟨((b / 6:Nat):Int),4,(zAH vs (b / 6)).lo+((b % 6:Nat):Int)⟩] (zAJ (zAC vs) l) hgw
   obtain⟨h1,h2⟩:=hA _ hm
   change r &&& zAF vs (whyP vs pts [⟨((b / 6:Nat):Int),4,(zAH vs (b / 6)).lo+((b % 6:Nat):Int)⟩] (zAJ (zAC vs) l))≠0 at h1
   change zAJ (r &&& zAF vs (whyP vs pts [⟨((b / 6:Nat):Int),4,(zAH vs (b / 6)).lo+((b % 6:Nat):Int)⟩] (zAJ (zAC vs) l))) (zAZ (r &&& zAF vs (whyP vs pts [⟨((b / 6:Nat):Int),4,(zAH vs (b / 6)).lo+((b % 6:Nat):Int)⟩] (zAJ (zAC vs) l))))=0→∀i,r.testBit i=true→(zAZ (r &&& zAF vs (whyP vs pts [⟨((b / 6:Nat):Int),4,(zAH vs (b / 6)).lo+((b % 6:Nat):Int)⟩] (zAJ (zAC vs) l)))).testBit i=true→(zAF vs (whyP vs pts [⟨((b / 6:Nat):Int),4,(zAH vs (b / 6)).lo+((b % 6:Nat):Int)⟩] (zAJ (zAC vs) l))).testBit i=true at h2
   rw[w1] at h1 h2
   generalize zID vs pts [⟨((b / 6:Nat):Int),4,(zAH vs (b / 6)).lo+((b % 6:Nat):Int)⟩] (zAJ (zAC vs) l)=g at *
   have hin:∀i,(r &&& (zAF vs [⟨((b / 6:Nat):Int),4,(zAH vs (b / 6)).lo+((b % 6:Nat):Int)⟩] ||| g)).testBit i=true→i / 6=b / 6∧i≠b:=fun i hi=>by
    obtain⟨i1,i2⟩:=(zA4 _ _ _).1 hi
    rw[Nat.testBit_or,Bool.or_eq_true] at i2
    rcases i2 with i2 | i2
    ·exact ((zI5 vs hv b i hbw).1 i2).2
    ·have:=((zAh _ _ _).1 (w2 i i2)).2
     rw[hrl i i1] at this
     cases this
   obtain⟨i,hi⟩:=zB2 h1
   have hct:(r &&& (zAF vs [⟨((b / 6:Nat):Int),4,(zAH vs (b / 6)).lo+((b % 6:Nat):Int)⟩] ||| g)).testBit (Lib.ctz 64 (r &&& (zAF vs [⟨((b / 6:Nat):Int),4,(zAH vs (b / 6)).lo+((b % 6:Nat):Int)⟩] ||| g)))=true:=by
    refine (zCY _ h1 ?_ _).2.1 rfl
    refine Nat.lt_of_le_of_lt (Nat.le_of_testBit fun j hj=>hlw j (hrl j ((zA4 _ _ _).1 hj).1)) ?_
    have:=zBu vs hv
    omega
   have hc6:=(hin _ hct).1
   have hz:zAJ (r &&& (zAF vs [⟨((b / 6:Nat):Int),4,(zAH vs (b / 6)).lo+((b % 6:Nat):Int)⟩] ||| g)) (zAZ (r &&& (zAF vs [⟨((b / 6:Nat):Int),4,(zAH vs (b / 6)).lo+((b % 6:Nat):Int)⟩] ||| g)))=0:=by
    refine (zBA _ _).2 fun j hj=>?_
    rw[zAr,decide_eq_true_eq,(hin j hj).1,hc6]
   have hbb:=h2 hz b hb (by rw[zAr,decide_eq_true_eq,hc6])
   rw[Nat.testBit_or,Bool.or_eq_true] at hbb
   rcases hbb with h | h
   ·exact ((zI5 vs hv b b hbw).1 h).2.2 rfl
   ·have:=((zAh _ _ _).1 (w2 b h)).2
    rw[hbl] at this
    cases this
  ·rfl
theorem zJr (vs:List MVar) (hv:zAb vs) (pt:List (List Nat)) (A:List Nat) (r:Nat) (hA:zBi A r):∀(ptl:List (List Nat)) (k l:Nat),(∀(j:Nat) pts,ptl[j]? = some pts→pt.getD (k+j) []=pts)→SubP l (zAC vs)→SubP r l →
 (∀t∈zCS k ptl l,∀x∈zAi vs pt t,x.2∈A)→SubP r (zAs ptl l)
 | [],k,l,_,_,hrl,_=>hrl
 | pts :: rest,k,l,hk,hlw,hrl,hr=>by
   unfold zAs
   unfold zCS at hr
   by_cases h0:l=0
   ·rw[if_pos h0];exact hrl
   ·rw[if_neg h0] at hr ⊢
    have h36:l<2 ^ 36:=Nat.lt_of_le_of_lt (Nat.le_of_testBit hlw) (zBu vs hv)
    refine zJr vs hv pt A r hA rest (k+1) (zBI pts l) (fun j q hq=>by have:=hk (j+1) q (by simpa using hq);rw[←this];congr 1;omega) (fun i hi=>hlw i (zDS pts l i h36 hi)) ?_ (fun t ht=>hr t (List.mem_append_right _ ht))
    by_cases he:zBI pts l=l
    ·rw[he];exact hrl
    ·exact zM3 vs hv pt A r hA k pts (by have:=hk 0 pts rfl;simpa using this) l hlw hrl (fun x hx=>hr (k,l,zBI pts l) (List.mem_append_left _ (by rw[if_neg he];exact List.mem_singleton.2 rfl)) x hx)
theorem zFi (vs:List MVar) (hv:zAb vs) (pt:List (List Nat)) (cs A:List Nat) (hcs:∀c∈cs,c∈A) (r:Nat) (hr36:r<2 ^ 36) (hlk:zA7 vs.length r=false) (hA:zBi A r):∀(f l:Nat),SubP l (zAC vs)→SubP r l →
 (∀t∈zBB vs cs pt f l,∀x∈zAi vs pt t,x.2∈A)→SubP r (zBQ vs cs pt f l)
 | 0,l,_,hrl,_=>hrl
 | f+1,l,hlw,hrl,hr=>by
   unfold zBQ
   unfold zBB at hr
   have hu:=zEp vs r hr36 hlk cs (zI4 hA hcs) l hrl
   have hc:=zJr vs hv pt A r hA pt 0 (zAc vs cs l) (fun j pts hj=>by rw[Nat.zero_add,List.getD_eq_getElem?_getD,hj];rfl) (fun i hi=>hlw i (zCM vs cs l i hi)) hu (fun t ht=>hr t (List.mem_append_left _ ht))
   split
   ·exact hrl
   ·rename_i hne
    rw[if_neg hne] at hr
    have h36:l<2 ^ 36:=Nat.lt_of_le_of_lt (Nat.le_of_testBit hlw) (zBu vs hv)
    refine zFi vs hv pt cs A hcs r hr36 hlk hA f _ (fun i hi=>?_) hc (fun t ht=>hr t (List.mem_append_right _ ht))
    have:∀(ptl:List (List Nat)) (q:Nat),q<2 ^ 36→(zAs ptl q).testBit i=true→q.testBit i=true:=by
     intro ptl
     induction ptl with
     | nil=>intro q _ h;exact h
     | cons pts rest ih =>
       intro q hq h
       unfold zAs at h
       split at h
       ·exact h
       ·have:=zGv pts q hq
        exact zDS pts q i hq (ih _ (by omega) h)
    have h3:=zD6 vs cs l
    exact hlw i (zCM vs cs l i (this pt _ (by omega) hi))
theorem zFy (vs:List MVar) (hv:zAb vs) (cs:List Nat) (pt:List (List Nat)) (h:Nat) (hz:zCz vs cs pt h=0):zB3 vs cs h (zAf vs cs pt h)=true:=by
 unfold zB3 zDF
 cases hb:(zAc vs (cs++(zAf vs cs pt h).map (·.2)) (zAJ (zAC vs) h)==0)
 ·exfalso
  have hn:zAc vs (cs++(zAf vs cs pt h).map (·.2)) (zAJ (zAC vs) h)≠0:=by simpa using hb
  have h36:zAJ (zAC vs) h<2 ^ 36:=zCK 36 _ _ (zBu vs hv)
  obtain⟨k1,k2,k3⟩:=zGZ vs _ _ h36 hn
  have hle:=zD6 vs (cs++(zAf vs cs pt h).map (·.2)) (zAJ (zAC vs) h)
  have hL0:zAJ (zAC vs) h≠0:=fun he=>hn (by omega)
  unfold zCz at hz
  rw[if_neg hL0] at hz
  have hs:=zFi vs hv pt cs (cs++(zAf vs cs pt h).map (·.2)) (fun c hc=>List.mem_append_left _ hc) _ (by omega) k1 k2 (zAJ (zAC vs) h+1) (zAJ (zAC vs) h) (fun i hi=>((zAh _ _ _).1 hi).1) k3 (fun t ht x hx=>by
   refine List.mem_append_right _ (List.mem_map.2 ⟨x,?_,rfl⟩)
   unfold zAf zFQ
   rw[if_neg hL0]
   exact List.mem_flatMap.2 ⟨t,ht,hx⟩)
  rw[hz] at hs
  obtain⟨i,hi⟩:=zB2 hn
  have:=hs i hi
  simp at this
 ·rfl
end Go.Proofs.YtndcpnlaadikoaaGreatDoor
