/- What the proof leans on, part 12. -/
import Derived.Test.YtdjbejlbmaiocagGreatDoorPartAk
import Derived.Test.YtdjbejlbmaiocagGreatDoorPartAg
import Derived.Test.YtdjbejlbmaiocagGreatDoorPartAf
import Derived.Test.YtdjbejlbmaiocagGreatDoorPartAi
import Derived.Laws.ShiftsVarLaws
import Derived.Deep.RegionHeld3
namespace Go.Proofs.YtdjbejlbmaiocagGreatDoor
structure TellOk (vs:List MVar) (pt:List (List Nat)) (t:Nat×Nat×Nat):Prop where
 pts:∃pts,pt[t.1]? = some pts∧t.2.2=zBV pts t.2.1
 sub:SubP t.2.1 (zAC vs)
 ne:t.2.1≠0
 dif:t.2.2≠t.2.1
theorem zNW (vs:List MVar) (hv:zAa vs) (pt:List (List Nat)):∀(ptl:List (List Nat)) (k l:Nat),(∀(j:Nat) pts,ptl[j]? = some pts→pt[k+j]? = some pts)→SubP l (zAC vs)→∀t∈zDh k ptl l,TellOk vs pt t
 | [],k,l,_,_=>fun t ht=>by cases ht
 | pts :: rest,k,l,hk,hlw=>by
   intro t ht
   unfold zDh at ht
   by_cases h0:l=0
   ·rw[if_pos h0] at ht;cases ht
   ·rw[if_neg h0] at ht
    have h36:l<2 ^ 36:=Nat.lt_of_le_of_lt (Nat.le_of_testBit hlw) (zBw vs hv)
    rcases List.mem_append.1 ht with ht | ht
    ·by_cases he:zBV pts l=l
     ·rw[if_pos he] at ht;cases ht
     ·rw[if_neg he] at ht
      rw[List.mem_singleton.1 ht]
      exact⟨⟨pts,hk 0 pts rfl,rfl⟩,hlw,h0,he⟩
    ·exact zNW vs hv pt rest (k+1) (zBV pts l) (fun j q hq=>by have:=hk (j+1) q (by simpa using hq);rw[←this];congr 1;omega) (fun i hi=>hlw i (zEQ pts l i h36 hi)) t ht
theorem zI7 (vs:List MVar) (hv:zAa vs) (cs:List Nat) (pt:List (List Nat)):∀(f l:Nat),SubP l (zAC vs)→∀t∈zB3 vs cs pt f l,TellOk vs pt t
 | 0,l,_=>fun t ht=>by cases ht
 | f+1,l,hlw=>by
   intro t ht
   unfold zB3 at ht
   have h36:l<2 ^ 36:=Nat.lt_of_le_of_lt (Nat.le_of_testBit hlw) (zBw vs hv)
   rcases List.mem_append.1 ht with ht | ht
   ·exact zNW vs hv pt pt 0 _ (fun j pts hj=>by rw[Nat.zero_add];exact hj) (fun i hi=>hlw i (zC8 vs cs l i hi)) t ht
   ·split at ht
    ·cases ht
    ·refine zI7 vs hv cs pt f _ (fun i hi=>?_) t ht
     have:∀(ptl:List (List Nat)) (q:Nat),q<2 ^ 36→(zA3 ptl q).testBit i=true→q.testBit i=true:=by
      intro ptl
      induction ptl with
      | nil=>intro q _ h;exact h
      | cons pts rest ih =>
        intro q hq h
        unfold zA3 at h
        split at h
        ·exact h
        ·have:=zFj pts q hq
         exact zEQ pts q i hq (ih _ (by omega) h)
     have h3:=zDF vs cs l
     exact hlw i (zC8 vs cs l i (this pt _ (by omega) hi))
theorem zNX (vs:List MVar) (hv:zAa vs) (cs:List Nat) (pt:List (List Nat)) (h:Nat):∀t∈zHi vs cs pt h,TellOk vs pt t:=by
 intro t ht
 unfold zHi at ht
 split at ht
 ·cases ht
 ·exact zI7 vs hv cs pt _ _ (fun i hi=>((zBK _ _ _).1 hi).1) t ht
theorem zG4 (vs:List MVar) (hv:zAa vs) (c:MCon) (hsc:∀v∈zBA c,0≤v∧v<(vs.length:Int)):∀(r u:List Int) (a p:Nat),(∀v∈r,0≤v∧v<(vs.length:Int))→SubP a (zAC vs)→p∈zAk vs c r u a→SubP p (zAC vs)
 | [],u,a,p,_,ha,hp=>by
   unfold zAk at hp
   split at hp
   ·rw[List.mem_singleton.1 hp];exact ha
   ·cases hp
 | v :: r,u,a,p,hr,ha,hp=>by
   unfold zAk at hp
   obtain⟨x,hx,hp⟩:=List.mem_flatMap.1 hp
   refine zG4 vs hv c hsc r _ _ p (fun y hy=>hr y (List.mem_cons_of_mem _ hy)) (fun i hi=>?_) hp
   rw[Nat.testBit_or,Bool.or_eq_true,zCP] at hi
   rcases hi with hi | hi
   ·exact ha i hi
   ·have h1:6 * v.toNat+(x - (zAL vs v.toNat).lo).toNat=i:=by simpa using hi
    obtain⟨b1,b2⟩:=(zDo _ _ _).1 hx
    obtain⟨v0,v1⟩:=hr v (List.mem_cons_self ..)
    have h6:=hv.2 v.toNat
    unfold zBz at h6
    unfold zAC ofP
    rw[zAY vs hv]
    simp only[Bool.and_eq_true,decide_eq_true_eq]
    have e1:i / 6=v.toNat:=by omega
    rw[e1]
    refine⟨by omega,?_,trivial⟩
    unfold zBz
    omega
theorem zPv (m:Mod) (hm:zAE m=0) (j:Nat) (c:MCon) (hc:m.cons[j]? = some c) (l:Nat) (hlw:SubP l (zAC m.vars)) (hl0:l≠0) :
 (zBV (zAM m.vars c) l=0→zCa m.vars (zAM m.vars c) (zAF m.vars [] ||| zAK (zAC m.vars) l)=true) ∧
 (∀b,l.testBit b=true→(zBV (zAM m.vars c) l).testBit b=false→zBV (zAM m.vars c) l≠0→zCa m.vars (zAM m.vars c) (zAF m.vars [(⟨((b / 6:Nat):Int),4,(zAL m.vars (b / 6)).lo+((b % 6:Nat):Int)⟩:MLit)] ||| zAK (zAC m.vars) l)=true):=by
 have hv:=zAd m hm
 obtain⟨k1,k2⟩:=zFE m hm j c hc
 have hpw:∀q∈zAM m.vars c,SubP q (zAC m.vars):=fun q hq=>zG4 m.vars hv c k1 _ _ _ q k1 (fun i hi=>by simp at hi) hq
 have h36:l<2 ^ 36:=Nat.lt_of_le_of_lt (Nat.le_of_testBit hlw) (zBw m.vars hv)
 constructor
 ·intro h0
  rw[zGH m.vars hv,Nat.zero_or]
  unfold zCa
  rw[Bool.or_eq_true]
  right
  rw[Bool.not_eq_true',List.any_eq_false]
  intro q hq hst
  unfold zD6 at hst
  have hz:q &&& zAK (zAC m.vars) l=0:=by simpa using hst
  have hql:zAK q l=0:=(zBd _ _).2 fun i hi=>by
   cases hb:l.testBit i
   ·have:=(zBr q (zAK (zAC m.vars) l) i).2 ⟨hi,(zBK _ _ _).2 ⟨hpw q hq i hi,hb⟩⟩
    rw[hz] at this
    simp at this
   ·rfl
  have hfd:=(zDX l (zAM m.vars c) (0,0,false)).2 (Or.inr ⟨q,hq,hql⟩)
  unfold zBV at h0
  rw[if_pos hfd] at h0
  have hst0:∀i,(zCQ l (zAM m.vars c) (0,0,false)).2.1.testBit i=false:=fun i=>by
   have:=congrArg (fun z=>Nat.testBit z i) h0
   simp only[Nat.testBit_or,Nat.zero_testBit,Bool.or_eq_false_iff] at this
   exact this.2
  have hsc0:(zCQ l (zAM m.vars c) (0,0,false)).1=0:=by
   rcases zCr l (zAM m.vars c) (0,0,false) with h1 | ⟨h1,h2⟩
   ·exact h1
   ·apply Nat.eq_of_testBit_eq
    intro i
    rw[Nat.zero_testBit]
    cases hb:(zCQ l (zAM m.vars c) (0,0,false)).1.testBit i
    ·rfl
    ·have:=(zD8 l i (zAM m.vars c) (0,0,false)).2 (Or.inr ⟨_,h1,h2,hb⟩)
     rw[hst0 i] at this
     cases this
  rw[hsc0] at h0
  obtain⟨i,hi⟩:=zCe hl0
  have:=congrArg (fun z=>Nat.testBit z i) h0
  simp only[Nat.testBit_or,Nat.zero_testBit,Bool.or_eq_false_iff] at this
  have h3:=(zHg i (0+1) 0 l (by omega) (by decide)).2 ⟨hi,fun j hj=>by simp at hj⟩
  rw[h3] at this
  cases this.1
 ·intro b hbl hba hne
  unfold zCa
  rw[Bool.or_eq_true]
  right
  rw[Bool.not_eq_true',List.any_eq_false]
  intro q hq hst
  unfold zD6 at hst
  have hz:q &&& (zAF m.vars [(⟨((b / 6:Nat):Int),4,(zAL m.vars (b / 6)).lo+((b % 6:Nat):Int)⟩:MLit)] ||| zAK (zAC m.vars) l)=0:=by simpa using hst
  have hno:∀i,q.testBit i=true→(zAF m.vars [(⟨((b / 6:Nat):Int),4,(zAL m.vars (b / 6)).lo+((b % 6:Nat):Int)⟩:MLit)]).testBit i=false∧(zAK (zAC m.vars) l).testBit i=false:=fun i hi=>by
   have:=congrArg (fun z=>Nat.testBit z i) hz
   simp only[Nat.testBit_and,Nat.testBit_or,hi,Bool.true_and,Nat.zero_testBit,Bool.or_eq_false_iff] at this
   exact this
  have hql:zAK q l=0:=(zBd _ _).2 fun i hi=>by
   cases hb:l.testBit i
   ·have:=(hno i hi).2
    rw[(zBK _ _ _).2 ⟨hpw q hq i hi,hb⟩] at this
    cases this
   ·rfl
  have hfd:=(zDX l (zAM m.vars c) (0,0,false)).2 (Or.inr ⟨q,hq,hql⟩)
  unfold zBV at hba
  rw[if_pos hfd,Nat.testBit_or,Bool.or_eq_false_iff] at hba
  have hbq:q.testBit b=false:=by
   cases hb:q.testBit b
   ·rfl
   ·have:=(zD8 l b (zAM m.vars c) (0,0,false)).2 (Or.inr ⟨q,hq,hql,hb⟩)
    rw[hba.2] at this
    cases this
  have hin:∃s∈zAM m.vars c,∃j,s.testBit j=true∧j / 6=b / 6:=by
   apply Classical.byContradiction
   intro hn
   have:=(zHg b _ _ l (Nat.lt_succ_self _) (zF8 (zAM m.vars c) l h36)).2 ⟨hbl,fun j hj he=>by
    rcases zCr l (zAM m.vars c) (0,0,false) with h1 | ⟨h1,_⟩
    ·rw[h1] at hj;simp at hj
    ·exact hn ⟨_,h1,j,hj,he⟩⟩
   rw[hba.1] at this
   cases this
  obtain⟨s,hs,j2,hj,hj6⟩:=hin
  rcases zEp m.vars hv c _ _ _ s hs j2 hj with h4 | ⟨v,hv1,h4⟩
  ·simp at h4
  ·obtain⟨u,_,_,l3,_,_,l6⟩:=zEP m.vars c _ _ _ q k1 (by simp[zBm]) hq
   have hbit:=l6 v hv1
   have h3:=l3 v hv1
   have h6:=hv.2 v.toNat
   unfold zBz at h6
   have hw:=hpw q hq _ hbit
   have h5:=(hno _ hbit).1
   have hdiv:(6 * v.toNat+(zAO u v - (zAL m.vars v.toNat).lo).toNat) / 6=b / 6:=by omega
   have hneb:6 * v.toNat+(zAO u v - (zAL m.vars v.toNat).lo).toNat≠b:=fun he=>by
    rw[he,hbq] at hbit
    cases hbit
   rw[(zMI m.vars hv b _ (hlw b hbl)).2 ⟨hw,hdiv,hneb⟩] at h5
   cases h5
theorem zBS (m:Mod) (hm:zAE m=0) (cs:List Nat) (h:Nat):∀x∈zAt m.vars cs (ptsM m) h,∃(k:Nat) (c:MCon),m.cons[k]? = some c∧x.1.kind=1∧x.1.con=(k:Int)∧x.2=zAF m.vars x.1.cla∧zCa m.vars (zAM m.vars c) x.2=true:=by
 intro x hx
 have hv:=zAd m hm
 obtain⟨t,ht,hx⟩:=List.mem_flatMap.1 hx
 obtain⟨⟨pts,hp,ha⟩,hsub,hne,hdif⟩:=zNX m.vars hv cs (ptsM m) h t ht
 obtain⟨c,hc,hpc⟩:∃c,m.cons[t.1]? = some c∧zAM m.vars c=pts:=by
  unfold ptsM at hp
  rw[List.getElem?_map] at hp
  obtain⟨c,h1,h2⟩:=Option.map_eq_some_iff.1 hp
  exact⟨c,h1,h2⟩
 have hgd:(ptsM m).getD t.1 []=pts:=by rw[List.getD_eq_getElem?_getD,hp];rfl
 have hgw:SubP (zAK (zAC m.vars) t.2.1) (zAC m.vars):=fun i hi=>((zBK _ _ _).1 hi).1
 obtain⟨s1,s2⟩:=zPv m hm t.1 c hc t.2.1 hsub hne
 rw[hpc] at s1 s2
 have say:∀(any:Cla),zCa m.vars pts (zAF m.vars any ||| zAK (zAC m.vars) t.2.1)=true→zCa m.vars pts (zAF m.vars (whyP m.vars pts any (zAK (zAC m.vars) t.2.1)))=true:=fun any hs=>by
  rw[(zHM m.vars hv pts any _ hgw).1]
  exact zIv (fun g=>zCa m.vars pts (zAF m.vars any ||| g)) _ _ _ hs
 unfold zA4 at hx
 rw[hgd] at hx
 by_cases h0:t.2.2=0
 ·rw[if_pos h0] at hx
  rw[List.mem_singleton.1 hx]
  refine⟨t.1,c,hc,rfl,rfl,rfl,?_⟩
  rw[hpc]
  exact say [] (s1 (by rw[←ha];exact h0))
 ·rw[if_neg h0] at hx
  obtain⟨lt,hlt,rfl⟩:=List.mem_map.1 hx
  unfold zBc at hlt
  obtain⟨b,hb,rfl⟩:=List.mem_map.1 hlt
  unfold zDw at hb
  obtain⟨b1,b2⟩:=(zBK _ _ _).1 (List.mem_filter.1 hb).2
  refine⟨t.1,c,hc,rfl,rfl,rfl,?_⟩
  rw[hpc]
  exact say _ (s2 b b1 (by rw[←ha];exact b2) (by rw[←ha];exact h0))
open Go.RowKit
set_option maxHeartbeats 400000 in
set_option maxRecDepth 100000 in
theorem zS3 (l:MLit) (x z:Int) (b1 b2:Nat) (w:World) (h1:w.cell? ⟨b1,0,none⟩=some (.int .i64 x)) (h2:w.cell? ⟨b2,0,none⟩=some (.int .i64 z)) :
 Calls Tryz.prog 248 #[.agg #[.int .i64 l.var,.int .i64 l.op,.int .i64 l.n],.pointer (some ⟨b1,0,none⟩),.pointer (some ⟨b2,0,none⟩)] w fun e w'=>e=.returned (.bool (decide (l.var=x)&&litV z l))∧Below w.heap.size w w':=by
 have l1:b1<w.heap.size:=World.block_lt_of_cell? w _ h1
 have l2:b2<w.heap.size:=World.block_lt_of_cell? w _ h2
 by_cases hq:l.var=x
 ·have g0:(l.var==x)=true:=by simpa using hq
  have HN:Hid ((decide (l.var=x)&&litV z l)=litV z l):=by show _=_;rw[decide_eq_true hq];rfl
  rw[HN.out]
  clear hq
  go_enter Tryz.func248,Tryz.ntmps248
  go_wp2_with fail
  refine (zJz l z _).mono ?_
  rintro e w1 ⟨rfl,hb1⟩
  have hb2:Below w.heap.size w w1:=(zAA _ _).trans (hb1.mono (by simp))
  clear hb1
  go_wp2
  go_ret
  exact⟨rfl,hb2⟩
 ·have g0:(l.var==x)=false:=by simpa using hq
  have HN:Hid ((decide (l.var=x)&&litV z l)=false):=by show _=_;rw[decide_eq_false hq];rfl
  rw[HN.out]
  clear hq
  go_enter Tryz.func248,Tryz.ntmps248
  go_wp2
  go_ret
  exact⟨rfl,zAA _ _⟩
theorem zOL (args:Array Value) (w':World):Sem.run Tryz.prog (callFunc 248 args) w'=.ok (.enter 248 args) w':=by
 simp[callFunc,go_sem,Tryz.func248,Tryz.f248]
set_option maxHeartbeats 400000 in
set_option maxRecDepth 100000 in
theorem zTa (c:Cla) (k:Nat) (z:Int) (u:Value) (w:World) (hu:LArg w u c) :
 Calls Tryz.prog 189 #[u,.int .i64 k,.int .i64 z] w fun e w'=>e=.returned (.bool (oneB c k z))∧Below w.heap.size w w':=by
 have HUA:Hid (∀w':World,Below w.heap.size w w'→LArg w' u c):=fun w' h=>LArg.below h hu
 obtain⟨a1,c1,rfl,_,_⟩:=hu
 go_enter Tryz.func189,Tryz.ntmps189
 go_wp2_with fail
 refine (zFV 248 _ (fun l=>decide (l.var=(k:Int))&&litV z l) c _ _ (HUA.out _ ((zAA _ _).alloc (by simp) _)) ⟨zOL,?_⟩).mono ?_
 ·intro l w' hl hb'
  refine zS3 l k z w.heap.size (w.heap.size+1) w' ?_ ?_
  ·exact (hb'.cell (by simp;omega)).trans ((World.cell?_alloc_past _ _ _ (by simp)).trans (World.cell?_alloc_at _ _ _ 0 (by simp)))
  ·exact (hb'.cell (by simp)).trans (World.cell?_alloc_at _ _ _ 0 (by simp))
 rintro e w3 ⟨rfl,hb3⟩
 have hb4:Below w.heap.size w w3:=((zAA _ _).alloc (by simp) _).trans (hb3.mono (by simp;omega))
 clear hb3
 go_wp2
 go_ret
 exact⟨rfl,hb4⟩
theorem zI8 {vs:List MVar} {v:Nat} (h:v<vs.length):vs[v]? = some (zAL vs v):=by
 unfold zAL;rw[List.getD_eq_getElem?_getD,List.getElem?_eq_getElem h];rfl
theorem zS4 (c:Int) (k:Nat) (h:c=(k:Int)) (hk:k<64):IntKind.u64.wrap (2 ^ c.toNat)=((2 ^ k:Nat):Int):=by
 rw[IntKind.wrap_u64,h,Int.toNat_natCast]
 have h1:(2:Nat) ^ k<2 ^ 64:=Nat.pow_lt_pow_right (by omega) hk
 have e:((2:Int) ^ k)=((2 ^ k:Nat):Int):=by simp
 rw[e]
 exact Int.emod_eq_of_lt (Int.natCast_nonneg _) (Int.ofNat_lt.2 h1)
set_option maxHeartbeats 400000 in
set_option maxRecDepth 100000 in
theorem zPw (vs:List MVar) (hvo:zAa vs) (v:Nat) (x:Int) (sv:Value) (w:World) (hv:VArg w sv vs) (hl:v<vs.length) (h1:(zAL vs v).lo≤x) (h2:x≤(zAL vs v).hi) (h3:-50≤(zAL vs v).lo∧(zAL vs v).hi≤50) :
 Calls Tryz.prog 186 #[sv,.int .i64 v,.int .i64 x] w fun e w'=>e=.returned (.int .u64 ((2 ^ (6 * v+(x - (zAL vs v).lo).toNat):Nat):Int))∧w'=w:=by
 obtain⟨a,c,rfl,hm,hr⟩:=hv
 obtain⟨_,b,off,rfl,hb,c0,c1,c2⟩:=hr v _ (zI8 hl)
 unfold maxLen at hm
 obtain⟨hm1,hm⟩:=hm
 have h6:=hvo.1
 have hs:=hvo.2 v
 unfold zBz at hs
 obtain⟨lo,hlo⟩:∃lo,(zAL vs v).lo=lo:=⟨_,rfl⟩
 rw[hlo] at h1 h3 hs c1 ⊢
 have HK:Hid (IntKind.u64.wrap (2 ^ ((v:Int) * 6+x - lo).toNat)=((2 ^ (6 * v+(x - lo).toNat):Nat):Int)):=zS4 _ _ (by omega) (by omega)
 have hsh:(0:Int)≤(v:Int) * 6+x - lo:=by omega
 have hsl:(v:Int) * 6+x - lo≤64:=by omega
 clear hr hs hlo
 go_enter Tryz.func186,Tryz.ntmps186
 go_wp2
 go_ret
 exact⟨zAH HK.out,rfl⟩
def zTb (F:Nat) (caps:Array Value) (vs:List MVar) (p:Nat→Int→Bool) (w:World):Prop :=
 (∀(args:Array Value) (w':World),Sem.run Tryz.prog (callFunc F args) w'=.ok (.enter F args) w') ∧
 ∀(k:Nat) (z:Int) (w':World),k<vs.length→(zAL vs k).lo≤z→z≤(zAL vs k).hi→Below w.heap.size w w'→Calls Tryz.prog F (#[.int .i64 k,.int .i64 z]++caps) w' fun e w''=>e=.returned (.bool (p k z))∧Below w'.heap.size w' w''
def zAR (vs:List MVar):Prop:=zAa vs∧∀v:Nat,v<vs.length→-50≤(zAL vs v).lo∧(zAL vs v).hi≤50∧(zAL vs v).lo≤(zAL vs v).hi
theorem zCy (m:Mod) (hm:zAE m=0):zAR m.vars:=⟨zAd m hm,fun v hv=>by
 have:=zIl m hm v _ (zI8 hv)
 omega⟩
theorem zHu {a b:Nat} (ha:a<2 ^ 36) (hb:b<2 ^ 36):a ||| b<2 ^ 36:=Nat.or_lt_two_pow ha hb
theorem zJ5 (vs:List MVar) (hv:zAR vs) (v k:Nat) (h:v<vs.length) (hk:k<zBz (zAL vs v)):2 ^ (6 * v+k)<2 ^ 36:=by
 have h1:=hv.1.1
 have h2:=hv.1.2 v
 exact Nat.pow_lt_pow_right (by omega) (by omega)
theorem zRk (vs:List MVar) (hv:zAR vs) (f:Int→Bool) (v k:Nat) (h:v<vs.length) (hk:k≤zBz (zAL vs v)):rowP f (6 * v) (zAL vs v).lo k<2 ^ 36:=by
 have h1:=hv.1.1
 have h2:=hv.1.2 v
 apply Nat.lt_pow_two_of_testBit
 intro i hi
 rw[zCo]
 have:¬(i<6 * v+k):=by omega
 simp[this]
theorem zPx (f:Int→Bool) (b:Nat) (lo:Int) (k:Nat) (h:f (lo+(k:Int))=false):rowP f b lo (k+1)=rowP f b lo k:=by
 show (if f (lo+(k:Int)) then _ else _)=_
 rw[h];rfl
theorem zRl (f:Int→Bool) (b:Nat) (lo:Int) (k:Nat) (h:f (lo+(k:Int))=true):rowP f b lo (k+1)=rowP f b lo k ||| 2 ^ (b+k):=by
 show (if f (lo+(k:Int)) then _ else _)=_
 rw[h];rfl
set_option maxHeartbeats 800000 in
set_option maxRecDepth 100000 in
theorem zSh (F:Nat) (caps:Array Value) (vs:List MVar) (p:Nat→Int→Bool) (hva:zAR vs) (sv:Value) (w:World) (hv:VArg w sv vs) (hF:zTb F caps vs p w) :
 Calls Tryz.prog 187 #[sv,.func (.func F) #[] caps] w fun e w'=>e=.returned (.int .u64 ((ofP vs p:Nat):Int))∧Below w.heap.size w w':=by
 have HVA:Hid (∀w':World,Below w.heap.size w w'→VArg w' sv vs):=fun w' h=>VArg.below h hv
 obtain⟨a,c,rfl,hm,hr⟩:=hv
 have HV:Hid (∀(i:Nat) (t:MVar),vs[i]? = some t→t.name.size≤maxLen∧∃b off,a=some ⟨b,off,none⟩∧b<w.heap.size ∧
  w.cell? ⟨b,off+i * 3,none⟩=some (.string t.name)∧w.cell? ⟨b,off+i * 3+1,none⟩=some (.int .i64 t.lo)∧w.cell? ⟨b,off+i * 3+2,none⟩=some (.int .i64 t.hi)):=hr
 have HF:Hid (zTb F caps vs p w):=hF
 have HVO:Hid (zAR vs):=hva
 have h6:=hva.1.1
 unfold maxLen at hm
 obtain⟨hm1,hm⟩:=hm
 clear hr hF hva
 go_enter Tryz.func187,Tryz.ntmps187
 go_wp2_with fail
 go_loopw [5,11] (fun o i wr=>∃k:Nat,k≤vs.length∧i=.int .i64 k∧o=.int .u64 ((ofN vs p k:Nat):Int)∧Below w.heap.size w wr) (fun _ i _=>vs.length - (intOf i).toNat)
 case atStart=>exact⟨0,by omega,rfl,rfl,Below.refl _ _⟩
 case round =>
  obtain⟨k,hk,rfl,rfl,hbw⟩:=hrel
  have HBW:Hid (Below w.heap.size w wr):=hbw
  clear hbw
  by_cases hlt:k<vs.length
  ·obtain⟨hnm,b,off,ha,hb,q0,q1,q2⟩:=HV.out k _ (zI8 hlt)
   subst ha
   have hbn:=HVO.out.2 k hlt
   have hsz:=HVO.out.1.2 k
   have HSZ:Hid (zBz (zAL vs k)=((zAL vs k).hi+1 - (zAL vs k).lo).toNat):=rfl
   obtain⟨n,hn⟩:∃n,zBz (zAL vs k)=n:=⟨_,rfl⟩
   have HN:Hid (zBz (zAL vs k)=n):=hn
   have hnn:(n:Int)=(zAL vs k).hi+1 - (zAL vs k).lo:=by
    have:=HSZ.out
    omega
   have hn6:n≤6:=by omega
   have hc0:=(HBW.out.cell (p:=⟨b,off+k * 3,none⟩) hb).trans q0
   have hc1:=(HBW.out.cell (p:=⟨b,off+k * 3+1,none⟩) hb).trans q1
   have hc2:=(HBW.out.cell (p:=⟨b,off+k * 3+2,none⟩) hb).trans q2
   obtain⟨lo,hlo⟩:∃lo,(zAL vs k).lo=lo:=⟨_,rfl⟩
   obtain⟨hi,hhi⟩:∃hi,(zAL vs k).hi=hi:=⟨_,rfl⟩
   have HLO:Hid ((zAL vs k).lo=lo):=hlo
   have HHI:Hid ((zAL vs k).hi=hi):=hhi
   rw[hlo] at hc1 hbn hnn
   rw[hhi] at hc2 hbn hnn
   obtain⟨nm,hnm2⟩:∃nm,(zAL vs k).name=nm:=⟨_,rfl⟩
   rw[hnm2] at hc0
   have HO:Hid (ofN vs p (k+1)=ofN vs p k ||| rowP (p k) (6 * k) lo n):=by show _=_;rw[←hlo,←hn];rfl
   have HO36:Hid (ofN vs p k<2 ^ 36):=zSg vs HVO.out.1 p k (by omega)
   have HROW:Hid (∀j,j≤n→rowP (p k) (6 * k) lo j<2 ^ 36):=fun j hj=>by rw[←hlo];exact zRk vs HVO.out (p k) k j hlt (by omega)
   have HPOW:Hid (∀j,j<n→2 ^ (6 * k+j)<2 ^ 36):=fun j hj=>zJ5 vs HVO.out k j hlt (by omega)
   clear q0 q1 q2 hsz hn hlo hhi hnm hnm2 HSZ
   have hbs:=HBW.out.size
   obtain⟨B,hB⟩:∃B,wr.heap.size=B:=⟨_,rfl⟩
   obtain⟨o0,ho0⟩:∃o0,ofN vs p k=o0:=⟨_,rfl⟩
   have HO0:Hid (ofN vs p k=o0):=ho0
   rw[ho0] at HO HO36 ⊢
   clear ho0
   have HVO2:Hid (zAa vs):=HVO.out.1
   have hlk:(zAL vs k).lo=lo:=HLO.out
   have HONE:Hid (∀(j:Nat) (w':World),j<n→Below w.heap.size w w'→Calls Tryz.prog 186 #[.slice (some ⟨b,off,none⟩) vs.length c,.int .i64 k,.int .i64 (lo+(j:Int))] w' fun e w''=>e=.returned (.int .u64 ((2 ^ (6 * k+j):Nat):Int))∧w''=w'):=by
    intro j w' hj hb'
    have h1:=zPw vs HVO2.out k (lo+(j:Int)) _ w' (HVA.out w' hb') hlt (by rw[HLO.out];omega) (by rw[HHI.out];omega) (by rw[HLO.out,HHI.out];omega)
    rw[HLO.out,show (lo+(j:Int) - lo).toNat=j by omega] at h1
    exact h1
   have HCLO:Hid (∀(j:Nat) (w':World),j<n→Below w.heap.size w w'→Calls Tryz.prog F (#[.int .i64 k,.int .i64 (lo+(j:Int))]++caps) w' fun e w''=>e=.returned (.bool (p k (lo+(j:Int))))∧Below w'.heap.size w' w''):=by
    intro j w' hj hb'
    exact HF.out.2 k _ w' hlt (by rw[HLO.out];omega) (by rw[HHI.out];omega) hb'
   clear hlk
   go_wp2_with fail
   have HB:Hid (wr.heap.size=B):=hB
   have HB0:Hid (Below w.heap.size w (wr.alloc (.cells #[.string nm,.int .i64 lo,.int .i64 hi] 71))):=HBW.out.alloc hbs _
   have HC2:Hid ((wr.alloc (.cells #[.string nm,.int .i64 lo,.int .i64 hi] 71)).cell? ⟨B,2,none⟩=some (.int .i64 hi)):=by show _=_;rw[←hB];exact World.cell?_alloc_at _ _ _ 2 (by simp)
   have HW:Hid (w.heap.size≤B):=by rw[←hB];exact hbs
   obtain⟨W1,hW1⟩:∃W1,wr.alloc (.cells #[.string nm,.int .i64 lo,.int .i64 hi] 71)=W1:=⟨_,rfl⟩
   rw[hW1] at HB0 HC2 ⊢
   have HW1:Hid (W1.heap.size=B+1):=by show _=_;rw[←hW1,←hB];simp
   clear hc0 hc1 hc2 hB hW1 hbs
   go_loopw [5,8] (fun o i wr=>∃j:Nat,j≤n∧i=.int .i64 (lo+(j:Int))∧o=.int .u64 ((o0 ||| rowP (p k) (6 * k) lo j:Nat):Int)∧Below W1.heap.size W1 wr) (fun _ i _=>(hi+1 - intOf i).toNat)
   case atStart=>exact⟨0,by omega,by simp,by simp[rowP],Below.refl _ _⟩
   case round =>
    obtain⟨j,hj,rfl,rfl,hbw2⟩:=hrel
    have hcc:=(hbw2.cell (p:=⟨B,2,none⟩) (by rw[HW1.out];simp)).trans HC2.out
    have HBN:Hid (Below w.heap.size w wr):=HB0.out.trans (hbw2.mono (by rw[HW1.out];have:=HW.out;omega))
    have HBW2:Hid (Below W1.heap.size W1 wr):=hbw2
    clear hbw2
    by_cases hlj:j<n
    ·have hle:lo+(j:Int)≤hi:=by omega
     have HCALL:=HCLO.out j wr hlj HBN.out
     cases hq:p k (lo+(j:Int))
     ·have HNX:Hid (rowP (p k) (6 * k) lo (j+1)=rowP (p k) (6 * k) lo j):=zPx _ _ _ _ hq
      obtain⟨q,hqq⟩:∃q,o0 ||| rowP (p k) (6 * k) lo j=q:=⟨_,rfl⟩
      have HQ:Hid (o0 ||| rowP (p k) (6 * k) lo j=q):=hqq
      rw[hqq]
      have HC3:Hid (Calls Tryz.prog F (#[.int .i64 k,.int .i64 (lo+(j:Int))]++caps) wr fun e w''=>e=.returned (.bool false)∧Below wr.heap.size wr w''):=by rw[←hq];exact HCALL
      clear hqq HCALL hq
      go_wp2_with fail
      rw[HF.out.1,Oper.upon_enter]
      refine HC3.out.mono ?_
      rintro e w1 ⟨rfl,hb1⟩
      have HB3:Hid (Below W1.heap.size W1 w1):=HBW2.out.trans (hb1.mono HBW2.out.size)
      clear hb1 hcc
      go_wp2
      go_roundw
      case rel=>exact⟨j+1,by omega,by go_num,by rw[HNX.out,HQ.out],HB3.out⟩
      case measure=>simp[intOf];omega
     ·have HNX:Hid (rowP (p k) (6 * k) lo (j+1)=rowP (p k) (6 * k) lo j ||| 2 ^ (6 * k+j)):=zRl _ _ _ _ hq
      obtain⟨q,hqq⟩:∃q,o0 ||| rowP (p k) (6 * k) lo j=q:=⟨_,rfl⟩
      have hq36:q<2 ^ 36:=by rw[←hqq];exact zHu HO36.out (HROW.out j hj)
      have hp36:=HPOW.out j hlj
      have HQ:Hid (o0 ||| rowP (p k) (6 * k) lo (j+1)=q ||| 2 ^ (6 * k+j)):=by show _=_;rw[HNX.out,←hqq,Nat.or_assoc]
      rw[hqq]
      have HC3:Hid (Calls Tryz.prog F (#[.int .i64 k,.int .i64 (lo+(j:Int))]++caps) wr fun e w''=>e=.returned (.bool true)∧Below wr.heap.size wr w''):=by rw[←hq];exact HCALL
      have HO1:=HONE
      obtain⟨t,ht⟩:∃t,2 ^ (6 * k+j)=t:=⟨_,rfl⟩
      have HT:Hid (2 ^ (6 * k+j)=t):=ht
      rw[ht] at HQ hp36
      have hor:=bits_or_u64_nat q t (by omega) (by omega)
      clear hqq HCALL hq ht hq36 hp36
      go_wp2_with fail
      rw[HF.out.1,Oper.upon_enter]
      refine HC3.out.mono ?_
      rintro e w1 ⟨rfl,hb1⟩
      have HB3:Hid (Below W1.heap.size W1 w1):=HBW2.out.trans (hb1.mono HBW2.out.size)
      have HBN3:Hid (Below w.heap.size w w1):=HBN.out.trans (hb1.mono HBN.out.size)
      clear hb1 hcc
      go_wp2_with fail
      refine (HONE.out j w1 hlj HBN3.out).mono ?_
      rintro e w2 ⟨rfl,rfl⟩
      rw[HT.out]
      go_wp2
      go_roundw
      case rel=>exact⟨j+1,by omega,by go_num,by rw[HQ.out],HB3.out⟩
      case measure=>simp[intOf];omega
    ·have hle:¬(lo+(j:Int)≤hi):=by omega
     have hjn:j=n:=by omega
     have HNX:Hid (o0 ||| rowP (p k) (6 * k) lo j=ofN vs p (k+1)):=by show _=_;rw[HO.out,hjn]
     clear hjn
     obtain⟨q,hqq⟩:∃q,o0 ||| rowP (p k) (6 * k) lo j=q:=⟨_,rfl⟩
     rw[hqq] at HNX ⊢
     clear hqq
     go_wp2
     go_roundw
     case rel=>exact⟨k+1,by omega,by go_num,by rw[HNX.out],HBN.out⟩
     case measure=>simp[intOf];omega
  ·have hke:k=vs.length:=by omega
   subst hke
   go_wp2
   go_ret
   exact⟨rfl,HBW.out⟩
theorem zS5 (p k:Nat) (hp:p<2 ^ 36):bits .and .u64 ((p:Int) / 2 ^ (k * 6)) 63=((p / 2 ^ (k * 6) &&& 63:Nat):Int):=by
 have e2:(p:Int) / 2 ^ (k * 6)=((p / 2 ^ (k * 6):Nat):Int):=by simp
 rw[e2]
 have h1:p / 2 ^ (k * 6)≤p:=Nat.div_le_self _ _
 exact bits_and_u64_nat _ 63 (by omega) (by omega)
theorem zNY (n p k:Nat) (h:k<n) (h0:p / 2 ^ (k * 6) &&& 63=0):zCA n p=true:=by
 unfold zCA
 exact List.any_eq_true.2 ⟨k,List.mem_range.2 h,by simp[h0]⟩
theorem zPy (n p:Nat) (h:∀k,k<n→p / 2 ^ (k * 6) &&& 63≠0):zCA n p=false:=by
 cases hl:zCA n p
 ·rfl
 ·unfold zCA at hl
  obtain⟨v,hv,hb⟩:=List.any_eq_true.1 hl
  exact absurd (by simpa using hb) (h v (List.mem_range.1 hv))
set_option maxHeartbeats 400000 in
set_option maxRecDepth 100000 in
theorem zHv (vs:List MVar) (hn:vs.length≤6) (p:Nat) (hp:p<2 ^ 36) (sv:Value) (w:World) (hv:VArg w sv vs) :
 Calls Tryz.prog 182 #[sv,.int .u64 p] w fun e w'=>e=.returned (.bool (zCA vs.length p))∧w'=w:=by
 obtain⟨a,c,rfl,hm,_⟩:=hv
 unfold maxLen at hm
 obtain⟨hm1,hm⟩:=hm
 obtain⟨R,hR⟩:∃R,zCA vs.length p=R:=⟨_,rfl⟩
 rw[hR]
 have HR:Hid (zCA vs.length p=R):=hR
 clear hR
 have HP:Hid (p<2 ^ 36):=hp
 clear hp
 go_enter Tryz.func182,Tryz.ntmps182
 go_wp2_with fail
 go_loopw [8] (fun i wr=>∃k:Nat,k≤vs.length∧i=.int .i64 k∧Hid (∀j,j<k→p / 2 ^ (j * 6) &&& 63≠0)∧wr=w) (fun i _=>vs.length - (intOf i).toNat)
 case atStart=>exact⟨0,by omega,rfl,fun j h=>by omega,rfl⟩
 case round =>
  obtain⟨k,hk,rfl,hall,rfl⟩:=hrel
  by_cases hlt:k<vs.length
  ·obtain⟨q,hq⟩:∃q,p / 2 ^ (k * 6) &&& 63=q:=⟨_,rfl⟩
   have hb:=zS5 p k HP.out
   rw[hq] at hb
   have HQ:Hid (p / 2 ^ (k * 6) &&& 63=q):=hq
   clear hq
   have h2:(0:Int)≤(k:Int) * 6:=by omega
   by_cases h0:q=0
   ·have HN:Hid (R=true):=by show _=_;rw[←HR.out];exact zNY _ _ k hlt (by rw[HQ.out];exact h0)
    subst h0
    go_wp2
    go_ret
    exact⟨zAG HN.out.symm,rfl⟩
   ·have HN:Hid (∀j,j<k+1→p / 2 ^ (j * 6) &&& 63≠0):=fun j hj=>by
     by_cases hjk:j=k
     ·subst hjk;rw[HQ.out];exact h0
     ·exact hall.out j (by omega)
    have h0':((q:Int)==0)=false:=by simpa using h0
    clear hall
    go_wp2
    go_roundw
    case rel=>exact⟨k+1,by omega,by go_num,HN,trivial⟩
    case measure=>simp[intOf];omega
  ·have hke:k=vs.length:=by omega
   have HN:Hid (R=false):=by show _=_;rw[←HR.out];exact zPy _ _ (by rw[←hke];exact hall.out)
   clear hall hke
   go_wp2
   go_ret
   exact⟨zAG HN.out.symm,rfl⟩
def GArg (w:World) (v:Value) (l:List Sto):Prop :=
 ∃a c,v=.slice a l.length c∧(l.length≤c∧c≤maxLen)∧∀(i:Nat) (r:Sto),l[i]? = some r→∃b off x,a=some ⟨b,off,none⟩∧b<w.heap.size∧w.cell? ⟨b,off+i,none⟩=some x∧RArg w x r
theorem GArg.below {w w':World} {v:Value} {l:List Sto} (hb:Below w.heap.size w w') (h:GArg w v l):GArg w' v l:=by
 obtain⟨a,c,hv,hm,hr⟩:=h
 refine⟨a,c,hv,hm,fun i z hz=>?_⟩
 obtain⟨b,off,x,ha,hlt,hc,hx⟩:=hr i z hz
 exact⟨b,off,x,ha,Nat.lt_of_lt_of_le hlt hb.size,(hb.cell (p:=⟨b,off+i,none⟩) hlt).trans hc,RArg.below hb hx⟩
set_option maxHeartbeats 400000 in
theorem zOM (x y:Value) (w:World):Calls Tryz.prog 246 #[x,y] w fun e w'=>e=.returned (.bool true)∧Below w.heap.size w w':=by
 go_enter Tryz.func246,Tryz.ntmps246
 go_wp2
 go_ret
 exact⟨rfl,Below.refl _ _⟩
theorem zKl (args:Array Value) (w':World):Sem.run Tryz.prog (callFunc 246 args) w'=.ok (.enter 246 args) w':=by
 simp[callFunc,go_sem,Tryz.func246,Tryz.f246]
set_option maxHeartbeats 400000 in
theorem zGI (vs:List MVar) (hva:zAR vs) (sv:Value) (w:World) (hv:VArg w sv vs) :
 Calls Tryz.prog 183 #[sv] w fun e w'=>e=.returned (.int .u64 ((zAC vs:Nat):Int))∧Below w.heap.size w w':=by
 have HV:Hid (VArg w sv vs):=hv
 have HVO:Hid (zAR vs):=hva
 obtain⟨a,c,rfl,_,_⟩:=hv
 clear hva
 go_enter Tryz.func183,Tryz.ntmps183
 go_wp2_with fail
 refine (zSh 246 #[] vs (fun _ _=>true) HVO.out _ _ HV.out ⟨zKl,fun k z w' _ _ _ _=>zOM _ _ w'⟩).mono ?_
 rintro e w1 ⟨rfl,hb1⟩
 go_wp2
 go_ret
 exact⟨rfl,hb1⟩
set_option maxHeartbeats 400000 in
theorem zRm (c:Cla) (k:Nat) (z:Int) (u:Value) (b1:Nat) (w:World) (hu:LArg w u c) (h1:w.cell? ⟨b1,0,none⟩=some u) :
 Calls Tryz.prog 188 #[.int .i64 k,.int .i64 z,.pointer (some ⟨b1,0,none⟩)] w fun e w'=>e=.returned (.bool (oneB c k z))∧Below w.heap.size w w':=by
 have HU:Hid (LArg w u c):=hu
 obtain⟨a,cc,rfl,_,_⟩:=hu
 go_enter Tryz.func188,Tryz.ntmps188
 go_wp2_with fail
 refine (zTa c k z _ _ HU.out).mono ?_
 rintro e w1 ⟨rfl,hb1⟩
 go_wp2
 go_ret
 exact⟨rfl,hb1⟩
theorem zMJ (args:Array Value) (w':World):Sem.run Tryz.prog (callFunc 188 args) w'=.ok (.enter 188 args) w':=by
 simp[callFunc,go_sem,Tryz.func188,Tryz.f188]
set_option maxHeartbeats 400000 in
theorem zDp (vs:List MVar) (hva:zAR vs) (cl:Cla) (sv u:Value) (w:World) (hv:VArg w sv vs) (hu:LArg w u cl) :
 Calls Tryz.prog 128 #[sv,u] w fun e w'=>e=.returned (.int .u64 ((zAF vs cl:Nat):Int))∧Below w.heap.size w w':=by
 have HV:Hid (∀w',Below w.heap.size w w'→VArg w' sv vs):=fun w' h=>VArg.below h hv
 have HU:Hid (∀w',Below w.heap.size w w'→LArg w' u cl):=fun w' h=>LArg.below h hu
 have HVO:Hid (zAR vs):=hva
 obtain⟨a,c,rfl,_,_⟩:=hv
 obtain⟨a2,c2,rfl,_,_⟩:=hu
 clear hva
 go_enter Tryz.func128,Tryz.ntmps128
 go_wp2_with fail
 refine (zSh 188 _ vs (fun v x=>oneB cl v x) HVO.out _ _ (HV.out _ (zAA _ _)) ⟨zMJ,fun k z w' hk _ _ hb'=>?_⟩).mono ?_
 ·exact zRm cl k z _ w.heap.size w' (HU.out _ ((zAA _ _).trans (hb'.mono (by simp)))) ((hb'.cell (by simp)).trans (World.cell?_alloc_at _ _ _ 0 (by simp)))
 rintro e w1 ⟨rfl,hb1⟩
 have hb2:Below w.heap.size w w1:=(zAA _ _).trans (hb1.mono (by simp))
 clear hb1
 go_wp2
 go_ret
 exact⟨rfl,hb2⟩
def PArg (w:World) (v:Value) (l:List Nat):Prop :=
 ∃a c,v=.slice a l.length c∧(l.length≤c∧c≤maxLen)∧∀(i z:Nat),l[i]? = some z→z<2 ^ 36∧∃b off,a=some ⟨b,off,none⟩∧b<w.heap.size∧w.cell? ⟨b,off+i,none⟩=some (.int .u64 z)
theorem PArg.below {w w':World} {v:Value} {l:List Nat} (hb:Below w.heap.size w w') (h:PArg w v l):PArg w' v l:=by
 obtain⟨a,c,hv,hm,hr⟩:=h
 refine⟨a,c,hv,hm,fun i z hz=>?_⟩
 obtain⟨hz36,b,off,ha,hlt,hc⟩:=hr i z hz
 exact⟨hz36,b,off,ha,Nat.lt_of_lt_of_le hlt hb.size,(hb.cell (p:=⟨b,off+i,none⟩) hlt).trans hc⟩
set_option maxHeartbeats 400000 in
theorem zKm (p h:Nat) (hp:p<2 ^ 36) (hh:h<2 ^ 36) (b1:Nat) (w:World) (h1:w.cell? ⟨b1,0,none⟩=some (.int .u64 h)) :
 Calls Tryz.prog 181 #[.int .u64 p,.pointer (some ⟨b1,0,none⟩)] w fun e w'=>e=.returned (.bool (zD6 h p))∧w'=w:=by
 have hb:=bits_and_u64_nat p h (by omega) (by omega)
 have HN:Hid (zD6 h p=(((p &&& h:Nat):Int)==0)):=by
  show _=_
  unfold zD6
  by_cases h0:p &&& h=0
  ·simp[h0]
  ·have:(((p &&& h:Nat):Int)==0)=false:=by simpa using h0
   rw[this];simpa using h0
 rw[HN.out]
 obtain⟨q,hq⟩:∃q,p &&& h=q:=⟨_,rfl⟩
 rw[hq] at hb ⊢
 clear hq hp hh
 go_enter Tryz.func181,Tryz.ntmps181
 go_wp2
 go_ret
 exact⟨rfl,rfl⟩
set_option maxHeartbeats 400000 in
set_option maxRecDepth 100000 in
theorem zKn (h:Nat) (hh:h<2 ^ 36) (b1:Nat) (l:List Nat) (v:Value) (w:World) (hv:PArg w v l) (h1:w.cell? ⟨b1,0,none⟩=some (.int .u64 h)) :
 Calls Tryz.prog 247 #[v,.func (.func 181) #[] #[.pointer (some ⟨b1,0,none⟩)]] w fun e w'=>(∃z:Int,e=.returned (.int .i64 z)∧(decide (0≤z))=l.any (zD6 h))∧w'=w:=by
 obtain⟨a,c,rfl,hm,hr⟩:=hv
 have HV:Hid (∀(i z:Nat),l[i]? = some z→z<2 ^ 36∧∃b off,a=some ⟨b,off,none⟩∧b<w.heap.size∧w.cell? ⟨b,off+i,none⟩=some (.int .u64 z)):=hr
 have HH:Hid (h<2 ^ 36):=hh
 unfold maxLen at hm
 obtain⟨hm1,hm⟩:=hm
 clear hr hh
 go_enter Tryz.func247,Tryz.ntmps247
 go_wp2_with fail
 go_loopw [8] (fun i wr=>∃k:Nat,k≤l.length∧i=.int .i64 k∧Hid ((l.take k).any (zD6 h)=false)∧wr=w) (fun i _=>l.length - (intOf i).toNat)
 case atStart=>exact⟨0,by omega,rfl,rfl,rfl⟩
 case round =>
  obtain⟨k,hk,rfl,hall,rfl⟩:=hrel
  by_cases hlt:k<l.length
  ·obtain⟨z,hz⟩:∃z,l[k]? = some z:=⟨l[k],by simp[hlt]⟩
   obtain⟨hz36,b,off,ha,hb,hc⟩:=HV.out k z hz
   subst ha
   have HZ:Hid (l[k]? = some z):=hz
   have HZ36:Hid (z<2 ^ 36):=hz36
   clear hz hz36
   cases hq:zD6 h z
   ·have HN:Hid ((l.take (k+1)).any (zD6 h)=false):=by show _=_;rw[List.take_add_one,HZ.out,List.any_append,hall.out];simp[hq]
    have HC:=zKm z h HZ36.out HH.out b1 wr h1
    rw[hq] at HC
    have HC2:Hid (Calls Tryz.prog 181 #[.int .u64 z,.pointer (some ⟨b1,0,none⟩)] wr fun e w'=>e=.returned (.bool false)∧w'=wr):=HC
    clear HC hq hall
    go_wp2_with fail
    refine HC2.out.mono ?_
    rintro e w ⟨rfl,rfl⟩
    go_wp2
    go_roundw
    case rel=>exact⟨k+1,by omega,by go_num,HN,trivial⟩
    case measure=>simp[intOf];omega
   ·have HN:Hid (l.any (zD6 h)=true):=List.any_eq_true.2 ⟨z,List.mem_of_getElem? HZ.out,hq⟩
    have HC:=zKm z h HZ36.out HH.out b1 wr h1
    rw[hq] at HC
    have HC2:Hid (Calls Tryz.prog 181 #[.int .u64 z,.pointer (some ⟨b1,0,none⟩)] wr fun e w'=>e=.returned (.bool true)∧w'=wr):=HC
    clear HC hq hall
    go_wp2_with fail
    refine HC2.out.mono ?_
    rintro e w ⟨rfl,rfl⟩
    go_wp2
    go_ret
    exact⟨⟨k,rfl,by rw[HN.out];simp⟩,rfl⟩
  ·have hke:k=l.length:=by omega
   have HN:Hid (l.any (zD6 h)=false):=by have:=hall.out;rw[hke,List.take_length] at this;exact this
   clear hall hke
   go_wp2
   go_ret
   exact⟨⟨-1,rfl,by rw[HN.out];simp⟩,rfl⟩
set_option maxHeartbeats 400000 in
theorem zHw (h:Nat) (hh:h<2 ^ 36) (b1:Nat) (l:List Nat) (v:Value) (w:World) (hv:PArg w v l) (h1:w.cell? ⟨b1,0,none⟩=some (.int .u64 h)) :
 Calls Tryz.prog 184 #[v,.func (.func 181) #[] #[.pointer (some ⟨b1,0,none⟩)]] w fun e w'=>e=.returned (.bool (l.any (zD6 h)))∧w'=w:=by
 have HV:Hid (PArg w v l):=hv
 have HH:Hid (h<2 ^ 36):=hh
 obtain⟨a,c,rfl,_,_⟩:=hv
 clear hh
 go_enter Tryz.func184,Tryz.ntmps184
 go_wp2_with fail
 refine (zKn h HH.out b1 l _ _ HV.out h1).mono ?_
 rintro e w ⟨⟨z,rfl,hz⟩,rfl⟩
 have HZ:Hid (decide (0≤z)=l.any (zD6 h)):=hz
 clear hz
 go_wp2
 go_ret
 exact⟨zAG HZ.out,rfl⟩
end Go.Proofs.YtdjbejlbmaiocagGreatDoor
