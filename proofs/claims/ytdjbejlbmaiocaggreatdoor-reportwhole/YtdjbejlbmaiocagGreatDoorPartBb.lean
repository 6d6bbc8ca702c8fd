/- What the proof leans on, part 28. -/
import Derived.Test.YtdjbejlbmaiocagGreatDoorPartAk
import Derived.Test.YtdjbejlbmaiocagGreatDoorPartBa
import Derived.Test.YtdjbejlbmaiocagGreatDoorPartAz
namespace Go.Proofs.YtdjbejlbmaiocagGreatDoor
def zBi (m:Mod) (R:Int×List Int×Sk):Sk:=⟨R.2.2.cs++[zAF m.vars (zAq m R.2.1)],R.2.2.fuel,R.2.2.proof,R.2.2.path⟩
def zJQ (m:Mod):Nat→Int×List Int×Sk→List Int→Ans
 | 0,_,_=>zH9
 | n+1,R,best=>if R.1=1 then zJQ m n (zAV m.vars (ptsM m) (zBi m R)) R.2.1
   else if R.1=3 then ⟨3,[],[]⟩ else if 0<best.length then ⟨1,best,R.2.2.proof⟩ else ⟨R.1,best,R.2.2.proof⟩
def zDj (m:Mod) (R:Int×List Int×Sk):Nat :=
 if R.1=1 then (if m.goal=1 then (zAO R.2.1 m.var - (zAL m.vars m.var.toNat).lo).toNat+1 else ((zAL m.vars m.var.toNat).hi - zAO R.2.1 m.var).toNat+1) else 0
def zBj (m:Mod) (R:Int×List Int×Sk) (best:List Int):Ans:=zJQ m (zDj m R+1) R best
def zB5 (m:Mod) (fuel:Int):Ans:=zBj m (zEg m fuel) []
def zB0 (m:Mod) (fuel:Int):Ans×Int :=
 if m.goal=0 then zFZ m fuel
 else if zAE m=0 then (if fuel<0∨300<fuel then (zH9,3) else (zB5 m fuel,0)) else (zH9,zAE m)
theorem zBf (m:Mod) (hm:zAE m=0) (S:Sk) (h:(zAV m.vars (ptsM m) S).1=1):Sol m (zAV m.vars (ptsM m) S).2.1∧∀c∈S.cs,Hits m.vars (zAV m.vars (ptsM m) S).2.1 c:=by
 obtain⟨_,h2,_⟩:=zDM m hm (fun _=>False) _ S (Nat.lt_succ_self _) (fun x _ hf=>hf.elim)
 obtain⟨k1,k2,k3⟩:=h2 h
 exact⟨k1,fun c hc=>k2 c (k3 c hc)⟩
theorem zES (m:Mod) (hm:zAE m=0) (vals:List Int):∀l∈zAq m vals,0≤l.var∧l.var<(m.vars.length:Int):=by
 obtain⟨h1,h2,_⟩:=zC0 m hm
 intro l hl
 unfold zAq at hl
 split at hl
 ·rw[List.mem_singleton.1 hl];exact⟨h1,h2⟩
 ·split at hl
  ·rw[List.mem_singleton.1 hl];exact⟨h1,h2⟩
  ·cases hl
theorem zCu (m:Mod) (vals x:List Int) (hg:m.goal=1∨m.goal=2):claB (zAq m vals) x=true↔if m.goal=1 then zAO x m.var≤zAO vals m.var - 1 else zAO vals m.var+1≤zAO x m.var:=by
 unfold zAq
 rcases hg with hg | hg
 ·rw[if_pos hg,if_pos hg]
  unfold claB
  simp only[List.any_cons,List.any_nil,Bool.or_false]
  unfold litV zAO
  simp
 ·rw[if_neg (by omega),if_pos hg,if_neg (by omega)]
  unfold claB
  simp only[List.any_cons,List.any_nil,Bool.or_false]
  unfold litV zAO
  simp
theorem zEE (m:Mod) (hm:zAE m=0) (x:List Int) (h:Sol m x):(zAL m.vars m.var.toNat).lo≤zAO x m.var∧zAO x m.var≤(zAL m.vars m.var.toNat).hi:=by
 obtain⟨h1,h2,_⟩:=zC0 m hm
 have:=h.1.2 m.var.toNat (by omega)
 rwa [Int.toNat_of_nonneg h1] at this
theorem zDN (m:Mod) (hm:zAE m=0) (hg:m.goal=1∨m.goal=2) (R:Int×List Int×Sk) (h1:R.1=1) (hs:Sol m R.2.1):zDj m (zAV m.vars (ptsM m) (zBi m R))<zDj m R:=by
 have h0:0<zDj m R:=by
  unfold zDj
  rw[if_pos h1]
  split <;> omega
 by_cases hn:(zAV m.vars (ptsM m) (zBi m R)).1=1
 ·obtain⟨k1,k2⟩:=zBf m hm (zBi m R) hn
  have hh:=k2 _ (List.mem_append_right _ (List.mem_singleton.2 rfl))
  rw[zD7 m.vars (zAd m hm) _ k1.1 _ (zES m hm _)] at hh
  rw[zCu m _ _ hg] at hh
  have r1:=zEE m hm _ k1
  have r2:=zEE m hm _ hs
  unfold zDj
  rw[if_pos hn,if_pos h1]
  split
  ·rename_i hq
   rw[if_pos hq] at hh
   omega
  ·rename_i hq
   rw[if_neg hq] at hh
   omega
 ·unfold zDj
  rw[if_neg hn]
  exact h0
theorem zJR (m:Mod) (hm:zAE m=0) (hg:m.goal=1∨m.goal=2):∀(f g:Nat) (R:Int×List Int×Sk) (b:List Int),(R.1=1→Sol m R.2.1)→zDj m R<f→zDj m R<g→zJQ m f R b=zJQ m g R b
 | 0,g,R,b,_,hf,_=>by omega
 | f+1,0,R,b,_,_,hg=>by omega
 | f+1,g+1,R,b,hs,hf,hg'=>by
   unfold zJQ
   split
   ·rename_i h1
    have:=zDN m hm hg R h1 (hs h1)
    exact zJR m hm hg f g _ _ (fun h=>(zBf m hm _ h).1) (by omega) (by omega)
   ·rfl
theorem zDO (m:Mod) (hm:zAE m=0) (hg:m.goal=1∨m.goal=2) (R:Int×List Int×Sk) (b:List Int) (hs:R.1=1→Sol m R.2.1):zBj m R b=if R.1=1 then zBj m (zAV m.vars (ptsM m) (zBi m R)) R.2.1
 else if R.1=3 then ⟨3,[],[]⟩ else if 0<b.length then ⟨1,b,R.2.2.proof⟩ else ⟨R.1,b,R.2.2.proof⟩:=by
 conv=>lhs;unfold zBj zJQ
 split
 ·rename_i h1
  have:=zDN m hm hg R h1 (hs h1)
  exact zJR m hm hg _ _ _ _ (fun h=>(zBf m hm _ h).1) (by omega) (by omega)
 ·rfl
theorem zMd (vs:List MVar) (hv:zAa vs) (pt:List (List Nat)):∀(N:Nat) (S:Sk),zCj vs S<N→SkO vs S→(zAV vs pt S).1=1→SkO vs (zAV vs pt S).2.2∧(zAV vs pt S).2.2.cs.length+(zAV vs pt S).2.2.fuel=S.cs.length+S.fuel
 | 0,S,h,_=>by omega
 | N+1,S,h,hs=>by
   rw[zGE vs hv]
   split
   ·split
    ·rename_i h0
     intro h1
     obtain⟨k1,k2⟩:=zMd vs hv pt N _ (by have:=zEA vs pt S h0;omega) (zMb vs pt S hs h0) h1
     refine⟨k1,k2.trans ?_⟩
     have hf:=zKh vs pt S h0
     unfold zBL at h0 hf ⊢
     split
     ·rename_i hc;rw[if_pos hc] at h0
     ·rename_i hc0
      rw[if_neg hc0] at h0 hf
      split
      ·rename_i hc;rw[if_pos hc] at h0;cases h0
      ·rename_i hc1
       rw[if_neg hc1] at h0 hf
       split
       ·rename_i hc;rw[if_pos hc] at h0;cases h0
       ·simp only[List.length_append,List.length_singleton]
        omega
    ·rename_i h0
     intro h1
     simp only at h1
     unfold zBL at h0 h1
     split at h1
     ·cases h1
     ·split at h1
      ·cases h1
      ·split at h1
       ·cases h1
       ·cases h1
   ·split
    ·exact fun _=>⟨hs,rfl⟩
    ·rename_i hf
     intro h1
     exact zMd vs hv pt N _ (by have:=zFI vs hv pt S hf;omega) (zQN vs hv pt S hs hf) h1
theorem zKD (vs:List MVar) (hv:zAa vs) (pt:List (List Nat)) (S:Sk) (hs:SkO vs S) (h:(zAV vs pt S).1=1):SkO vs (zAV vs pt S).2.2∧(zAV vs pt S).2.2.cs.length+(zAV vs pt S).2.2.fuel=S.cs.length+S.fuel:=zMd vs hv pt _ S (Nat.lt_succ_self _) hs h
theorem zQT (m:Mod) (hm:zAE m=0) (R:Int×List Int×Sk) (hs:R.1=1→Sol m R.2.1):zDj m R≤6:=by
 unfold zDj
 by_cases h1:R.1=1
 ·rw[if_pos h1]
  have r:=zEE m hm _ (hs h1)
  have h6:=(zAd m hm).2 m.var.toNat
  unfold zBz at h6
  split <;> omega
 ·rw[if_neg h1];omega
def zGO (m:Mod) (vals x:List Int):Prop:=if m.goal=1 then zAO vals m.var≤zAO x m.var else zAO x m.var≤zAO vals m.var
theorem zIB (m:Mod) (hm:zAE m=0) (hg:m.goal=1∨m.goal=2):∀(N:Nat) (S:Sk) (b:List Int),zDj m (zAV m.vars (ptsM m) S)<N→zPs m (fun x=>b=[]∨¬zGO m b x) S→(b=[]∨(Sol m b∧zAF m.vars (zAq m b)∈S.cs)) →
 ((zBj m (zAV m.vars (ptsM m) S) b).verdict=1→∀x,Sol m x→zGO m (zBj m (zAV m.vars (ptsM m) S) b).values x) ∧
 ((zBj m (zAV m.vars (ptsM m) S) b).verdict=2→∀x,¬Sol m x) ∧
 ((zBj m (zAV m.vars (ptsM m) S) b).verdict=1→Sol m (zBj m (zAV m.vars (ptsM m) S) b).values) ∧
 ((zBj m (zAV m.vars (ptsM m) S) b).verdict=1∨(zBj m (zAV m.vars (ptsM m) S) b).verdict=2∨(zBj m (zAV m.vars (ptsM m) S) b).verdict=3)
 | 0,S,b,h,_,_=>by omega
 | N+1,S,b,h,hs,hb=>by
   obtain⟨n1,n2,n3,n4,n5⟩:=zDM m hm _ _ S (Nat.lt_succ_self _) hs
   rw[zDO m hm hg _ _ (fun h=>(n2 h).1)]
   split
   ·rename_i h1
    obtain⟨k1,k2,k3⟩:=n2 h1
    refine zIB m hm hg N (zBi m (zAV m.vars (ptsM m) S)) _ (by have:=zDN m hm hg _ h1 k1;omega) (fun x hx hn c hc=>?_) (Or.inr ⟨k1,List.mem_append_right _ (List.mem_singleton.2 rfl)⟩)
    have hne:(zAV m.vars (ptsM m) S).2.1≠[]:=fun he=>by
     have h1:=k1.1.1
     rw[he] at h1
     have:=zEN m hm
     simp at h1
     omega
    have hbx:¬zGO m (zAV m.vars (ptsM m) S).2.1 x:=by
     rcases hn with hn | hn
     ·exact absurd hn hne
     ·exact hn
    rcases List.mem_append.1 hc with hc | hc
    ·refine n1 x hx ?_ c hc
     rcases hb with hb | ⟨hb1,hb2⟩
     ·exact Or.inl hb
     ·right
      have hh:=k2 _ (k3 _ hb2)
      rw[zD7 m.vars (zAd m hm) _ k1.1 _ (zES m hm _),zCu m _ _ hg] at hh
      intro hnb
      unfold zGO at hbx hnb
      by_cases hq:m.goal=1
      ·rw[if_pos hq] at hh hbx hnb;omega
      ·rw[if_neg hq] at hh hbx hnb;omega
    ·rw[List.mem_singleton.1 hc,zD7 m.vars (zAd m hm) _ hx.1 _ (zES m hm _),zCu m _ _ hg]
     unfold zGO at hbx
     by_cases hq:m.goal=1
     ·rw[if_pos hq] at hbx ⊢;omega
     ·rw[if_neg hq] at hbx ⊢;omega
   ·rename_i h1
    split
    ·exact⟨(fun h=>by cases h),(fun h=>by cases h),(fun h=>by cases h),Or.inr (Or.inr rfl)⟩
    ·rename_i h3
     have h2:(zAV m.vars (ptsM m) S).1=2:=by omega
     have hno:=n3 h2
     split
     ·rename_i hl
      rcases hb with hb | ⟨hb1,hb2⟩
      ·rw[hb] at hl;cases hl
      ·refine⟨fun _ x hx=>?_,(fun h=>by cases h),fun _=>hb1,Or.inl rfl⟩
       apply Classical.byContradiction
       intro hn
       exact hno x hx (Or.inr hn)
     ·rename_i hl
      have hbn:b=[]:=List.length_eq_zero_iff.1 (by omega)
      refine⟨fun h=>?_,fun _ x hx=>hno x hx (Or.inl hbn),fun h=>?_,Or.inr (Or.inl h2)⟩
      ·simp only at h
       omega
      ·simp only at h
       omega
def zGP (m:Mod) (b:List Int):List Nat:=if b=[] then [] else [zAF m.vars (zAq m b)]
theorem zMe (m:Mod) (hm:zAE m=0) (hg:m.goal=1∨m.goal=2) (a b:List Int) (hab:if m.goal=1 then zAO b m.var≤zAO a m.var - 1 else zAO a m.var+1≤zAO b m.var):Impl [zAF m.vars (zAq m b)] (zAF m.vars (zAq m a)):=by
 have hv:=zAd m hm
 have one:∀(x:List Int) (i:Nat),(zAF m.vars (zAq m x)).testBit i=true↔(zAC m.vars).testBit i=true∧(i / 6:Nat)=m.var.toNat∧(if m.goal=1 then (zAL m.vars (i / 6)).lo+((i % 6:Nat):Int)≤zAO x m.var - 1 else zAO x m.var+1≤(zAL m.vars (i / 6)).lo+((i % 6:Nat):Int)):=fun x i=>by
  obtain⟨g1,g2,_⟩:=zC0 m hm
  unfold zAF zAC ofP
  rw[zAY m.vars hv,zAY m.vars hv]
  simp only[Bool.and_eq_true,decide_eq_true_eq,and_true]
  unfold zAq
  rcases hg with hg | hg
  ·rw[if_pos hg,if_pos hg]
   unfold oneB
   simp only[List.any_cons,List.any_nil,Bool.or_false,Bool.and_eq_true,decide_eq_true_eq]
   unfold litV
   simp
   constructor
   ·rintro ⟨h1,h2,h3,h4⟩;exact⟨⟨h1,h2⟩,by omega,h4⟩
   ·rintro ⟨⟨h1,h2⟩,h3,h4⟩;exact⟨h1,h2,by omega,h4⟩
  ·rw[if_neg (by omega),if_pos hg,if_neg (by omega)]
   unfold oneB
   simp only[List.any_cons,List.any_nil,Bool.or_false,Bool.and_eq_true,decide_eq_true_eq]
   unfold litV
   simp
   constructor
   ·rintro ⟨h1,h2,h3,h4⟩;exact⟨⟨h1,h2⟩,by omega,h4⟩
   ·rintro ⟨⟨h1,h2⟩,h3,h4⟩;exact⟨h1,h2,by omega,h4⟩
 refine zRs _ _ m.var.toNat (fun i hi=>?_) (fun i hi=>((one a i).1 hi).2.1)
 obtain⟨h1,h2,h3⟩:=(one b i).1 hi
 refine (one a i).2 ⟨h1,h2,?_⟩
 by_cases hq:m.goal=1
 ·rw[if_pos hq] at hab h3 ⊢;omega
 ·rw[if_neg hq] at hab h3 ⊢;omega
theorem zIC (m:Mod) (fuel:Int):PrOk m [] (zCt fuel):=⟨rfl,(fun c hc=>by cases hc),(fun s hs=>by cases hs),(fun s hs=>by cases hs),(fun s hs=>by cases hs),(fun l hl=>by cases hl)⟩
theorem zID (m:Mod) (hm:zAE m=0) (hg:m.goal=1∨m.goal=2):∀(N:Nat) (S:Sk) (b:List Int),zDj m (zAV m.vars (ptsM m) S)<N→PrOk m (zGP m b) S→SkO m.vars S→S.cs.length+S.fuel+zDj m (zAV m.vars (ptsM m) S)≤400→(b=[]∨zAF m.vars (zAq m b)∈S.cs) →
 ((zBj m (zAV m.vars (ptsM m) S) b).verdict=1→PrEnd m [zAF m.vars (zAq m (zBj m (zAV m.vars (ptsM m) S) b).values)] (zBj m (zAV m.vars (ptsM m) S) b).proof∧(zBj m (zAV m.vars (ptsM m) S) b).proof.length≤6000) ∧
 ((zBj m (zAV m.vars (ptsM m) S) b).verdict=2→PrEnd m [] (zBj m (zAV m.vars (ptsM m) S) b).proof∧(zBj m (zAV m.vars (ptsM m) S) b).proof.length≤6000∧(zBj m (zAV m.vars (ptsM m) S) b).values=[])
 | 0,S,b,h,_,_,_,_=>by omega
 | N+1,S,b,h,hp,ho,hbd,hb=>by
   obtain⟨n1,n2⟩:=zFJ m hm (zGP m b) _ S (Nat.lt_succ_self _) hp ho
   have nf:=zBf m hm S
   have nk:=zKD m.vars (zAd m hm) (ptsM m) S ho
   obtain⟨_,_,_,n4,_⟩:=zDM m hm (fun _=>False) _ S (Nat.lt_succ_self _) (fun x _ hf=>hf.elim)
   obtain⟨R,hR⟩:∃R,zAV m.vars (ptsM m) S=R:=⟨_,rfl⟩
   rw[hR] at n1 n2 nf nk n4 hbd h ⊢
   rw[zDO m hm hg _ _ (fun h=>(nf h).1)]
   split
   ·rename_i h1
    have hroom:=zDN m hm hg R h1 (nf h1).1
    have hp1:=n1 h1
    obtain⟨k1,k2⟩:=nk h1
    have hne:R.2.1≠[]:=fun he=>by
     have h1:=(nf h1).1.1.1
     rw[he] at h1
     have:=zEN m hm
     simp at h1
     omega
    have hgg:zGP m R.2.1=[zAF m.vars (zAq m R.2.1)]:=by unfold zGP;rw[if_neg hne]
    have himp:∀c∈zGP m b,Impl (zGP m R.2.1) c:=fun c hc=>by
     unfold zGP at hc
     by_cases hbn:b=[]
     ·rw[if_pos hbn] at hc;cases hc
     ·rw[if_neg hbn] at hc
      rw[List.mem_singleton.1 hc,hgg]
      rcases hb with hb | hb
      ·exact absurd hb hbn
      ·have hh:=(nf h1).2 _ hb
       rw[zD7 m.vars (zAd m hm) _ (nf h1).1.1 _ (zES m hm _),zCu m _ _ hg] at hh
       exact zMe m hm hg b R.2.1 hh
    refine zID m hm hg N (zBi m R) R.2.1 (by omega) ⟨zJD m hm _ _ _ himp hp1.stp,fun c hc=>?_,hp1.cla,hp1.thr,hp1.non,hp1.pth⟩ ⟨k1.prf,?_,k1.path⟩ ?_ (Or.inr (List.mem_append_right _ (List.mem_singleton.2 rfl)))
    ·rcases List.mem_append.1 hc with hc | hc
     ·refine zOR (hp1.imp c hc) fun d hd=>?_
      rcases List.mem_append.1 hd with hd | hd
      ·exact zGL (himp d hd) fun e he=>List.mem_append_left _ he
      ·exact zGK (List.mem_append_right _ hd)
     ·rw[List.mem_singleton.1 hc,hgg]
      exact zGK (List.mem_append_left _ (List.mem_singleton.2 rfl))
    ·unfold zBi
     simp only[List.length_append,List.length_singleton]
     omega
    ·have h5:(zBi m R).cs.length+(zBi m R).fuel=R.2.2.cs.length+1+R.2.2.fuel:=by unfold zBi;simp only[List.length_append,List.length_singleton]
     omega
   ·rename_i h1
    split
    ·exact⟨fun h=>(by cases h),fun h=>(by cases h)⟩
    ·rename_i h3
     have h2:R.1=2:=by omega
     obtain⟨p1,p2⟩:=n2 h2
     split
     ·rename_i hl
      have hbn:b≠[]:=fun he=>by rw[he] at hl;cases hl
      refine⟨fun _=>⟨?_,p2⟩,fun h=>(by cases h)⟩
      unfold zGP at p1
      rw[if_neg hbn] at p1
      exact p1
     ·rename_i hl
      have hbn:b=[]:=List.length_eq_zero_iff.1 (by omega)
      refine⟨fun h=>?_,fun _=>⟨?_,p2,hbn⟩⟩
      ·simp only at h
       omega
      ·unfold zGP at p1
       rw[if_pos hbn] at p1
       exact p1
theorem zGr (m:Mod) (hm:zAE m=0) (given:List Cla) (hg:zFO m.vars given=0) (P:List MStep) (hp:PrEnd m (given.map (zAF m.vars)) P) (hl:P.length≤6000):zAy m given P=(true,0):=by
 have he:zCf m given P=0:=by
  unfold zCf
  rw[if_pos hm,if_neg (by omega),if_pos hg]
  have h1:zAi (P.map fun s=>claE m.vars s.cla)=0:=zCq _ fun e he=>by
   obtain⟨s,hs,rfl⟩:=List.mem_map.1 he
   exact hp.cla s hs
  rw[if_pos h1,if_pos (List.all_eq_true.2 hp.thr)]
 unfold zAy
 rw[if_pos he,if_pos hp.lst,hp.stp]
theorem zLD (m:Mod) (hm:zAE m=0) (vals:List Int) (hs:Sol m vals):zFO m.vars [zAq m vals]=0:=by
 obtain⟨g1,g2,_⟩:=zC0 m hm
 have hr:=zEE m hm _ hs
 have hb:=zCp m hm m.var.toNat (by omega)
 have h1:claE m.vars (zAq m vals)=0:=by
  unfold claE zAq
  split
  ·simp only[List.length_cons,List.length_nil,List.map_cons,List.map_nil]
   rw[if_neg (by omega)]
   refine zCq _ fun e he=>?_
   rw[List.mem_singleton.1 he]
   unfold litE
   rw[if_neg (by simp only;omega),if_neg (by simp only;omega),if_neg (by simp only;omega)]
  ·split
   ·simp only[List.length_cons,List.length_nil,List.map_cons,List.map_nil]
    rw[if_neg (by omega)]
    refine zCq _ fun e he=>?_
    rw[List.mem_singleton.1 he]
    unfold litE
    rw[if_neg (by simp only;omega),if_neg (by simp only;omega),if_neg (by simp only;omega)]
   ·rfl
 unfold zFO
 simp only[List.length_cons,List.length_nil,List.map_cons,List.map_nil]
 rw[if_neg (by omega)]
 refine zCq _ fun e he=>?_
 rw[List.mem_singleton.1 he]
 exact h1
theorem zOh (m:Mod) (hm:zAE m=0) (x:List Int) (h:Sol m x):allA m x=(true,0):=by
 unfold allA
 rw[if_pos hm,if_pos h.1.1]
 have h1:(m.vars.zip x).all (fun p=>zB2 p.1 p.2)=true:=by
  refine List.all_eq_true.2 fun p hp=>?_
  obtain⟨i,hi⟩:=List.mem_iff_getElem?.1 hp
  rw[List.getElem?_zip_eq_some] at hi
  have hil:=(List.getElem?_eq_some_iff.1 hi.1).1
  have:=h.1.2 i hil
  have e1:zAL m.vars i=p.1:=by unfold zAL;rw[List.getD_eq_getElem?_getD,hi.1];rfl
  have e2:zAO x (i:Int)=p.2:=by unfold zAO;rw[Int.toNat_natCast,List.getD_eq_getElem?_getD,hi.2];rfl
  rw[e1,e2] at this
  unfold zB2
  simp
  exact this
 have h2:m.cons.all (fun c=>zAo c x)=true:=List.all_eq_true.2 h.2
 rw[h1,h2];rfl
def zCS (m:Mod) (vals:List Int) (l:List MStep):Bool×Int :=
 if vals.length=0 then zAy m [] l
 else if (zA2 m vals).2=0 then (if (zAy m [(zA2 m vals).1] l).1 then allA m vals else zAy m [(zA2 m vals).1] l) else (false,(zA2 m vals).2)
theorem zOi (m:Mod) (hm:zAE m=0) (vals:List Int) (hs:Sol m vals):zA2 m vals=(zAq m vals,0):=by
 unfold zA2
 rw[if_pos hm,if_pos hs.1.1]
 have hr:=zEE m hm _ hs
 rw[if_neg (fun h=>by rcases h.2 with h | h <;> omega)]
theorem zET (m:Mod) (fuel:Int) (he:(zB0 m fuel).2=0) (hv:(zB0 m fuel).1.verdict=2∨((zB0 m fuel).1.verdict=1∧m.goal≠0)):zCS m (zB0 m fuel).1.values (zB0 m fuel).1.proof=(true,0):=by
 unfold zB0 at he hv ⊢
 by_cases hg:m.goal=0
 ·rw[if_pos hg] at he hv ⊢
  unfold zFZ at he hv ⊢
  by_cases hm:zAE m=0
  ·rw[if_pos hm] at he hv ⊢
   by_cases hf:fuel<0∨300<fuel
   ·rw[if_pos hf] at he;cases he
   ·rw[if_neg hf] at he hv ⊢
    by_cases h2:(zEg m fuel).1=2
    ·rw[if_pos h2]
     obtain⟨p1,p2⟩:=(zFJ m hm [] _ (zCt fuel) (Nat.lt_succ_self _) (zIC m fuel) (zGN m.vars fuel (by omega))).2 h2
     unfold zCS
     exact (if_pos rfl).trans (zGr m hm [] rfl _ p1 p2)
    ·rw[if_neg h2] at hv
     rcases hv with hv | hv
     ·exact absurd hv h2
     ·exact absurd hg hv.2
  ·rw[if_neg hm] at he
   exact absurd he hm
 ·rw[if_neg hg] at he hv ⊢
  by_cases hm:zAE m=0
  ·rw[if_pos hm] at he hv ⊢
   obtain⟨_,_,hgo⟩:=zC0 m hm
   have hg2:m.goal=1∨m.goal=2:=by omega
   by_cases hf:fuel<0∨300<fuel
   ·rw[if_pos hf] at he;cases he
   ·rw[if_neg hf] at he hv ⊢
    have hrl:=zQT m hm (zAV m.vars (ptsM m) (zCt fuel)) (fun h=>(zBf m hm _ h).1)
    obtain⟨p1,p2⟩:=zID m hm hg2 _ (zCt fuel) [] (Nat.lt_succ_self _) (zIC m fuel) (zGN m.vars fuel (by omega)) (by simp only[zCt,List.length_nil];change 0+fuel.toNat+zDj m (zAV m.vars (ptsM m) (zCt fuel))≤400;omega) (Or.inl rfl)
    obtain⟨_,_,c3,_⟩:=zIB m hm hg2 _ (zCt fuel) [] (Nat.lt_succ_self _) (fun x _ _ c hc=>by cases hc) (Or.inl rfl)
    change (zB5 m fuel).verdict=1→PrEnd m [zAF m.vars (zAq m (zB5 m fuel).values)] (zB5 m fuel).proof∧(zB5 m fuel).proof.length≤6000 at p1
    change (zB5 m fuel).verdict=2→PrEnd m [] (zB5 m fuel).proof∧(zB5 m fuel).proof.length≤6000∧(zB5 m fuel).values=[] at p2
    change (zB5 m fuel).verdict=1→Sol m (zB5 m fuel).values at c3
    simp only at hv ⊢
    rcases hv with hv | ⟨hv,_⟩
    ·obtain⟨q1,q2,q3⟩:=p2 hv
     unfold zCS
     rw[if_pos (by rw[q3];rfl)]
     exact zGr m hm [] rfl _ q1 q2
    ·obtain⟨q1,q2⟩:=p1 hv
     have hs:=c3 hv
     have hn0:¬(zB5 m fuel).values.length=0:=by rw[hs.1.1];have:=zEN m hm;omega
     unfold zCS
     rw[if_neg hn0,zOi m hm _ hs,if_pos rfl]
     have hpc:=zGr m hm [zAq m (zB5 m fuel).values] (zLD m hm _ hs) _ q1 q2
     simp only
     rw[hpc,if_pos rfl,zOh m hm _ hs]
  ·rw[if_neg hm] at he
   exact absurd he hm
theorem zKE (m:Mod) (vals:List Int) (l:List MStep) (x:List Int) (hv:zCS m vals l=(true,0)) (hx:allA m x=(true,0)):vals.length≠0∧(m.goal=1→zAO vals m.var≤zAO x m.var)∧(m.goal=2→zAO x m.var≤zAO vals m.var):=by
 obtain⟨hm,hms,hcs⟩:=zGf m x hx
 have fin:∀given,zAy m given l=(true,0)→(∀d∈given,claB d x=true)→False:=fun given hp hd=>by
  unfold zAy at hp
  by_cases he:zCf m given l=0
  ·rw[if_pos he] at hp
   obtain⟨e1,e2,e3,e4,e5⟩:=zHy m given l he
   by_cases hl:zGk l=true
   ·rw[if_pos hl] at hp
    have hst:zBN m (given.map (zAF m.vars)) l=true:=by simpa using hp
    unfold zGk at hl
    cases hgl:l.getLast? with
    | none=>rw[hgl] at hl;cases hl
    | some s =>
      rw[hgl] at hl
      have hs0:s.cla=[]:=List.length_eq_zero_iff.1 (by simpa using hl)
      exact zIt m given l x hx (fun d hd=>(zNN m.vars given e3).2 d hd) e4 e5 hd hst s (List.mem_of_getLast? hgl) hs0
   ·rw[if_neg hl] at hp;cases hp
  ·rw[if_neg he] at hp;cases hp
 unfold zCS at hv
 by_cases h0:vals.length=0
 ·rw[if_pos h0] at hv
  exact absurd (fin [] hv (fun d hd=>by cases hd)) id
 ·rw[if_neg h0] at hv
  refine⟨h0,?_⟩
  by_cases hb:(zA2 m vals).2=0
  ·rw[if_pos hb] at hv
   have hbc:(zA2 m vals).1=zAq m vals:=by
    unfold zA2 at hb ⊢
    rw[if_pos hm] at hb ⊢
    split at hb
    ·rename_i h1
     rw[if_pos h1]
     split at hb
     ·cases hb
     ·rename_i h2
      rw[if_neg h2]
    ·cases hb
   cases hp:(zAy m [(zA2 m vals).1] l).1
   ·rw[hp] at hv
    simp only[Bool.false_eq_true,if_false] at hv
    rw[hv] at hp;cases hp
   ·have hpe:zAy m [(zA2 m vals).1] l=(true,0):=by
     unfold zAy at hp ⊢
     split
     ·rename_i h1
      rw[if_pos h1] at hp
      split
      ·rename_i h2
       rw[if_pos h2] at hp
       simp only at hp
       rw[hp]
      ·rename_i h2
       rw[if_neg h2] at hp;cases hp
     ·rename_i h1
      rw[if_neg h1] at hp;cases hp
    rw[hbc] at hpe
    have key:m.goal=1∨m.goal=2→claB (zAq m vals) x=true→False:=fun _ hcl=>fin _ hpe (fun d hd=>by rw[List.mem_singleton.1 hd];exact hcl)
    refine⟨fun hg=>?_,fun hg=>?_⟩
    ·apply Classical.byContradiction
     intro hn
     refine key (Or.inl hg) ((zCu m vals x (Or.inl hg)).2 ?_)
     rw[if_pos hg];omega
    ·apply Classical.byContradiction
     intro hn
     refine key (Or.inr hg) ((zCu m vals x (Or.inr hg)).2 ?_)
     rw[if_neg (by omega)];omega
  ·rw[if_neg hb] at hv;cases hv
end Go.Proofs.YtdjbejlbmaiocagGreatDoor
