/- What the proof leans on, part 26. -/
import Derived.Test.YtdjbejlbmaiocagGreatDoorPartAk
import Derived.Test.YtdjbejlbmaiocagGreatDoorPartAy
import Derived.Test.YtdjbejlbmaiocagGreatDoorPartAx
set_option maxRecDepth 100000
set_option maxHeartbeats 6400000
namespace Go.Proofs.YtdjbejlbmaiocagGreatDoor
def zBl (m:Mod) (R:Int×List Int×Sk):Sk:=⟨R.2.2.cs++[zAH m.vars (zA1 m R.2.1)],R.2.2.fuel,R.2.2.proof,R.2.2.path⟩
def zJw (m:Mod):Nat→Int×List Int×Sk→List Int→Ans
 | 0,_,_=>zIV
 | n+1,R,best=>if R.1=1 then zJw m n (zAa m.vars (ptsM m) (zBl m R)) R.2.1
   else if R.1=3 then ⟨3,[],[]⟩ else if 0<best.length then ⟨1,best,R.2.2.proof⟩ else ⟨R.1,best,R.2.2.proof⟩
def zEA (m:Mod) (R:Int×List Int×Sk):Nat :=
 if R.1=1 then (if m.goal=1 then (zAZ R.2.1 m.var - (zAK m.vars m.var.toNat).lo).toNat+1 else ((zAK m.vars m.var.toNat).hi - zAZ R.2.1 m.var).toNat+1) else 0
def zBc (m:Mod) (R:Int×List Int×Sk) (best:List Int):Ans:=zJw m (zEA m R+1) R best
def zCH (m:Mod) (fuel:Int):Ans:=zBc m (zE3 m fuel) []
def zBt (m:Mod) (fuel:Int):Ans×Int :=
 if m.goal=0 then zFQ m fuel
 else if zAF m=0 then (if fuel<0∨300<fuel then (zIV,3) else (zCH m fuel,0)) else (zIV,zAF m)
theorem zBP (m:Mod) (hm:zAF m=0) (S:Sk) (h:(zAa m.vars (ptsM m) S).1=1):Sol m (zAa m.vars (ptsM m) S).2.1∧∀c∈S.cs,Hits m.vars (zAa m.vars (ptsM m) S).2.1 c:=by
 obtain⟨_,h2,_⟩:=zCv m hm (fun _=>False) _ S (Nat.lt_succ_self _) (fun x _ hf=>hf.elim)
 obtain⟨k1,k2,k3⟩:=h2 h;exact⟨k1,fun c hc=>k2 c (k3 c hc)⟩
theorem zEv (m:Mod) (hm:zAF m=0) (vals:List Int):∀l∈zA1 m vals,0≤l.var∧l.var<(m.vars.length:Int):=by
 obtain⟨h1,h2,_⟩:=zDa m hm;intro l hl;unfold zA1 at hl
 split at hl
 ·rw[List.mem_singleton.1 hl];exact⟨h1,h2⟩
 ·split at hl
  ·rw[List.mem_singleton.1 hl];exact⟨h1,h2⟩
  ·cases hl
theorem zEw (m:Mod) (vals x:List Int) (hg:m.goal=1∨m.goal=2):claB (zA1 m vals) x=true↔if m.goal=1 then zAZ x m.var≤zAZ vals m.var - 1 else zAZ vals m.var+1≤zAZ x m.var:=by
 unfold zA1;rcases hg with hg | hg
 ·rw[if_pos hg,if_pos hg]
  unfold claB;simp only[List.any_cons,List.any_nil,Bool.or_false];unfold litV zAZ;simp
 ·rw[if_neg (by omega),if_pos hg,if_neg (by omega)]
  unfold claB;simp only[List.any_cons,List.any_nil,Bool.or_false];unfold litV zAZ;simp
theorem zEl (m:Mod) (hm:zAF m=0) (x:List Int) (h:Sol m x):(zAK m.vars m.var.toNat).lo≤zAZ x m.var∧zAZ x m.var≤(zAK m.vars m.var.toNat).hi:=by
 obtain⟨h1,h2,_⟩:=zDa m hm;have:=h.1.2 m.var.toNat (by omega)
 rwa [Int.toNat_of_nonneg h1] at this
theorem zDQ (m:Mod) (hm:zAF m=0) (hg:m.goal=1∨m.goal=2) (R:Int×List Int×Sk) (h1:R.1=1) (hs:Sol m R.2.1):zEA m (zAa m.vars (ptsM m) (zBl m R))<zEA m R:=by
 have h0:0<zEA m R:=by
  unfold zEA;rw[if_pos h1]
  split <;> omega
 by_cases hn:(zAa m.vars (ptsM m) (zBl m R)).1=1
 ·obtain⟨k1,k2⟩:=zBP m hm (zBl m R) hn
  have hh:=k2 _ (List.mem_append_right _ (List.mem_singleton.2 rfl));rw[zEd m.vars (zAg m hm) _ k1.1 _ (zEv m hm _)] at hh;rw[zEw m _ _ hg] at hh;have r1:=zEl m hm _ k1;have r2:=zEl m hm _ hs;unfold zEA;rw[if_pos hn,if_pos h1]
  split
  ·rename_i hq
   rw[if_pos hq] at hh;omega
  ·rename_i hq
   rw[if_neg hq] at hh;omega
 ·unfold zEA
  rw[if_neg hn];exact h0
theorem zJx (m:Mod) (hm:zAF m=0) (hg:m.goal=1∨m.goal=2):∀(f g:Nat) (R:Int×List Int×Sk) (b:List Int),(R.1=1→Sol m R.2.1)→zEA m R<f→zEA m R<g→zJw m f R b=zJw m g R b
 | 0,g,R,b,_,hf,_=>by omega
 | f+1,0,R,b,_,_,hg=>by omega
 | f+1,g+1,R,b,hs,hf,hg'=>by
   unfold zJw
   split
   ·rename_i h1
    have:=zDQ m hm hg R h1 (hs h1);exact zJx m hm hg f g _ _ (fun h=>(zBP m hm _ h).1) (by omega) (by omega)
   ·rfl
theorem zDR (m:Mod) (hm:zAF m=0) (hg:m.goal=1∨m.goal=2) (R:Int×List Int×Sk) (b:List Int) (hs:R.1=1→Sol m R.2.1):zBc m R b=if R.1=1 then zBc m (zAa m.vars (ptsM m) (zBl m R)) R.2.1
 else if R.1=3 then ⟨3,[],[]⟩ else if 0<b.length then ⟨1,b,R.2.2.proof⟩ else ⟨R.1,b,R.2.2.proof⟩:=by
 conv=>lhs;unfold zBc zJw
 split
 ·rename_i h1
  have:=zDQ m hm hg R h1 (hs h1);exact zJx m hm hg _ _ _ _ (fun h=>(zBP m hm _ h).1) (by omega) (by omega)
 ·rfl
theorem zM2 (vs:List MVar) (hv:zAd vs) (pt:List (List Nat)):∀(N:Nat) (S:Sk),zDF vs S<N→SkO vs S→(zAa vs pt S).1=1→SkO vs (zAa vs pt S).2.2∧(zAa vs pt S).2.2.cs.length+(zAa vs pt S).2.2.fuel=S.cs.length+S.fuel
 | 0,S,h,_=>by omega
 | N+1,S,h,hs=>by
   rw[zGV vs hv]
   split
   ·split
    ·rename_i h0
     intro h1;obtain⟨k1,k2⟩:=zM2 vs hv pt N _ (by have:=zEg vs pt S h0;omega) (zM0 vs pt S hs h0) h1
     refine⟨k1,k2.trans ?_⟩;have hf:=zK4 vs pt S h0;unfold zBV at h0 hf ⊢
     split
     ·rename_i hc;rw[if_pos hc] at h0
     ·rename_i hc0
      rw[if_neg hc0] at h0 hf
      split
      ·rename_i hc;rw[if_pos hc] at h0;cases h0
      ·rename_i hc1
       rw[if_neg hc1] at h0 hf
       split
       ·rename_i hc;rw[if_pos hc] at h0;cases h0
       ·simp only[List.length_append,List.length_singleton]
        omega
    ·rename_i h0
     intro h1;simp only at h1;unfold zBV at h0 h1
     split at h1
     ·cases h1
     ·split at h1
      ·cases h1
      ·split at h1
       ·cases h1
       ·cases h1
   ·split
    ·exact fun _=>⟨hs,rfl⟩
    ·rename_i hf
     intro h1;exact zM2 vs hv pt N _ (by have:=zFh vs hv pt S hf;omega) (zQa vs hv pt S hs hf) h1
theorem zKW (vs:List MVar) (hv:zAd vs) (pt:List (List Nat)) (S:Sk) (hs:SkO vs S) (h:(zAa vs pt S).1=1):SkO vs (zAa vs pt S).2.2∧(zAa vs pt S).2.2.cs.length+(zAa vs pt S).2.2.fuel=S.cs.length+S.fuel:=zM2 vs hv pt _ S (Nat.lt_succ_self _) hs h
theorem zQg (m:Mod) (hm:zAF m=0) (R:Int×List Int×Sk) (hs:R.1=1→Sol m R.2.1):zEA m R≤6:=by
 unfold zEA;by_cases h1:R.1=1
 ·rw[if_pos h1]
  have r:=zEl m hm _ (hs h1);have h6:=(zAg m hm).2 m.var.toNat;unfold zB8 at h6
  split <;> omega
 ·rw[if_neg h1];omega
def zGf (m:Mod) (vals x:List Int):Prop:=if m.goal=1 then zAZ vals m.var≤zAZ x m.var else zAZ x m.var≤zAZ vals m.var
theorem zIX (m:Mod) (hm:zAF m=0) (hg:m.goal=1∨m.goal=2):∀(N:Nat) (S:Sk) (b:List Int),zEA m (zAa m.vars (ptsM m) S)<N→zP5 m (fun x=>b=[]∨¬zGf m b x) S→(b=[]∨(Sol m b∧zAH m.vars (zA1 m b)∈S.cs)) →
 ((zBc m (zAa m.vars (ptsM m) S) b).verdict=1→∀x,Sol m x→zGf m (zBc m (zAa m.vars (ptsM m) S) b).values x) ∧
 ((zBc m (zAa m.vars (ptsM m) S) b).verdict=2→∀x,¬Sol m x) ∧
 ((zBc m (zAa m.vars (ptsM m) S) b).verdict=1→Sol m (zBc m (zAa m.vars (ptsM m) S) b).values) ∧
 ((zBc m (zAa m.vars (ptsM m) S) b).verdict=1∨(zBc m (zAa m.vars (ptsM m) S) b).verdict=2∨(zBc m (zAa m.vars (ptsM m) S) b).verdict=3)
 | 0,S,b,h,_,_=>by omega
 | N+1,S,b,h,hs,hb=>by
   obtain⟨n1,n2,n3,n4,n5⟩:=zCv m hm _ _ S (Nat.lt_succ_self _) hs;rw[zDR m hm hg _ _ (fun h=>(n2 h).1)]
   split
   ·rename_i h1
    obtain⟨k1,k2,k3⟩:=n2 h1;refine zIX m hm hg N (zBl m (zAa m.vars (ptsM m) S)) _ (by have:=zDQ m hm hg _ h1 k1;omega) (fun x hx hn c hc=>?_) (Or.inr ⟨k1,List.mem_append_right _ (List.mem_singleton.2 rfl)⟩)
    have hne:(zAa m.vars (ptsM m) S).2.1≠[]:=fun he=>by
     have h1:=k1.1.1;rw[he] at h1;have:=zEq m hm;simp at h1;omega
    have hbx:¬zGf m (zAa m.vars (ptsM m) S).2.1 x:=by
     rcases hn with hn | hn
     ·exact absurd hn hne
     ·exact hn
    rcases List.mem_append.1 hc with hc | hc
    ·refine n1 x hx ?_ c hc
     rcases hb with hb | ⟨hb1,hb2⟩
     ·exact Or.inl hb
     ·right
      have hh:=k2 _ (k3 _ hb2);rw[zEd m.vars (zAg m hm) _ k1.1 _ (zEv m hm _),zEw m _ _ hg] at hh;intro hnb;unfold zGf at hbx hnb;by_cases hq:m.goal=1
      ·rw[if_pos hq] at hh hbx hnb;omega
      ·rw[if_neg hq] at hh hbx hnb;omega
    ·rw[List.mem_singleton.1 hc,zEd m.vars (zAg m hm) _ hx.1 _ (zEv m hm _),zEw m _ _ hg]
     unfold zGf at hbx;by_cases hq:m.goal=1
     ·rw[if_pos hq] at hbx ⊢;omega
     ·rw[if_neg hq] at hbx ⊢;omega
   ·rename_i h1
    split
    ·exact⟨(fun h=>by cases h),(fun h=>by cases h),(fun h=>by cases h),Or.inr (Or.inr rfl)⟩
    ·rename_i h3
     have h2:(zAa m.vars (ptsM m) S).1=2:=by omega
     have hno:=n3 h2
     split
     ·rename_i hl
      rcases hb with hb | ⟨hb1,hb2⟩
      ·rw[hb] at hl;cases hl
      ·refine⟨fun _ x hx=>?_,(fun h=>by cases h),fun _=>hb1,Or.inl rfl⟩
       apply Classical.byContradiction;intro hn;exact hno x hx (Or.inr hn)
     ·rename_i hl
      have hbn:b=[]:=List.length_eq_zero_iff.1 (by omega)
      refine⟨fun h=>?_,fun _ x hx=>hno x hx (Or.inl hbn),fun h=>?_,Or.inr (Or.inl h2)⟩
      ·simp only at h
       omega
      ·simp only at h
       omega
def zGg (m:Mod) (b:List Int):List Nat:=if b=[] then [] else [zAH m.vars (zA1 m b)]
theorem zM3 (m:Mod) (hm:zAF m=0) (hg:m.goal=1∨m.goal=2) (a b:List Int) (hab:if m.goal=1 then zAZ b m.var≤zAZ a m.var - 1 else zAZ a m.var+1≤zAZ b m.var):Impl [zAH m.vars (zA1 m b)] (zAH m.vars (zA1 m a)):=by
 have hv:=zAg m hm;have one:∀(x:List Int) (i:Nat),(zAH m.vars (zA1 m x)).testBit i=true↔(zAD m.vars).testBit i=true∧(i / 6:Nat)=m.var.toNat∧(if m.goal=1 then (zAK m.vars (i / 6)).lo+((i % 6:Nat):Int)≤zAZ x m.var - 1 else zAZ x m.var+1≤(zAK m.vars (i / 6)).lo+((i % 6:Nat):Int)):=fun x i=>by
  obtain⟨g1,g2,_⟩:=zDa m hm;unfold zAH zAD ofP;rw[zAc m.vars hv,zAc m.vars hv];simp only[Bool.and_eq_true,decide_eq_true_eq,and_true];unfold zA1;rcases hg with hg | hg
  ·rw[if_pos hg,if_pos hg]
   unfold oneB;simp only[List.any_cons,List.any_nil,Bool.or_false,Bool.and_eq_true,decide_eq_true_eq];unfold litV;simp
   constructor
   ·rintro ⟨h1,h2,h3,h4⟩;exact⟨⟨h1,h2⟩,by omega,h4⟩
   ·rintro ⟨⟨h1,h2⟩,h3,h4⟩;exact⟨h1,h2,by omega,h4⟩
  ·rw[if_neg (by omega),if_pos hg,if_neg (by omega)]
   unfold oneB;simp only[List.any_cons,List.any_nil,Bool.or_false,Bool.and_eq_true,decide_eq_true_eq];unfold litV;simp
   constructor
   ·rintro ⟨h1,h2,h3,h4⟩;exact⟨⟨h1,h2⟩,by omega,h4⟩
   ·rintro ⟨⟨h1,h2⟩,h3,h4⟩;exact⟨h1,h2,by omega,h4⟩
 refine zSF _ _ m.var.toNat (fun i hi=>?_) (fun i hi=>((one a i).1 hi).2.1)
 obtain⟨h1,h2,h3⟩:=(one b i).1 hi;refine (one a i).2 ⟨h1,h2,?_⟩;by_cases hq:m.goal=1
 ·rw[if_pos hq] at hab h3 ⊢;omega
 ·rw[if_neg hq] at hab h3 ⊢;omega
theorem zIY (m:Mod) (fuel:Int):PrOk m [] (zC6 fuel):=⟨rfl,(fun c hc=>by cases hc),(fun s hs=>by cases hs),(fun s hs=>by cases hs),(fun s hs=>by cases hs),(fun l hl=>by cases hl)⟩
theorem zIZ (m:Mod) (hm:zAF m=0) (hg:m.goal=1∨m.goal=2):∀(N:Nat) (S:Sk) (b:List Int),zEA m (zAa m.vars (ptsM m) S)<N→PrOk m (zGg m b) S→SkO m.vars S→S.cs.length+S.fuel+zEA m (zAa m.vars (ptsM m) S)≤400→(b=[]∨zAH m.vars (zA1 m b)∈S.cs) →
 ((zBc m (zAa m.vars (ptsM m) S) b).verdict=1→PrEnd m [zAH m.vars (zA1 m (zBc m (zAa m.vars (ptsM m) S) b).values)] (zBc m (zAa m.vars (ptsM m) S) b).proof∧(zBc m (zAa m.vars (ptsM m) S) b).proof.length≤6000) ∧
 ((zBc m (zAa m.vars (ptsM m) S) b).verdict=2→PrEnd m [] (zBc m (zAa m.vars (ptsM m) S) b).proof∧(zBc m (zAa m.vars (ptsM m) S) b).proof.length≤6000∧(zBc m (zAa m.vars (ptsM m) S) b).values=[])
 | 0,S,b,h,_,_,_,_=>by omega
 | N+1,S,b,h,hp,ho,hbd,hb=>by
   obtain⟨n1,n2⟩:=zFi m hm (zGg m b) _ S (Nat.lt_succ_self _) hp ho;have nf:=zBP m hm S;have nk:=zKW m.vars (zAg m hm) (ptsM m) S ho;obtain⟨_,_,_,n4,_⟩:=zCv m hm (fun _=>False) _ S (Nat.lt_succ_self _) (fun x _ hf=>hf.elim)
   obtain⟨R,hR⟩:∃R,zAa m.vars (ptsM m) S=R:=⟨_,rfl⟩;rw[hR] at n1 n2 nf nk n4 hbd h ⊢;rw[zDR m hm hg _ _ (fun h=>(nf h).1)]
   split
   ·rename_i h1
    have hroom:=zDQ m hm hg R h1 (nf h1).1;have hp1:=n1 h1;obtain⟨k1,k2⟩:=nk h1;have hne:R.2.1≠[]:=fun he=>by
     have h1:=(nf h1).1.1.1;rw[he] at h1;have:=zEq m hm;simp at h1;omega
    have hgg:zGg m R.2.1=[zAH m.vars (zA1 m R.2.1)]:=by unfold zGg;rw[if_neg hne]
    have himp:∀c∈zGg m b,Impl (zGg m R.2.1) c:=fun c hc=>by
     unfold zGg at hc;by_cases hbn:b=[]
     ·rw[if_pos hbn] at hc;cases hc
     ·rw[if_neg hbn] at hc
      rw[List.mem_singleton.1 hc,hgg];rcases hb with hb | hb
      ·exact absurd hb hbn
      ·have hh:=(nf h1).2 _ hb
       rw[zEd m.vars (zAg m hm) _ (nf h1).1.1 _ (zEv m hm _),zEw m _ _ hg] at hh;exact zM3 m hm hg b R.2.1 hh
    refine zIZ m hm hg N (zBl m R) R.2.1 (by omega) ⟨zJj m hm _ _ _ himp hp1.stp,fun c hc=>?_,hp1.cla,hp1.thr,hp1.non,hp1.pth⟩ ⟨k1.prf,?_,k1.path⟩ ?_ (Or.inr (List.mem_append_right _ (List.mem_singleton.2 rfl)))
    ·rcases List.mem_append.1 hc with hc | hc
     ·refine zOk (hp1.imp c hc) fun d hd=>?_
      rcases List.mem_append.1 hd with hd | hd
      ·exact zGc (himp d hd) fun e he=>List.mem_append_left _ he
      ·exact zGb (List.mem_append_right _ hd)
     ·rw[List.mem_singleton.1 hc,hgg]
      exact zGb (List.mem_append_left _ (List.mem_singleton.2 rfl))
    ·unfold zBl
     simp only[List.length_append,List.length_singleton];omega
    ·have h5:(zBl m R).cs.length+(zBl m R).fuel=R.2.2.cs.length+1+R.2.2.fuel:=by unfold zBl;simp only[List.length_append,List.length_singleton]
     omega
   ·rename_i h1
    split
    ·exact⟨fun h=>(by cases h),fun h=>(by cases h)⟩
    ·rename_i h3
     have h2:R.1=2:=by omega
     obtain⟨p1,p2⟩:=n2 h2
     split
     ·rename_i hl
      have hbn:b≠[]:=fun he=>by rw[he] at hl;cases hl
      refine⟨fun _=>⟨?_,p2⟩,fun h=>(by cases h)⟩
      unfold zGg at p1;rw[if_neg hbn] at p1;exact p1
     ·rename_i hl
      have hbn:b=[]:=List.length_eq_zero_iff.1 (by omega)
      refine⟨fun h=>?_,fun _=>⟨?_,p2,hbn⟩⟩
      ·simp only at h
       omega
      ·unfold zGg at p1
       rw[if_pos hbn] at p1;exact p1
theorem zG1 (m:Mod) (hm:zAF m=0) (given:List Cla) (hg:zFm m.vars given=0) (P:List MStep) (hp:PrEnd m (given.map (zAH m.vars)) P) (hl:P.length≤6000):zBR m given P=(true,0):=by
 have he:zDG m given P=0:=by
  unfold zDG;rw[if_pos hm,if_neg (by omega),if_pos hg]
  have h1:zAQ (P.map fun s=>claE m.vars s.cla)=0:=zDN _ fun e he=>by
   obtain⟨s,hs,rfl⟩:=List.mem_map.1 he;exact hp.cla s hs
  rw[if_pos h1,if_pos (List.all_eq_true.2 hp.thr)]
 unfold zBR;rw[if_pos he,if_pos hp.lst,hp.stp]
theorem zLb (m:Mod) (hm:zAF m=0) (vals:List Int) (hs:Sol m vals):zFm m.vars [zA1 m vals]=0:=by
 obtain⟨g1,g2,_⟩:=zDa m hm;have hr:=zEl m hm _ hs;have hb:=zCg m hm m.var.toNat (by omega)
 have h1:claE m.vars (zA1 m vals)=0:=by
  unfold claE zA1
  split
  ·simp only[List.length_cons,List.length_nil,List.map_cons,List.map_nil]
   rw[if_neg (by omega)]
   refine zDN _ fun e he=>?_
   rw[List.mem_singleton.1 he];unfold litE;rw[if_neg (by simp only;omega),if_neg (by simp only;omega),if_neg (by simp only;omega)]
  ·split
   ·simp only[List.length_cons,List.length_nil,List.map_cons,List.map_nil]
    rw[if_neg (by omega)]
    refine zDN _ fun e he=>?_
    rw[List.mem_singleton.1 he];unfold litE;rw[if_neg (by simp only;omega),if_neg (by simp only;omega),if_neg (by simp only;omega)]
   ·rfl
 unfold zFm;simp only[List.length_cons,List.length_nil,List.map_cons,List.map_nil];rw[if_neg (by omega)]
 refine zDN _ fun e he=>?_
 rw[List.mem_singleton.1 he];exact h1
theorem zO0 (m:Mod) (hm:zAF m=0) (x:List Int) (h:Sol m x):allA m x=(true,0):=by
 unfold allA;rw[if_pos hm,if_pos h.1.1];have h1:(m.vars.zip x).all (fun p=>zCE p.1 p.2)=true:=by
  refine List.all_eq_true.2 fun p hp=>?_
  obtain⟨i,hi⟩:=List.mem_iff_getElem?.1 hp;rw[List.getElem?_zip_eq_some] at hi;have hil:=(List.getElem?_eq_some_iff.1 hi.1).1;have:=h.1.2 i hil;have e1:zAK m.vars i=p.1:=by unfold zAK;rw[List.getD_eq_getElem?_getD,hi.1];rfl
  have e2:zAZ x (i:Int)=p.2:=by unfold zAZ;rw[Int.toNat_natCast,List.getD_eq_getElem?_getD,hi.2];rfl
  rw[e1,e2] at this;unfold zCE;simp;exact this
 have h2:m.cons.all (fun c=>zA0 c x)=true:=List.all_eq_true.2 h.2
 rw[h1,h2];rfl
def zET (m:Mod) (vals:List Int) (l:List MStep):Bool×Int :=
 if vals.length=0 then zBR m [] l
 else if (zBg m vals).2=0 then (if (zBR m [(zBg m vals).1] l).1 then allA m vals else zBR m [(zBg m vals).1] l) else (false,(zBg m vals).2)
theorem zO1 (m:Mod) (hm:zAF m=0) (vals:List Int) (hs:Sol m vals):zBg m vals=(zA1 m vals,0):=by
 unfold zBg;rw[if_pos hm,if_pos hs.1.1];have hr:=zEl m hm _ hs;rw[if_neg (fun h=>by rcases h.2 with h | h <;> omega)]
theorem zGh (m:Mod) (fuel:Int) (he:(zBt m fuel).2=0) (hv:(zBt m fuel).1.verdict=2∨((zBt m fuel).1.verdict=1∧m.goal≠0)):zET m (zBt m fuel).1.values (zBt m fuel).1.proof=(true,0):=by
 unfold zBt at he hv ⊢;by_cases hg:m.goal=0
 ·rw[if_pos hg] at he hv ⊢
  unfold zFQ at he hv ⊢;by_cases hm:zAF m=0
  ·rw[if_pos hm] at he hv ⊢
   by_cases hf:fuel<0∨300<fuel
   ·rw[if_pos hf] at he;cases he
   ·rw[if_neg hf] at he hv ⊢
    by_cases h2:(zE3 m fuel).1=2
    ·rw[if_pos h2]
     obtain⟨p1,p2⟩:=(zFi m hm [] _ (zC6 fuel) (Nat.lt_succ_self _) (zIY m fuel) (zGe m.vars fuel (by omega))).2 h2
     unfold zET;exact (if_pos rfl).trans (zG1 m hm [] rfl _ p1 p2)
    ·rw[if_neg h2] at hv
     rcases hv with hv | hv
     ·exact absurd hv h2
     ·exact absurd hg hv.2
  ·rw[if_neg hm] at he
   exact absurd he hm
 ·rw[if_neg hg] at he hv ⊢
  by_cases hm:zAF m=0
  ·rw[if_pos hm] at he hv ⊢
   obtain⟨_,_,hgo⟩:=zDa m hm;have hg2:m.goal=1∨m.goal=2:=by omega
   by_cases hf:fuel<0∨300<fuel
   ·rw[if_pos hf] at he;cases he
   ·rw[if_neg hf] at he hv ⊢
    have hrl:=zQg m hm (zAa m.vars (ptsM m) (zC6 fuel)) (fun h=>(zBP m hm _ h).1)
    obtain⟨p1,p2⟩:=zIZ m hm hg2 _ (zC6 fuel) [] (Nat.lt_succ_self _) (zIY m fuel) (zGe m.vars fuel (by omega)) (by simp only[zC6,List.length_nil];change 0+fuel.toNat+zEA m (zAa m.vars (ptsM m) (zC6 fuel))≤400;omega) (Or.inl rfl)
    obtain⟨_,_,c3,_⟩:=zIX m hm hg2 _ (zC6 fuel) [] (Nat.lt_succ_self _) (fun x _ _ c hc=>by cases hc) (Or.inl rfl)
    change (zCH m fuel).verdict=1→PrEnd m [zAH m.vars (zA1 m (zCH m fuel).values)] (zCH m fuel).proof∧(zCH m fuel).proof.length≤6000 at p1
    change (zCH m fuel).verdict=2→PrEnd m [] (zCH m fuel).proof∧(zCH m fuel).proof.length≤6000∧(zCH m fuel).values=[] at p2
    change (zCH m fuel).verdict=1→Sol m (zCH m fuel).values at c3
    simp only at hv ⊢;rcases hv with hv | ⟨hv,_⟩
    ·obtain⟨q1,q2,q3⟩:=p2 hv
     unfold zET;rw[if_pos (by rw[q3];rfl)]
     exact zG1 m hm [] rfl _ q1 q2
    ·obtain⟨q1,q2⟩:=p1 hv
     have hs:=c3 hv;have hn0:¬(zCH m fuel).values.length=0:=by rw[hs.1.1];have:=zEq m hm;omega
     unfold zET;rw[if_neg hn0,zO1 m hm _ hs,if_pos rfl];have hpc:=zG1 m hm [zA1 m (zCH m fuel).values] (zLb m hm _ hs) _ q1 q2;simp only;rw[hpc,if_pos rfl,zO0 m hm _ hs]
  ·rw[if_neg hm] at he
   exact absurd he hm
open Go.RowKit Go.Maps
theorem SkD.setO {W w:World} {s r mb:Nat} {sv pv cv prv pav:Value} {L:List SV} {M:List Nat} {S:Sk} {C:Nat} {cs:Array Value} {t:TypeId} (h:SkD W w s r mb sv pv cv prv pav L M S) (hC:w.heap[C]? = some (.cells cs t)) (ht:TNo t) (hCW:W.heap.size≤C) (i:Nat) (u:Value):SkD W (w.setCell ⟨C,i,none⟩ u) s r mb sv pv cv prv pav L M S:=by
 have hne:∀(q:Nat) (cs':Array Value) (t':TypeId),w.heap[q]? = some (.cells cs' t')→t'≠t→q≠C:=fun q cs' t' hq hn he=>by
  subst he;have:=hq.symm.trans hC;simp only[Option.some.injEq,Obj.cells.injEq] at this;exact hn this.2.1
 exact⟨(zEj w ⟨C,i,none⟩ u r (hne r _ _ h.blkR (Ne.symm ht.1))).trans h.blkR,(zEj w ⟨C,i,none⟩ u s (hne s _ _ h.blkS (Ne.symm ht.2.1))).trans h.blkS,zAu h.own hC ht.2.2.1 i u,h.lt36,h.prf.set hC ht.2.2.2.1 ht.2.2.2.2 i u,h.prfE,h.map.setCell (Ne.symm (zD8 hC h.map)) u,zAu h.path hC ht.2.2.2.2 i u,h.apart,h.fr.setNew (p:=⟨C,i,none⟩) hCW u⟩
theorem zEx:TNo 78:=by unfold TNo;decide
theorem zM4:TNo 29:=by unfold TNo;decide
theorem zM5:TNo 25:=by unfold TNo;decide
theorem zQh:TNo 3:=by unfold TNo;decide
theorem TFr.ofAdd {W w w':World} {s r mb:Nat} {sv pv cv prv pav:Value} {L:List SV} {M:List Nat} {S:Sk} (h:SkD W w s r mb sv pv cv prv pav L M S) (hf:Fr (fun k=>k=r∨cv.ownBlock=some k) w w'):TFr w w' :=
 ⟨hf.os,hf.tape,hf.output,hf.size,fun k cs t z hk ht=>hf.block k (Array.getElem?_eq_some_iff.1 hk).1 fun hx=>by
   rcases hx with hx | hx
   ·subst hx
    have:=hk.symm.trans h.blkR;simp only[Option.some.injEq,Obj.cells.injEq] at this;rw[this.2.1] at ht;exact zQV ht
   ·rcases h.own.2 with ⟨hv,_⟩ | ⟨g,cap,cur,hv,_,hh,_⟩
    ·rw[hv] at hx;cases hx
    ·rw[hv] at hx
     have:g=k:=by simpa[Value.ownBlock] using hx
     subst this;have:=hk.symm.trans hh;simp only[Option.some.injEq,Obj.cells.injEq] at this;rw[this.2.1] at ht;exact zNz ht⟩
structure ClS (m:Mod) (A:Ans) (W:World) (s r mb C qm qa:Nat) (sv cs pv:Value) (v x:Value) (wr:World) (R:Int×List Int×Sk) (best:List Int) (bv cv prv pav:Value) (L:List SV):Prop where
 ans:zBc m R best=A
 ver:v=.int .i64 R.1
 val:wr.ownsRow W.heap.size 3 1 x R.2.1.length (R.2.1.map (Value.int .i64))
 ok:R.1=1→SkO m.vars R.2.2∧R.2.2.cs.length+R.2.2.fuel+zEA m R≤400
 sol:R.1=1→Sol m R.2.1
 sk:SkD W wr s r mb sv pv cv prv pav L (R.2.2.proof.map fun x=>zAH m.vars x.cla) R.2.2
 blkC:wr.heap[C]? = some (.cells #[.pointer (some ⟨s,0,none⟩),bv] 78)
 blkM:wr.heap[qm]? = some (.cells #[sv,cs,.int .i64 m.goal,.int .i64 m.var] 25)
 blkA:wr.heap[qa]? = some (.cells #[.int .i64 0,.slice none 0 0,.slice none 0 0] 29)
 bst:wr.ownsRow W.heap.size 3 1 bv best.length (best.map (Value.int .i64))
def ClI (m:Mod) (A:Ans) (W:World) (s r mb C qm qa:Nat) (sv cs pv:Value) (v x:Value) (wr:World) (n:Nat):Prop :=
 ∃(R:Int×List Int×Sk) (best:List Int) (bv cv prv pav:Value) (L:List SV),zEA m R=n∧ClS m A W s r mb C qm qa sv cs pv v x wr R best bv cv prv pav L
theorem zJy (m:Mod) (hm:zAF m=0) (W:World) (s r mb:Nat) (sv pv cv prv pav:Value) (hB:SkB W s r mb sv pv m.vars (ptsM m)) (L:List SV) (S:Sk) (hS:SkO m.vars S) (w:World) (hD:SkD W w s r mb sv pv cv prv pav L (S.proof.map fun x=>zAH m.vars x.cla) S) :
 Calls Tryz.prog 73 #[.pointer (some ⟨s,0,none⟩)] w fun e w'=>∃x,e=.returned (.tuple #[.int .i64 (zAa m.vars (ptsM m) S).1,x])∧w'.ownsRow W.heap.size 3 1 x (zAa m.vars (ptsM m) S).2.1.length ((zAa m.vars (ptsM m) S).2.1.map (Value.int .i64))∧TFr w w' ∧
  ∃cv' prv' pav' L',SkD W w' s r mb sv pv cv' prv' pav' L' ((zAa m.vars (ptsM m) S).2.2.proof.map fun x=>zAH m.vars x.cla) (zAa m.vars (ptsM m) S).2.2 :=
 (zLa m.vars (zDY m hm) (zEq m hm) (ptsM m) W s r mb sv pv cv prv pav hB L S hS w hD).mono (by
   rintro e w' ⟨x,h1,h2,h3,h4⟩;exact⟨x,h1,World.ownsRow.mono h2 hD.fr.size,h3,h4⟩)
theorem zQi (m:Mod) (hm:zAF m=0) (hg:m.goal=1∨m.goal=2) (fuel:Nat) (hf:fuel≤300) (W:World) (s r mb C:Nat) (sv cs pv:Value) (hB:SkB W s r mb sv pv m.vars (ptsM m)) (w:World)
 (hD:SkD W w s r mb sv pv (.slice none 0 0) (.slice none 0 0) (.slice none 0 0) [] [] ⟨[],fuel,[],[]⟩) (hC:w.heap[C]? = some (.cells #[.pointer (some ⟨s,0,none⟩),.slice none 0 0] 78)) (hCW:W.heap.size≤C) :
 Calls Tryz.prog 42 #[.pointer (some ⟨C,0,none⟩),modV sv cs m] w fun e w'=>∃vv pp,e=.returned (.agg #[.int .i64 (zCH m fuel).verdict,vv,pp])∧AnsQ W.heap.size w' vv pp (zCH m fuel)∧Fr (XS s r mb) W w':=by
 obtain⟨A,hA⟩:∃A,zCH m fuel=A:=⟨_,rfl⟩;rw[hA];have HA:Hid (zBc m (zAa m.vars (ptsM m) ⟨[],fuel,[],[]⟩) []=A):=hA;have HSB:Hid (SkB W s r mb sv pv m.vars (ptsM m)):=hB;have HM:Hid (zAF m=0):=hm;have HG:Hid (m.goal=1∨m.goal=2):=hg;have HCW:Hid (W.heap.size≤C):=hCW;have HD0:=(show Hid _ from hD)
 have hWw:=hD.fr.size;have hCl:C<w.heap.size:=(Array.getElem?_eq_some_iff.1 hC).1;have HC0:Hid (w.heap[C]? = some (.cells #[.pointer (some ⟨s,0,none⟩),.slice none 0 0] 78)):=hC;clear hA hD hB hm hg hCW;unfold modV;go_enter Tryz.func42,Tryz.ntmps42
 have c0:=blk9 hC 0 _ rfl;have c1:=blk9 hC 1 _ rfl;clear hC;go_wp2_with fail
 obtain⟨hq1,hq2⟩:=zEk w (.cells #[sv,cs,.int .i64 m.goal,.int .i64 m.var] 25) (.cells #[.int .i64 0,.slice none 0 0,.slice none 0 0] 29);have hbY:Below w.heap.size w ((w.alloc (.cells #[sv,cs,.int .i64 m.goal,.int .i64 m.var] 25)).alloc (.cells #[.int .i64 0,.slice none 0 0,.slice none 0 0] 29)):=(zAA _ _).alloc (by simp) _
 refine (zJy m HM.out W s r mb sv pv _ _ _ HSB.out [] ⟨[],fuel,[],[]⟩ (zGe m.vars (fuel:Int) (by omega)) _ (HD0.out.below hbY)).mono ?_
 rintro e w1 ⟨x,rfl,hox,htf,cv1,prv1,pav1,L1,hd1⟩;have HI:Hid (∃n,ClI m A W s r mb C w.heap.size (w.heap.size+1) sv cs pv (.int .i64 (zAa m.vars (ptsM m) ⟨[],fuel,[],[]⟩).1) x w1 n):=by
  refine⟨_,zAa m.vars (ptsM m) ⟨[],fuel,[],[]⟩,[],.slice none 0 0,cv1,prv1,pav1,L1,rfl,HA.out,rfl,hox,fun h=>?_,fun h=>(zBP m HM.out _ h).1,hd1,?_,?_,?_,World.ownsRow_nil _ _ _ _⟩
  ·obtain⟨k1,k2⟩:=zKW m.vars (zAg m HM.out) (ptsM m) ⟨[],fuel,[],[]⟩ (zGe m.vars (fuel:Int) (by omega)) h
   have:=zQg m HM.out (zAa m.vars (ptsM m) ⟨[],fuel,[],[]⟩) (fun h=>(zBP m HM.out _ h).1)
   refine⟨k1,?_⟩;simp only[List.length_nil] at k2;omega
  ·have h1:=(hbY.block C hCl).trans HC0.out
   exact (htf.block _ _ _ _ h1 zEx).trans h1
  ·exact (htf.block _ _ _ _ hq1 zM5).trans hq1
  ·exact (htf.block _ _ _ _ hq2 zM4).trans hq2
 obtain⟨X1,hX1⟩:∃X1,(zAa m.vars (ptsM m) ⟨[],fuel,[],[]⟩).1=X1:=⟨_,rfl⟩;rw[hX1] at HI ⊢;have hql:C<w.heap.size:=hCl;clear hox htf hd1 hq1 hq2 hbY hX1 HA HC0 HD0 c0 c1;go_wp2_with fail
 go_loopw [5,6] (fun v x wr=>∃n,ClI m A W s r mb C w.heap.size (w.heap.size+1) sv cs pv v x wr n) (fun v x wr=>zES (ClI m A W s r mb C w.heap.size (w.heap.size+1) sv cs pv v x wr))
 case atStart=>exact HI.out
 case round =>
  have hsp:=zHR hrel;obtain⟨N,hN⟩:∃N,zES (ClI m A W s r mb C w.heap.size (w.heap.size+1) sv cs pv u5 u6 wr)=N:=⟨_,rfl⟩;have HN:Hid (zES (ClI m A W s r mb C w.heap.size (w.heap.size+1) sv cs pv u5 u6 wr)=N):=hN;rw[hN] at hsp;clear hrel HI hN;obtain⟨R,best,bv,cv,prv,pav,L,hrm,hcl⟩:=hsp;obtain rfl:=hcl.ver;have HRM:Hid (zEA m R=N):=hrm;have HCL:Hid (ClS m A W s r mb C w.heap.size (w.heap.size+1) sv cs pv (.int .i64 R.1) u6 wr R best bv cv prv pav L):=hcl;obtain⟨ax,cx,rfl⟩:=zAB hcl.val;obtain⟨ab,cb,rfl⟩:=zAB hcl.bst;have hst:=zDR m HM.out HG.out R best hcl.sol;rw[hcl.ans] at hst;have c0:=blk9 hcl.blkC 0 _ rfl;have c1:=blk9 hcl.blkC 1 _ rfl;have cz:=frz9 hcl.blkC 1;have cl:=(Array.getElem?_eq_some_iff.1 hcl.blkC).1;have hWr:=hcl.sk.fr.size;clear hrm hcl;by_cases h1:R.1=1
  ·rw[if_pos h1] at hst
   have HST:Hid (A=zBc m (zAa m.vars (ptsM m) (zBl m R)) R.2.1):=hst;have HSOL:Hid (Sol m R.2.1):=HCL.out.sol h1;have HOK:Hid (SkO m.vars R.2.2∧R.2.2.cs.length+R.2.2.fuel+zEA m R≤400):=HCL.out.ok h1;have HROOM:Hid (zEA m (zAa m.vars (ptsM m) (zBl m R))<N):=by rw[←HRM.out];exact zDQ m HM.out HG.out R h1 HSOL.out
   rw[h1] at HN ⊢;have HKY:Hid (SkD W (wr.setCell ⟨C,1,none⟩ (.slice ax R.2.1.length cx)) s r mb sv pv cv prv pav L (R.2.2.proof.map fun x=>zAH m.vars x.cla) R.2.2):=HCL.out.sk.setO HCL.out.blkC zEx HCW.out 1 _
   have HCY:Hid ((wr.setCell ⟨C,1,none⟩ (.slice ax R.2.1.length cx)).heap[C]? = some (.cells #[.pointer (some ⟨s,0,none⟩),.slice ax R.2.1.length cx] 78)):=by show _=_;rw[heap_setCell_same wr C 1 _ _ _ HCL.out.blkC];rfl
   have hnC:∀(q:Nat) (cs':Array Value) (t':TypeId),wr.heap[q]? = some (.cells cs' t')→t'≠78→q≠C:=fun q cs' t' hq hn he=>by
    subst he;have:=hq.symm.trans HCL.out.blkC;simp only[Option.some.injEq,Obj.cells.injEq] at this;exact hn this.2.1
   have HMY:Hid ((wr.setCell ⟨C,1,none⟩ (.slice ax R.2.1.length cx)).heap[w.heap.size]? = some (.cells #[sv,cs,.int .i64 m.goal,.int .i64 m.var] 25)):=(zEj wr ⟨C,1,none⟩ _ _ (hnC _ _ _ HCL.out.blkM (by decide))).trans HCL.out.blkM
   have HAY:Hid ((wr.setCell ⟨C,1,none⟩ (.slice ax R.2.1.length cx)).heap[w.heap.size+1]? = some (.cells #[.int .i64 0,.slice none 0 0,.slice none 0 0] 29)):=(zEj wr ⟨C,1,none⟩ _ _ (hnC _ _ _ HCL.out.blkA (by decide))).trans HCL.out.blkA
   have HVY:Hid ((wr.setCell ⟨C,1,none⟩ (.slice ax R.2.1.length cx)).ownsRow W.heap.size 3 1 (.slice ax R.2.1.length cx) R.2.1.length (R.2.1.map (Value.int .i64))):=zAu HCL.out.val HCL.out.blkC (by decide) 1 _
   clear hst h1 hnC;go_wp2_with fail
   obtain⟨Y,hY⟩:∃Y,wr.setCell ⟨C,1,none⟩ (.slice ax R.2.1.length cx)=Y:=⟨_,rfl⟩;rw[hY] at HKY HCY HMY HAY HVY ⊢;clear hY c0 c1 cz cl HCL;have c0:=blk9 HCY.out 0 _ rfl;have cl:=(Array.getElem?_eq_some_iff.1 HCY.out).1;have m0:=blk9 HMY.out 0 _ rfl;have m1:=blk9 HMY.out 1 _ rfl;have m2:=blk9 HMY.out 2 _ rfl;have m3:=blk9 HMY.out 3 _ rfl;have ml:=(Array.getElem?_eq_some_iff.1 HMY.out).1;obtain⟨s0,s1,s2,s3,s4,s5,s6⟩:=HKY.out.cells;have HBT:Hid (∀Z,Below Y.heap.size Y Z→Calls Tryz.prog 89 #[.agg #[sv,cs,.int .i64 m.goal,.int .i64 m.var],.slice ax R.2.1.length cx] Z fun e w'=>∃x,e=.returned x∧LOwn Z.heap.size w' x (zA1 m R.2.1)∧Below Z.heap.size Z w'):=fun Z hZ=>by
    obtain⟨q1,q2,_⟩:=zDa m HM.out;have hr:=zEl m HM.out _ HSOL.out;have hb:=zCg m HM.out m.var.toNat (by omega)
    refine zJv m R.2.1 ⟨q1,by rw[HSOL.out.1.1];exact q2⟩ ⟨by omega,by omega⟩ sv cs _ Z (zD5 (zAG HVY.out hZ))
   have hcs:R.2.2.cs.length≤1000:=by have:=HOK.out.2;omega
   go_region_law
    (first
      | (rw[if_pos (by rfl)];go_simp;go_at_call 89;refine (HBT.out _ (Below.refl _ _).drew).mono ?_;rintro e w3 ⟨x,rfl,hx3,hb3⟩;have hB3:Below Y.heap.size Y w3:=(Below.refl _ _).drew.trans hb3;obtain⟨a3,c3,hxf⟩:=zAB (show w3.ownsRow _ _ _ _ _ _ from hx3);subst hxf;have e0:=(hB3.cell (p:=⟨C,0,none⟩) cl).trans c0;have e1:=(hB3.cell (p:=⟨s,1,none⟩) s0).trans s2;have el:C<w3.heap.size:=Nat.lt_of_lt_of_le cl hB3.size;have el2:s<w3.heap.size:=Nat.lt_of_lt_of_le s0 hB3.size;dsimp only)
      | (rw[if_pos (by rfl)];go_simp;go_at_call 88;refine (zQP m.vars (zDY m HM.out) (ptsM m) R.2.2.cs (by omega) (zA1 m R.2.1) (oldW w3 W.heap.size) r sv pv cv _ w3 ((HKY.out.below hB3).rul HSB.out) (HKY.out.below hB3).rulD (LOwn.arg hx3)).mono ?_;rintro e w4 ⟨rfl,cv4,hr4,hf4⟩;dsimp only))
   all_goals
    have HK4:=(HKY.out.below hB3).add (zD9 w3 _ (HKY.out.below hB3).fr.size) hr4 hf4;have HT4:TFr Y w4:=(TFr.below hB3).trans (TFr.ofAdd (HKY.out.below hB3) hf4);have HC4:=(HT4.block _ _ _ _ HCY.out zEx).trans HCY.out;have HM4:=(HT4.block _ _ _ _ HMY.out zM5).trans HMY.out;have HA4:=(HT4.block _ _ _ _ HAY.out zM4).trans HAY.out;have HV4:=HT4.own HVY.out zQh;have HSK4:Hid (SkD W w4 s r mb sv pv cv4 prv pav L ((zBl m R).proof.map fun x=>zAH m.vars x.cla) (zBl m R)):=HK4
    have HC4':=(show Hid _ from HC4)
    have HM4':=(show Hid _ from HM4)
    have HA4':=(show Hid _ from HA4)
    have HV4':=(show Hid _ from HV4)
    have f0:=blk9 HC4 0 _ rfl;have fl:=(Array.getElem?_eq_some_iff.1 HC4).1;clear HK4 HT4 HC4 HM4 HA4 HV4 hr4 hf4 hx3 hb3 hB3 e0 e1 el el2 c0 cl m0 m1 m2 m3 ml s0 s1 s2 s3 s4 s5 s6;go_wp2_with fail
    refine (zJy m HM.out W s r mb sv pv _ _ _ HSB.out L (zBl m R) ⟨HOK.out.1.prf,by have:=HOK.out.2;unfold zBl;simp only[List.length_append,List.length_singleton];omega,HOK.out.1.path⟩ w4 HSK4.out).mono ?_
    rintro e w5 ⟨x5,rfl,hox5,htf5,cv5,prv5,pav5,L5,hd5⟩;have HNI:Hid (ClI m A W s r mb C w.heap.size (w.heap.size+1) sv cs pv (.int .i64 (zAa m.vars (ptsM m) (zBl m R)).1) x5 w5 (zEA m (zAa m.vars (ptsM m) (zBl m R)))):=by
     refine⟨_,R.2.1,.slice ax R.2.1.length cx,cv5,prv5,pav5,L5,rfl,HST.out.symm,rfl,hox5,fun h=>?_,fun h=>(zBP m HM.out _ h).1,hd5,(htf5.block _ _ _ _ HC4'.out zEx).trans HC4'.out,(htf5.block _ _ _ _ HM4'.out zM5).trans HM4'.out,(htf5.block _ _ _ _ HA4'.out zM4).trans HA4'.out,htf5.own HV4'.out zQh⟩
     obtain⟨k1,k2⟩:=zKW m.vars (zAg m HM.out) (ptsM m) (zBl m R) ⟨HOK.out.1.prf,by have:=HOK.out.2;unfold zBl;simp only[List.length_append,List.length_singleton];omega,HOK.out.1.path⟩ h
     refine⟨k1,?_⟩;have h2:=HROOM.out;have h3:=HRM.out;have h4:=HOK.out.2;have h5:(zBl m R).cs.length+(zBl m R).fuel=R.2.2.cs.length+1+R.2.2.fuel:=by unfold zBl;simp only[List.length_append,List.length_singleton]
     omega
    obtain⟨X5,hX5⟩:∃X5,(zAa m.vars (ptsM m) (zBl m R)).1=X5:=⟨_,rfl⟩;rw[hX5] at HNI ⊢;clear hox5 htf5 hd5 hX5 f0 fl;go_wp2
    go_roundw
    case rel=>exact⟨_,HNI.out⟩
    case measure=>exact Nat.lt_of_le_of_lt (zGz HNI.out) (by rw[HN.out];exact HROOM.out)
  ·rw[if_neg h1] at hst
   have h1':(R.1==1)=false:=by simpa using h1
   have r0:=blk9 HCL.out.blkA 0 _ rfl;have r1:=blk9 HCL.out.blkA 1 _ rfl;have r2:=blk9 HCL.out.blkA 2 _ rfl;have z0:=frz9 HCL.out.blkA 0;have z1:=frz9 HCL.out.blkA 1;have z2:=frz9 HCL.out.blkA 2;have rl:=(Array.getElem?_eq_some_iff.1 HCL.out.blkA).1;have HFR:Hid (∀u0 u1 u2,Fr (XS s r mb) W (((wr.setCell ⟨w.heap.size+1,0,none⟩ u0).setCell ⟨w.heap.size+1,1,none⟩ u1).setCell ⟨w.heap.size+1,2,none⟩ u2)):=fun u0 u1 u2 =>
    ((HCL.out.sk.fr.setNew (p:=⟨w.heap.size+1,0,none⟩) (by simp only;omega) u0).setNew (p:=⟨w.heap.size+1,1,none⟩) (by simp only;omega) u1).setNew (p:=⟨w.heap.size+1,2,none⟩) (by simp only;omega) u2
   have HBA:Hid (wr.heap[w.heap.size+1]? = some (.cells #[.int .i64 0,.slice none 0 0,.slice none 0 0] 29)):=HCL.out.blkA;have HBV:Hid (wr.ownsRow W.heap.size 3 1 (.slice ab best.length cb) best.length (best.map (Value.int .i64))):=HCL.out.bst;have HSK:=(show Hid _ from HCL.out.sk)
   obtain⟨apr,cpr,rfl⟩:=zAB HCL.out.sk.prf.1;obtain⟨s0,s1,s2,s3,s4,s5,s6⟩:=HCL.out.sk.cells;by_cases h3:R.1=3
   ·rw[if_pos h3] at hst
    have HN3:Hid (A=⟨3,[],[]⟩):=hst;rw[h3];clear hst h1 h1' h3 HN HCL HSK c0 c1 cz cl s0 s1 s2 s3 s4 s5 s6;go_wp2
    refine bodyPost_ret (by simp[results,Tryz.results42,go_sem, *];try rfl) rfl ?_
    rw[HN3.out];exact⟨_,_,rfl,zG0 _ _ _,HFR.out _ _ _⟩
   ·rw[if_neg h3] at hst
    have h3':(R.1==3)=false:=by simpa using h3
    by_cases hb:0<best.length
    ·rw[if_pos hb] at hst
     have HN3:Hid (A=⟨1,best,R.2.2.proof⟩):=hst;have hb':(0:Int)<(best.length:Int):=by omega
     have hb2:¬best=[]:=fun h=>by rw[h] at hb;cases hb
     have HQ:Hid (∀u0 u1 u2,AnsQ W.heap.size (((wr.setCell ⟨w.heap.size+1,0,none⟩ u0).setCell ⟨w.heap.size+1,1,none⟩ u1).setCell ⟨w.heap.size+1,2,none⟩ u2) (.slice ab best.length cb) (.slice apr L.length cpr) ⟨1,best,R.2.2.proof⟩):=fun u0 u1 u2 =>
      AnsQ.set3 (w:=wr) ⟨HBV.out,L,HSK.out.prf,HSK.out.prfE⟩ HBA.out u0 u1 u2
     clear hst h1 h3 HN HCL HSK cz;obtain⟨V1,hV1⟩:∃V1,R.1=V1:=⟨_,rfl⟩;rw[hV1] at h1' h3' ⊢;clear hV1;go_wp2_with fail
     go_region_law (fail)
     all_goals
      go_wp2
      refine bodyPost_ret (by simp[results,Tryz.results42,go_sem, *];try rfl) rfl ?_
      rw[HN3.out];exact⟨_,_,rfl,(HQ.out _ _ _).below (Below.refl _ _).drew,(HFR.out _ _ _).trans (Fr.below (Below.refl _ _).drew)⟩
    ·rw[if_neg hb] at hst
     have HN3:Hid (A=⟨R.1,best,R.2.2.proof⟩):=hst;have hb':¬(0:Int)<(best.length:Int):=by omega
     have hb2:best=[]:=List.length_eq_zero_iff.1 (by omega)
     have HQ:Hid (∀u0 u1 u2,AnsQ W.heap.size (((wr.setCell ⟨w.heap.size+1,0,none⟩ u0).setCell ⟨w.heap.size+1,1,none⟩ u1).setCell ⟨w.heap.size+1,2,none⟩ u2) (.slice ab best.length cb) (.slice apr L.length cpr) ⟨R.1,best,R.2.2.proof⟩):=fun u0 u1 u2 =>
      AnsQ.set3 (w:=wr) ⟨HBV.out,L,HSK.out.prf,HSK.out.prfE⟩ HBA.out u0 u1 u2
     clear hst h1 h3 HN HCL HSK cz HBV;obtain⟨V1,hV1⟩:∃V1,R.1=V1:=⟨_,rfl⟩;rw[hV1] at h1' h3' HN3 HQ ⊢;subst hb2;clear hV1;go_wp2_with fail
     go_region_law (fail)
     all_goals
      go_wp2
      refine bodyPost_ret (by simp[results,Tryz.results42,go_sem, *];try rfl) rfl ?_
      rw[HN3.out];exact⟨_,_,rfl,(HQ.out _ _ _).below (Below.refl _ _).drew,(HFR.out _ _ _).trans (Fr.below (Below.refl _ _).drew)⟩
end Go.Proofs.YtdjbejlbmaiocagGreatDoor
