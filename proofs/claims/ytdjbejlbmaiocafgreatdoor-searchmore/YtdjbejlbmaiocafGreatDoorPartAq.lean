/- What the proof leans on, part 17. -/
import Derived.Test.YtdjbejlbmaiocafGreatDoorPartAp
namespace Go.Proofs.YtdjbejlbmaiocafGreatDoor
def zAz:Cla→Sto→Sto
 | [],s=>s
 | l :: r,s=>zAz r (s.set l.var.toNat (s.getD l.var.toNat []++[l.n]))
def zAP (vs:List MVar) (p:Nat):Sto:=zAz (zA8 vs p) (List.replicate vs.length [])
def fewF (s:Sto):Nat→List (List Int)→Int→Int
 | _,[],b=>b
 | v,x :: r,b=>fewF s (v+1) r (if 1<x.length∧(b<0∨x.length<(s.getD b.toNat []).length) then (v:Int) else b)
def zAp (s:Sto):Int:=fewF s 0 s (-1)
def zI5 (x l:MLit):Bool:=decide (x.var=l.var)&&(decide (x.op=l.op)&&decide (x.n=l.n))
def idxL (l:MLit):Cla→Nat
 | []=>0
 | x :: r=>if zI5 l x then 0 else idxL l r+1
structure Sk where
 cs:List Nat
 fuel:Nat
 proof:List MStep
 path:Cla
def zAh (vs:List MVar):List MStep→List MStep→List MStep
 | [],p=>p
 | t :: r,p=>zAh vs r (if (p.map fun x=>zAR vs x.cla).contains (zAR vs t.cla) then p else p++[t])
def zF3 (c:Cla):MLit:=c.getD (c.length - 1) zLx
def zAk (vs:List MVar) (pt:List (List Nat)) (s:Sk):Int×Sk :=
 if s.fuel=0 then (3,s)
 else if 6000<(zAh vs (zDI vs s.cs pt (zBF vs s.cs pt s.path)) s.proof).length then (3,⟨s.cs,s.fuel - 1,zAh vs (zDI vs s.cs pt (zBF vs s.cs pt s.path)) s.proof,s.path⟩)
 else if (zBF vs s.cs pt s.path).length=0 then (2,⟨s.cs,s.fuel - 1,zAh vs (zDI vs s.cs pt (zBF vs s.cs pt s.path)) s.proof,s.path⟩)
 else (0,⟨s.cs++[zAR vs (zBF vs s.cs pt s.path)],s.fuel - 1,zAh vs (zDI vs s.cs pt (zBF vs s.cs pt s.path)) s.proof,s.path.take (idxL (zF3 (zBF vs s.cs pt s.path)) s.path)⟩)
def zAT (vs:List MVar) (pt:List (List Nat)) (s:Sk):Nat:=zA1 vs s.cs pt (zAR vs s.path)
def zKJ (st:Sto):MLit:=⟨zAp st,4,(st.getD (zAp st).toNat []).getD 0 0⟩
def zCY (st:Sto) (s:Sk):Sk:=⟨s.cs,s.fuel,s.proof,s.path++[zKJ st]⟩
def zGu (vs:List MVar) (pt:List (List Nat)):Nat→Sk→Int×List Int×Sk
 | 0,s=>(0,[],s)
 | n+1,s =>
   if zAT vs pt s=0 then
    (if (zAk vs pt s).1=0 then zGu vs pt n (zAk vs pt s).2 else ((zAk vs pt s).1,[],(zAk vs pt s).2))
   else if zAp (zAP vs (zAT vs pt s))<0 then (1,(zAP vs (zAT vs pt s)).flatten,s)
   else zGu vs pt n (zCY (zAP vs (zAT vs pt s)) s)
def zGv (vs:List MVar) (c:Cla):Nat:=zC3 (zAM (zAG vs) (zAR vs c))
def zBZ (vs:List MVar) (s:Sk):Nat:=s.fuel * 40+zGv vs s.path
def zA4 (vs:List MVar) (pt:List (List Nat)) (s:Sk):Int×List Int×Sk:=zGu vs pt (zBZ vs s+1) s
theorem zFE:∀(c:Cla) (s:Sto),(zAz c s).length=s.length
 | [],s=>rfl
 | l :: r,s=>by unfold zAz;rw[zFE r];simp
theorem zDa (vs:List MVar) (p:Nat):(zAP vs p).length=vs.length:=by unfold zAP;rw[zFE];simp
theorem zFF (v:Nat):∀(c:Cla) (s:Sto),v<s.length→(zAz c s).getD v []=s.getD v []++(c.filter fun l=>l.var.toNat==v).map (·.n)
 | [],s,_=>by simp[zAz]
 | l :: r,s,h=>by
   unfold zAz
   rw[zFF v r _ (by simpa using h)]
   by_cases he:l.var.toNat=v
   ·subst he
    rw[List.filter_cons]
    simp[List.getD_eq_getElem?_getD,h]
   ·rw[List.filter_cons]
    simp[List.getD_eq_getElem?_getD,he]
theorem zFG (vs:List MVar) (p v:Nat) (h:v<vs.length):(zAP vs p).getD v []=((zCM p).filter fun i=>i / 6==v).map fun i=>(zAE vs v).lo+((i % 6:Nat):Int):=by
 unfold zAP
 rw[zFF v _ _ (by simpa using h)]
 unfold zA8
 rw[List.filter_map,List.map_map]
 have:(List.replicate vs.length ([]:List Int)).getD v []=[]:=by simp[List.getD_eq_getElem?_getD,h]
 rw[this,List.nil_append]
 have e:((fun l:MLit=>l.var.toNat==v) ∘ fun i:Nat=>(⟨((i / 6:Nat):Int),3,(zAE vs (i / 6)).lo+((i % 6:Nat):Int)⟩:MLit))=fun i:Nat=>i / 6==v:=by
  funext i
  show ((((i / 6:Nat):Int)).toNat==v)=_
  rw[Int.toNat_natCast]
 rw[e]
 apply List.map_congr_left
 intro i hi
 have:=(List.mem_filter.1 hi).2
 have:i / 6=v:=by simpa using this
 simp[this]
theorem zGw (p:Nat):(zCM p).Nodup:=by
 unfold zCM
 exact List.Pairwise.filter _ List.nodup_range
theorem zF4 (vs:List MVar) (p v:Nat) (h:v<vs.length):((zAP vs p).getD v []).Nodup:=by
 rw[zFG vs p v h]
 have hn:=List.Pairwise.filter (fun i=>i / 6==v) (zGw p)
 refine List.Pairwise.map _ (fun a b hab=>?_) (List.Pairwise.imp_of_mem ?_ hn (S:=fun a b:Nat=>a≠b∧a / 6=v∧b / 6=v))
 ·intro he
  have:a % 6=b % 6:=by omega
  have:=hab
  omega
 ·intro a b ha hb hab
  exact⟨hab,by simpa using (List.mem_filter.1 ha).2,by simpa using (List.mem_filter.1 hb).2⟩
theorem zDb (vs:List MVar) (p v:Nat) (h:v<vs.length) (x:Int):x∈(zAP vs p).getD v []↔∃i,i<36∧p.testBit i=true∧i / 6=v∧x=(zAE vs v).lo+((i % 6:Nat):Int):=by
 rw[zFG vs p v h,List.mem_map]
 constructor
 ·rintro ⟨i,hi,rfl⟩
  obtain⟨h1,h2⟩:=List.mem_filter.1 hi
  unfold zCM at h1
  obtain⟨h3,h4⟩:=List.mem_filter.1 h1
  exact⟨i,List.mem_range.1 h3,h4,by simpa using h2,rfl⟩
 ·rintro ⟨i,h1,h2,h3,rfl⟩
  exact⟨i,List.mem_filter.2 ⟨(zKG p i h1).2 h2,by simpa using h3⟩,rfl⟩
theorem zDJ (s:Sto):∀(r:List (List Int)) (v:Nat) (b:Int),v+r.length=s.length→(∀k,r[k]? = s[v+k]?)→(b<0∨(0≤b∧b<(s.length:Int)∧1<(s.getD b.toNat []).length)) →
 (fewF s v r b<0→b<0∧∀x∈r,x.length≤1)∧(¬fewF s v r b<0→fewF s v r b<(s.length:Int)∧1<(s.getD (fewF s v r b).toNat []).length)
 | [],v,b,hl,hr,hb=>by
   unfold fewF
   refine⟨fun h=>⟨h,fun x hx=>by cases hx⟩,fun h=>?_⟩
   rcases hb with hb | hb
   ·exact absurd hb h
   ·exact⟨hb.2.1,hb.2.2⟩
 | x :: r,v,b,hl,hr,hb=>by
   unfold fewF
   have hx:s[v]? = some x:=by have:=hr 0;simpa using this.symm
   have hg:s.getD v []=x:=by rw[List.getD_eq_getElem?_getD,hx];rfl
   have hl':v+1+r.length=s.length:=by rw[List.length_cons] at hl;omega
   have hr':∀k,r[k]? = s[v+1+k]? := fun k=>by
    have:=hr (k+1)
    rw[List.getElem?_cons_succ] at this
    rw[this];congr 1;omega
   by_cases hc:1<x.length∧(b<0∨x.length<(s.getD b.toNat []).length)
   ·rw[if_pos hc]
    obtain⟨h1,h2⟩:=zDJ s r (v+1) (v:Int) hl' hr' (Or.inr ⟨by omega,by rw[List.length_cons] at hl;omega,by rw[Int.toNat_natCast,hg];exact hc.1⟩)
    refine⟨fun h=>?_,h2⟩
    have:=(h1 h).1
    omega
   ·rw[if_neg hc]
    obtain⟨h1,h2⟩:=zDJ s r (v+1) b hl' hr' hb
    refine⟨fun h=>?_,h2⟩
    obtain⟨h3,h4⟩:=h1 h
    refine⟨h3,fun y hy=>?_⟩
    rcases List.mem_cons.1 hy with rfl | hy
    ·apply Classical.byContradiction
     intro hn
     exact hc ⟨by omega,Or.inl h3⟩
    ·exact h4 y hy
theorem zGx (s:Sto) (h:zAp s<0):∀x∈s,x.length≤1 :=
 ((zDJ s s 0 (-1) (by omega) (fun k=>by rw[Nat.zero_add]) (Or.inl (by omega))).1 h).2
theorem zEW (s:Sto) (h:¬zAp s<0):zAp s<(s.length:Int)∧1<(s.getD (zAp s).toNat []).length :=
 (zDJ s s 0 (-1) (by omega) (fun k=>by rw[Nat.zero_add]) (Or.inl (by omega))).2 h
theorem zDn (vs:List MVar) (hv:zAW vs) (a b:Cla) (i:Nat):(zAR vs (a++b)).testBit i=((zAR vs a).testBit i || (zAR vs b).testBit i):=by
 unfold zAR ofP
 rw[zAf vs hv,zAf vs hv,zAf vs hv]
 unfold oneB
 rw[List.any_append]
 cases decide (i / 6<vs.length) <;> cases decide (i % 6<zBH (zAE vs (i / 6))) <;> simp
theorem zEX (vs:List MVar) (cs:List Nat) (pt:List (List Nat)) (i:Nat):∀(f l:Nat),l<2 ^ 36→(zAo vs cs pt f l).testBit i=true→l.testBit i=true
 | 0,l,_,h=>h
 | f+1,l,hl,h=>by
   unfold zAo at h
   split at h
   ·exact h
   ·have h1:=zCW vs cs pt l hl
    have h2:=zEX vs cs pt i f _ (by omega) h
    have h3:=zDD vs cs l
    refine zER vs cs l i ?_
    have:∀(pt:List (List Nat)) (q:Nat),q<2 ^ 36→(zAe pt q).testBit i=true→q.testBit i=true:=by
     intro pt
     induction pt with
     | nil=>intro q _ h;exact h
     | cons pts r ih =>
       intro q hq h
       unfold zAe at h
       split at h
       ·exact h
       ·have:=zEP pts q hq
        exact zFZ pts q i hq (ih _ (by omega) h)
    exact this pt _ (by omega) h2
theorem zCj (vs:List MVar) (hv:zAW vs) (cs:List Nat) (pt:List (List Nat)) (h i:Nat) (hi:(zA1 vs cs pt h).testBit i=true):(zAG vs).testBit i=true∧h.testBit i=false:=by
 unfold zA1 at hi
 split at hi
 ·simp at hi
 ·have:=zEX vs cs pt i _ _ (zBN 36 _ _ (zCi vs hv)) hi
  rw[zAK,Bool.and_eq_true,Bool.not_eq_true'] at this
  exact this
theorem zI6 (vs:List MVar) (hv:zAW vs) (cs:List Nat) (pt:List (List Nat)) (h:Nat):zA1 vs cs pt h<2 ^ 36:=by
 refine Nat.lt_of_le_of_lt (Nat.le_of_testBit fun i hi=>(zCj vs hv cs pt h i hi).1) (zCi vs hv)
theorem zHY (vs:List MVar) (hv:zAW vs) (pt:List (List Nat)) (s:Sk) (h:¬zAp (zAP vs (zAT vs pt s))<0):zGv vs (zCY (zAP vs (zAT vs pt s)) s).path+1≤zGv vs s.path:=by
 obtain⟨h1,h2⟩:=zEW _ h
 obtain⟨f,hf⟩:∃f,zAp (zAP vs (zAT vs pt s))=f:=⟨_,rfl⟩
 unfold zCY zKJ
 rw[hf] at h h1 h2 ⊢
 rw[zDa] at h1
 obtain⟨v,rfl⟩:∃v:Nat,f=(v:Int):=⟨f.toNat,by omega⟩
 rw[Int.toNat_natCast] at h2 ⊢
 have hvl:v<vs.length:=by omega
 have hnd:=zF4 vs (zAT vs pt s) v hvl
 obtain⟨x,y,t,ht⟩:∃x y t,(zAP vs (zAT vs pt s)).getD v []=x :: y :: t:=by
  match hr:(zAP vs (zAT vs pt s)).getD v [] with
  | []=>rw[hr] at h2;simp at h2
  | [x]=>rw[hr] at h2;simp at h2
  | x :: y :: t=>exact⟨x,y,t,rfl⟩
 have hy:y∈(zAP vs (zAT vs pt s)).getD v []:=by rw[ht];simp
 have hxy:x≠y:=by rw[ht] at hnd;simp at hnd;exact hnd.1.1
 obtain⟨i,hi36,hib,hiv,rfl⟩:=(zDb vs _ v hvl y).1 hy
 rw[ht]
 obtain⟨hw,hn⟩:=zCj vs hv _ _ _ i hib
 unfold zGv
 refine zF2 _ _ (zBN 36 _ _ (zCi vs hv)) (fun k hk=>?_) (fun he=>?_)
 ·rw[zAK,Bool.and_eq_true,Bool.not_eq_true',zDn vs hv,Bool.or_eq_false_iff] at hk
  rw[zAK,hk.1,hk.2.1];rfl
 ·have h3:=congrArg (fun z=>Nat.testBit z i) he
  simp only[zAK,zDn vs hv,hw,hn] at h3
  have h4:(zAR vs [(⟨(v:Int),4,x⟩:MLit)]).testBit i=true:=by
   unfold zAG ofP at hw
   rw[zAf vs hv] at hw
   simp only[Bool.and_eq_true,decide_eq_true_eq] at hw
   unfold zAR ofP
   rw[zAf vs hv]
   simp only[Bool.and_eq_true,decide_eq_true_eq]
   refine⟨hw.1,hw.2.1,?_⟩
   unfold oneB
   simp only[List.any_cons,List.any_nil,Bool.or_false,Bool.and_eq_true,decide_eq_true_eq,hiv,true_and]
   unfold litV
   simpa using fun h=>hxy h.symm
  simp[h4] at h3
theorem zI7 (vs:List MVar) (pt:List (List Nat)) (s:Sk) (h:(zAk vs pt s).1=0):(zAk vs pt s).2.fuel+1=s.fuel:=by
 unfold zAk at h ⊢
 split
 ·rename_i hc;rw[if_pos hc] at h;cases h
 ·rename_i h0
  rw[if_neg h0] at h
  split
  ·rename_i hc;rw[if_pos hc] at h;cases h
  ·rename_i h1
   rw[if_neg h1] at h
   split
   ·rename_i hc;rw[if_pos hc] at h;cases h
   ·show s.fuel - 1+1=s.fuel
    omega
theorem zCZ (vs:List MVar) (pt:List (List Nat)) (s:Sk) (h:(zAk vs pt s).1=0):zBZ vs (zAk vs pt s).2<zBZ vs s:=by
 have h1:=zI7 vs pt s h
 have h2:zGv vs (zAk vs pt s).2.path≤36:=zGt _
 unfold zBZ
 omega
theorem zDK (vs:List MVar) (hv:zAW vs) (pt:List (List Nat)) (s:Sk) (h:¬zAp (zAP vs (zAT vs pt s))<0):zBZ vs (zCY (zAP vs (zAT vs pt s)) s)<zBZ vs s:=by
 have:=zHY vs hv pt s h
 unfold zBZ
 show s.fuel * 40+_<_
 omega
theorem zDL (vs:List MVar) (hv:zAW vs) (pt:List (List Nat)):∀(f g:Nat) (s:Sk),zBZ vs s<f→zBZ vs s<g→zGu vs pt f s=zGu vs pt g s
 | 0,g,s,hf,hg=>by omega
 | f+1,0,s,hf,hg=>by omega
 | f+1,g+1,s,hf,hg=>by
   unfold zGu
   split
   ·split
    ·rename_i h
     have:=zCZ vs pt s h
     exact zDL vs hv pt f g _ (by omega) (by omega)
    ·rfl
   ·split
    ·rfl
    ·rename_i h
     have:=zDK vs hv pt s h
     exact zDL vs hv pt f g _ (by omega) (by omega)
theorem zDM (vs:List MVar) (hv:zAW vs) (pt:List (List Nat)) (s:Sk):zA4 vs pt s =
 if zAT vs pt s=0 then (if (zAk vs pt s).1=0 then zA4 vs pt (zAk vs pt s).2 else ((zAk vs pt s).1,[],(zAk vs pt s).2))
 else if zAp (zAP vs (zAT vs pt s))<0 then (1,(zAP vs (zAT vs pt s)).flatten,s)
 else zA4 vs pt (zCY (zAP vs (zAT vs pt s)) s):=by
 conv=>lhs;unfold zA4 zGu
 split
 ·split
  ·rename_i h
   have:=zCZ vs pt s h
   exact zDL vs hv pt _ _ _ (by omega) (by omega)
  ·rfl
 ·split
  ·rfl
  ·rename_i h
   have:=zDK vs hv pt s h
   exact zDL vs hv pt _ _ _ (by omega) (by omega)
def zEY (vs:List MVar) (c:Cla):Prop:=∀k,k≤c.length→k+zGv vs (c.take k)≤36
theorem zKK (vs:List MVar):zEY vs []:=fun k hk=>by
 have:k=0:=by simpa using hk
 subst this
 have:=zGt (zAM (zAG vs) (zAR vs ([].take 0)))
 unfold zGv
 omega
theorem zKL (vs:List MVar) (c:Cla) (h:zEY vs c):c.length≤36:=by
 have:=h c.length (Nat.le_refl _)
 omega
theorem zI8 (vs:List MVar) (c:Cla) (h:zEY vs c) (n:Nat):zEY vs (c.take n):=fun k hk=>by
 rw[List.length_take] at hk
 rw[List.take_take,Nat.min_eq_left (by omega)]
 exact h k (by omega)
theorem zKM (vs:List MVar) (hv:zAW vs) (pt:List (List Nat)) (s:Sk) (hp:zEY vs s.path) (h:¬zAp (zAP vs (zAT vs pt s))<0):zEY vs (zCY (zAP vs (zAT vs pt s)) s).path:=fun k hk=>by
 have h1:=zHY vs hv pt s h
 unfold zCY at *
 simp only at *
 rw[List.length_append,List.length_singleton] at hk
 by_cases he:k≤s.path.length
 ·rw[List.take_append_of_le_length he]
  exact hp k he
 ·have:k=s.path.length+1:=by omega
  subst this
  rw[List.take_of_length_le (by simp)]
  have:=hp s.path.length (Nat.le_refl _)
  rw[List.take_length] at this
  omega
theorem zGy (x l:MLit):zI5 x l=true↔x=l:=by
 unfold zI5
 rw[Bool.and_eq_true,Bool.and_eq_true,decide_eq_true_eq,decide_eq_true_eq,decide_eq_true_eq]
 constructor
 ·rintro ⟨h1,h2,h3⟩;cases x;cases l;simp_all
 ·rintro rfl;exact⟨rfl,rfl,rfl⟩
theorem zI9 (l:MLit):∀c:Cla,l∈c→idxL l c<c.length
 | [],h=>by cases h
 | x :: r,h=>by
   unfold idxL
   split
   ·simp
   ·rename_i hn
    rcases List.mem_cons.1 h with rfl | h
    ·exact absurd ((zGy l l).2 rfl) hn
    ·have:=zI9 l r h
     rw[List.length_cons];omega
theorem zH6 (vs:List MVar) (cs:List Nat) (pt:List (List Nat)) (c:Cla) (x:MLit) (h:x∈zBF vs cs pt c):x∈c:=zEU _ x _ c h
theorem zH7 (vs:List MVar) (cs:List Nat) (pt:List (List Nat)) (c:Cla):(zBF vs cs pt c).length≤c.length:=zEV _ _ c
theorem zJA (c:Cla) (h:c.length≠0):zF3 c∈c:=by
 unfold zF3
 rw[List.getD_eq_getElem?_getD,List.getElem?_eq_getElem (by omega)]
 exact List.getElem_mem _
end Go.Proofs.YtdjbejlbmaiocafGreatDoor
