/- What the proof leans on, part 9. -/
import Derived.Test.YtndcpnlaadikoaaGreatDoorPartAh
import Derived.Deep.RegionHeld3
import Derived.Shelf.Spec.TrailingZeros
set_option maxRecDepth 100000
set_option maxHeartbeats 1000000
open Go.Proofs.Tryz
namespace Go.Proofs.YtndcpnlaadikoaaGreatDoor
def T4:Cla->Sto->Sto
 | [],s=>s
 | l :: r,s=>T4 r (s.set l.var.toNat (s.getD l.var.toNat []++[l.n]))
def Xk (vs:List MVar) (p:Nat):Sto:=T4 (VE vs p) (List.replicate vs.length [])
def fewF (s:Sto):Nat->List (List Int)->Int->Int
 | _,[],b=>b
 | v,x :: r,b=>fewF s (v+1) r (if 1<x.length/\(b<0∨x.length<(s.getD b.toNat []).length) then (v:Int) else b)
def R_ (s:Sto):Int:=fewF s 0 s (-1)
def Dq (x l:MLit):Bool:=decide (x.var=l.var)&&(decide (x.op=l.op)&&decide (x.n=l.n))
def idxL (l:MLit):Cla->Nat
 | []=>0
 | x :: r=>if Dq l x then 0 else idxL l r+1
structure Sk where
 cs:List Nat
 fuel:Nat
 proof:List MStep
 path:Cla
def zBf (vs:List MVar):List MStep->List MStep->List MStep
 | [],p=>p
 | t :: r,p=>zBf vs r (if (p.map λx=>zAH vs x.cla).contains (zAH vs t.cla) then p else p++[t])
def Jr (c:Cla):MLit:=c.getD (c.length - 1) ey
def Wt (vs:List MVar) (pt:List (List Nat)) (s:Sk):Int×Sk :=
 if s.fuel=0 then (3,s)
 else if 6000<(zBf vs (Hy vs s.cs pt (Rt vs s.cs pt s.path)) s.proof).length then (3,⟨s.cs,s.fuel - 1,zBf vs (Hy vs s.cs pt (Rt vs s.cs pt s.path)) s.proof,s.path⟩)
 else if (Rt vs s.cs pt s.path).length=0 then (2,⟨s.cs,s.fuel - 1,zBf vs (Hy vs s.cs pt (Rt vs s.cs pt s.path)) s.proof,s.path⟩)
 else (0,⟨s.cs++[zAH vs (Rt vs s.cs pt s.path)],s.fuel - 1,zBf vs (Hy vs s.cs pt (Rt vs s.cs pt s.path)) s.proof,s.path.take (idxL (Jr (Rt vs s.cs pt s.path)) s.path)⟩)
def Wh (vs:List MVar) (pt:List (List Nat)) (s:Sk):Nat:=QR vs s.cs pt (zAH vs s.path)
def z_ (st:Sto):MLit:=⟨R_ st,4,(st.getD (R_ st).toNat []).getD 0 0⟩
def Qf (st:Sto) (s:Sk):Sk:=⟨s.cs,s.fuel,s.proof,s.path++[z_ st]⟩
def Hx (vs:List MVar) (pt:List (List Nat)):Nat->Sk->Int×List Int×Sk
 | 0,s=>(0,[],s)
 | n+1,s =>
   if Wh vs pt s=0 then
    (if (Wt vs pt s).1=0 then Hx vs pt n (Wt vs pt s).2 else ((Wt vs pt s).1,[],(Wt vs pt s).2))
   else if R_ (Xk vs (Wh vs pt s))<0 then (1,(Xk vs (Wh vs pt s)).flatten,s)
   else Hx vs pt n (Qf (Xk vs (Wh vs pt s)) s)
def Hw (vs:List MVar) (c:Cla):Nat:=Qg (Zg (zAN vs) (zAH vs c))
def QQ (vs:List MVar) (s:Sk):Nat:=s.fuel * 40+Hw vs s.path
def X3 (vs:List MVar) (pt:List (List Nat)) (s:Sk):Int×List Int×Sk:=Hx vs pt (QQ vs s+1) s
theorem oB:∀(c:Cla) (s:Sto),(T4 c s).length=s.length
 | [],s=>rfl
 | l :: r,s=>by unfold T4;rw[oB r];simp
theorem vW (vs:List MVar) (p:Nat):(Xk vs p).length=vs.length:=by unfold Xk;rw[oB];simp
theorem oA (v:Nat):∀(c:Cla) (s:Sto),v<s.length->(T4 c s).getD v []=s.getD v []++(c.filter λl=>l.var.toNat==v).map (·.n)
 | [],s,_=>by simp[T4]
 | l :: r,s,h=>by
   unfold T4;rw[oA v r _ (by simpa using h)]
   by_cases he:l.var.toNat=v
   ·subst he
    rw[Qt];simp[h]
   rw[Qt];simp[he]
theorem oz (vs:List MVar) (p v:Nat) (h:v<vs.length):(Xk vs p).getD v []=((Sb p).filter λi=>i / 6==v).map λi=>(ZF vs v).lo+((i % 6:Nat):Int):=by
 unfold Xk;rw[oA v _ _ (by simpa using h)]
 unfold VE;rw[List.filter_map,List.map_map];have:(List.replicate vs.length ([]:List Int)).getD v []=[]:=by simp[h]
 rw[this,O2];have e:((λl:MLit=>l.var.toNat==v) ∘ λi:Nat=>(⟨((i / 6:Nat):Int),3,(ZF vs (i / 6)).lo+((i % 6:Nat):Int)⟩:MLit))=λi:Nat=>i / 6==v:=by
  funext i
  show ((((i / 6:Nat):Int)).toNat==v)=_;rw[YK]
 rw[e];apply Nz;intro i hi;have:=(WC.1 hi).2;have:i / 6=v:=by simpa using this
 simp[this]
theorem bZ (p:Nat):(Sb p).Nodup:=by
 unfold Sb;exact List.Pairwise.filter _ List.nodup_range
theorem bY (vs:List MVar) (p v:Nat) (h:v<vs.length):((Xk vs p).getD v []).Nodup:=by
 rw[oz vs p v h];have hn:=List.Pairwise.filter (λi=>i / 6==v) (bZ p)
 refine List.Pairwise.map _ (λa b V2=>?_) (List.Pairwise.imp_of_mem ?_ hn (S:=λa b:Nat=>a≠b/\a / 6=v/\b / 6=v))
 ·intro he
  have:a % 6=b % 6:=by omega
  have:=V2;omega
 intro a b ha hb V2;exact⟨V2,by simpa using (WC.1 ha).2,by simpa using (WC.1 hb).2⟩
theorem vV (vs:List MVar) (p v:Nat) (h:v<vs.length) (x:Int):x∈(Xk vs p).getD v []↔∃i,i<36/\p.testBit i=true/\i / 6=v/\x=(ZF vs v).lo+((i % 6:Nat):Int):=by
 rw[oz vs p v h,Zj]
 constructor
 ·rintro ⟨i,hi,rfl⟩
  obtain⟨h1,h2⟩:=WC.1 hi;unfold Sb at h1;obtain⟨h3,h4⟩:=WC.1 h1;exact⟨i,W6.1 h3,h4,by simpa using h2,rfl⟩
 rintro ⟨i,h1,h2,h3,rfl⟩;exact⟨i,WC.2 ⟨(cw p i h1).2 h2,by simpa using h3⟩,rfl⟩
theorem z' (s:Sto):∀(r:List (List Int)) (v:Nat) (b:Int),v+r.length=s.length->(∀k,r[k]? = s[v+k]?)->(b<0∨(0<=b/\b<(s.length:Int)/\1<(s.getD b.toNat []).length)) ->
 (fewF s v r b<0->b<0/\∀x∈r,x.length<=1)/\(¬fewF s v r b<0->fewF s v r b<(s.length:Int)/\1<(s.getD (fewF s v r b).toNat []).length)
 | [],v,b,hl,hr,hb=>by
   unfold fewF;refine⟨λh=>⟨h,λx hx=>by cases hx⟩,λh=>?_⟩
   rcases hb with hb | hb
   ·exact absurd hb h
   exact⟨hb.2.1,hb.2.2⟩
 | x :: r,v,b,hl,hr,hb=>by
   unfold fewF;have hx:s[v]? = some x:=by have:=hr 0;simpa using this.symm
   have hg:s.getD v []=x:=by rw[ZO,hx];rfl
   have vU:v+1+r.length=s.length:=by rw[Xe] at hl;omega
   have PD:∀k,r[k]? = s[v+1+k]? := λk=>by
    have:=hr (k+1);rw[List.getElem?_cons_succ] at this;rw[this];congr 1;omega
   by_cases hc:1<x.length/\(b<0∨x.length<(s.getD b.toNat []).length)
   ·rw[if_pos hc]
    obtain⟨h1,h2⟩:=z' s r (v+1) (v:Int) vU PD (Or.inr ⟨by omega,by rw[Xe] at hl;omega,by rw[YK,hg];exact hc.1⟩)
    refine⟨λh=>?_,h2⟩
    have:=(h1 h).1;omega
   rw[if_neg hc];obtain⟨h1,h2⟩:=z' s r (v+1) b vU PD hb;refine⟨λh=>?_,h2⟩
   obtain⟨h3,h4⟩:=h1 h;refine⟨h3,λy hy=>?_⟩
   rcases YJ.1 hy with rfl | hy
   ·apply Xz
    intro hn;exact hc ⟨by omega,Or.inl h3⟩
   exact h4 y hy
theorem bX (s:Sto) (h:R_ s<0):∀x∈s,x.length<=1 :=
 ((z' s s 0 (-1) (by omega) (λk=>by rw[Zn]) (Or.inl (by omega))).1 h).2
theorem oy (s:Sto) (h:¬R_ s<0):R_ s<(s.length:Int)/\1<(s.getD (R_ s).toNat []).length :=
 (z' s s 0 (-1) (by omega) (λk=>by rw[Zn]) (Or.inl (by omega))).2 h
theorem ow (vs:List MVar) (hv:XU vs) (a b:Cla) (i:Nat):(zAH vs (a++b)).testBit i=((zAH vs a).testBit i || (zAH vs b).testBit i):=by
 unfold zAH ofP;rw[OS vs hv,OS vs hv,OS vs hv];unfold oneB;rw[RL];cases decide (i / 6<vs.length) <;> cases decide (i % 6<WN (ZF vs (i / 6))) <;> simp
theorem ou (vs:List MVar) (cs:List Nat) (pt:List (List Nat)) (i:Nat):∀(f l:Nat),l<2 ^ 36->(S7 vs cs pt f l).testBit i=true->l.testBit i=true
 | 0,l,_,h=>h
 | f+1,l,hl,h=>by
   unfold S7 at h
   split at h
   ·exact h
   have h1:=Dr vs cs pt l hl;have h2:=ou vs cs pt i f _ (by omega) h
   have h3:=Du vs cs l;refine Ab vs cs l i ?_;have:∀(pt:List (List Nat)) (q:Nat),q<2 ^ 36->(Xl pt q).testBit i=true->q.testBit i=true:=by
    intro pt
    induction pt with
    | nil=>intro q _ h;exact h
    | cons pts r ih =>
      intro q hq h;unfold Xl at h
      split at h
      ·exact h
      have:=Dt pts q hq;exact wh pts q i hq (ih _ (by omega) h)
   exact this pt _ (by omega) h2
theorem z8 (vs:List MVar) (hv:XU vs) (cs:List Nat) (pt:List (List Nat)) (h i:Nat) (hi:(QR vs cs pt h).testBit i=true):(zAN vs).testBit i=true/\h.testBit i=false:=by
 unfold QR at hi
 split at hi
 ·simp at hi
 have:=ou vs cs pt i _ _ (Pz 36 _ _ (Ju vs hv)) hi;rw[TJ,ZB,SQ] at this;exact this
theorem bV (vs:List MVar) (hv:XU vs) (cs:List Nat) (pt:List (List Nat)) (h:Nat):QR vs cs pt h<2 ^ 36:=by
 refine UW (SP λi hi=>(z8 vs hv cs pt h i hi).1) (Ju vs hv)
theorem ot (vs:List MVar) (hv:XU vs) (pt:List (List Nat)) (s:Sk) (h:¬R_ (Xk vs (Wh vs pt s))<0):Hw vs (Qf (Xk vs (Wh vs pt s)) s).path+1<=Hw vs s.path:=by
 obtain⟨h1,h2⟩:=oy _ h;obtain⟨f,hf⟩:∃f,R_ (Xk vs (Wh vs pt s))=f:=⟨_,rfl⟩;unfold Qf z_;rw[hf] at h h1 h2 ⊢;rw[vW] at h1;obtain⟨v,rfl⟩:∃v:Nat,f=(v:Int):=⟨f.toNat,by omega⟩
 rw[YK] at h2 ⊢;have X8:v<vs.length:=by omega
 have PL:=bY vs (Wh vs pt s) v X8;obtain⟨x,y,t,ht⟩:∃x y t,(Xk vs (Wh vs pt s)).getD v []=x :: y :: t:=by
  match hr:(Xk vs (Wh vs pt s)).getD v [] with
  | []=>rw[hr] at h2;simp at h2
  | [x]=>rw[hr] at h2;simp at h2
  | x :: y :: t=>exact⟨x,y,t,rfl⟩
 have hy:y∈(Xk vs (Wh vs pt s)).getD v []:=by rw[ht];simp
 have Rs:x≠y:=by rw[ht] at PL;simp at PL;exact PL.1.1
 obtain⟨i,Hv,bU,bT,rfl⟩:=(vV vs _ v X8 y).1 hy;rw[ht];obtain⟨hw,hn⟩:=z8 vs hv _ _ _ i bU;unfold Hw;refine oD _ _ (Pz 36 _ _ (Ju vs hv)) (λk hk=>?_) (λhe=>?_)
 ·rw[TJ,ZB,SQ,ow vs hv,O5] at hk
  rw[TJ,hk.1,hk.2.1];rfl
 have h3:=congrArg (λz=>Nat.testBit z i) he
 simp only[TJ,ow vs hv,hw,hn] at h3;have h4:(zAH vs [(⟨(v:Int),4,x⟩:MLit)]).testBit i=true:=by
  unfold zAN ofP at hw;rw[OS vs hv] at hw;simp only[ZB,decide_eq_true_eq] at hw;unfold zAH ofP;rw[OS vs hv];simp only[ZB,decide_eq_true_eq];refine⟨hw.1,hw.2.1,?_⟩;unfold oneB;simp only[Qr,List.any_nil,O1,ZB,decide_eq_true_eq,bT,true_and];unfold litV;simpa using λh=>Rs h.symm
 simp[h4] at h3
theorem oq (vs:List MVar) (pt:List (List Nat)) (s:Sk) (h:(Wt vs pt s).1=0):(Wt vs pt s).2.fuel+1=s.fuel:=by
 unfold Wt at h ⊢
 split
 ·rename_i hc;rw[if_pos hc] at h;cases h
 rename_i h0
 rw[if_neg h0] at h
 split
 ·rename_i hc;rw[if_pos hc] at h;cases h
 rename_i h1
 rw[if_neg h1] at h
 split
 ·rename_i hc;rw[if_pos hc] at h;cases h
 show s.fuel - 1+1=s.fuel;omega
theorem Dp (vs:List MVar) (pt:List (List Nat)) (s:Sk) (h:(Wt vs pt s).1=0):QQ vs (Wt vs pt s).2<QQ vs s:=by
 have h1:=oq vs pt s h;have h2:Hw vs (Wt vs pt s).2.path<=36:=vZ _;unfold QQ;omega
theorem Do (vs:List MVar) (hv:XU vs) (pt:List (List Nat)) (s:Sk) (h:¬R_ (Xk vs (Wh vs pt s))<0):QQ vs (Qf (Xk vs (Wh vs pt s)) s)<QQ vs s:=by
 have:=ot vs hv pt s h;unfold QQ;show s.fuel * 40+_<_;omega
theorem zZ (vs:List MVar) (hv:XU vs) (pt:List (List Nat)):∀(f g:Nat) (s:Sk),QQ vs s<f->QQ vs s<g->Hx vs pt f s=Hx vs pt g s
 | 0,g,s,hf,hg=>by omega
 | f+1,0,s,hf,hg=>by omega
 | f+1,g+1,s,hf,hg=>by
   unfold Hx
   split
   ·split
    ·rename_i h
     have:=Dp vs pt s h;exact zZ vs hv pt f g _ (by omega) (by omega)
    rfl
   split
   ·rfl
   rename_i h
   have:=Do vs hv pt s h;exact zZ vs hv pt f g _ (by omega) (by omega)
theorem vT (vs:List MVar) (hv:XU vs) (pt:List (List Nat)) (s:Sk):X3 vs pt s =
 if Wh vs pt s=0 then (if (Wt vs pt s).1=0 then X3 vs pt (Wt vs pt s).2 else ((Wt vs pt s).1,[],(Wt vs pt s).2))
 else if R_ (Xk vs (Wh vs pt s))<0 then (1,(Xk vs (Wh vs pt s)).flatten,s)
 else X3 vs pt (Qf (Xk vs (Wh vs pt s)) s):=by
 conv=>lhs;unfold X3 Hx
 split
 ·split
  ·rename_i h
   have:=Dp vs pt s h;exact zZ vs hv pt _ _ _ (by omega) (by omega)
  rfl
 split
 ·rfl
 rename_i h
 have:=Do vs hv pt s h;exact zZ vs hv pt _ _ _ (by omega) (by omega)
def zJD (vs:List MVar) (c:Cla):Prop:=∀k,k<=c.length->k+Hw vs (c.take k)<=36
theorem bS (vs:List MVar):zJD vs []:=λk hk=>by
 have:k=0:=by simpa using hk
 subst this;have:=vZ (Zg (zAN vs) (zAH vs ([].take 0)));unfold Hw;omega
theorem bR (vs:List MVar) (c:Cla) (h:zJD vs c):c.length<=36:=by
 have:=h c.length (Z2 _);omega
theorem bQ (vs:List MVar) (c:Cla) (h:zJD vs c) (n:Nat):zJD vs (c.take n):=λk hk=>by
 rw[X_] at hk;rw[List.take_take,Nat.min_eq_left (by omega)]
 exact h k (by omega)
theorem bP (vs:List MVar) (hv:XU vs) (pt:List (List Nat)) (s:Sk) (hp:zJD vs s.path) (h:¬R_ (Xk vs (Wh vs pt s))<0):zJD vs (Qf (Xk vs (Wh vs pt s)) s).path:=λk hk=>by
 have h1:=ot vs hv pt s h;unfold Qf at *;simp only at *;rw[ZC,V6] at hk;by_cases he:k<=s.path.length
 ·rw[List.take_append_of_le_length he]
  exact hp k he
 have:k=s.path.length+1:=by omega
 subst this;rw[Zi (by simp)]
 have:=hp s.path.length (Z2 _);rw[Qv] at this;omega
theorem vS (x l:MLit):Dq x l=true↔x=l:=by
 unfold Dq;rw[ZB,ZB,decide_eq_true_eq,decide_eq_true_eq,decide_eq_true_eq]
 constructor
 ·rintro ⟨h1,h2,h3⟩;cases x;cases l;simp_all
 rintro rfl;exact⟨rfl,rfl,rfl⟩
theorem vQ (l:MLit):∀c:Cla,l∈c->idxL l c<c.length
 | [],h=>by cases h
 | x :: r,h=>by
   unfold idxL
   split
   ·simp
   rename_i hn
   rcases YJ.1 h with rfl | h
   ·exact absurd ((vS l l).2 rfl) hn
   have:=vQ l r h;rw[Xe];omega
theorem bO (vs:List MVar) (cs:List Nat) (pt:List (List Nat)) (c:Cla) (x:MLit) (h:x∈Rt vs cs pt c):x∈c:=vY _ x _ c h
theorem bN (vs:List MVar) (cs:List Nat) (pt:List (List Nat)) (c:Cla):(Rt vs cs pt c).length<=c.length:=vX _ _ c
theorem bM (c:Cla) (h:c.length≠0):Jr c∈c:=by
 unfold Jr;rw[ZO,ZA (by omega)]
 exact Qs _
open Go.RowKit
theorem bL (l:MLit) (x z:Int) (b1 b2:Nat) (w:World) (h1:w.cell? ⟨b1,0,none⟩=some (.int .i64 x)) (h2:w.cell? ⟨b2,0,none⟩=some (.int .i64 z)) :
 Calls prog 230 #[.agg #[.int .i64 l.var,.int .i64 l.op,.int .i64 l.n],.pointer (some ⟨b1,0,none⟩),.pointer (some ⟨b2,0,none⟩)] w λe w'=>e=.returned (.bool (decide (l.var=x)&&litV z l))/\Bw w w':=by
 have l1:b1<w.heap.size:=World.block_lt_of_cell? w _ h1;have l2:b2<w.heap.size:=World.block_lt_of_cell? w _ h2;by_cases hq:l.var=x
 ·have g0:(l.var==x)=true:=by simpa using hq
  have HN:Hid ((decide (l.var=x)&&litV z l)=litV z l):=by show _=_;rw[decide_eq_true hq];rfl
  rw[HN.o];clear hq;go_enter func230,ntmps230
  go_wp2_with fail
  refine (wU l z _).mono ?_;rintro e w1 ⟨rfl,Z5⟩;have ZY:Bw w w1:=(Z4 _ _).trans (Z5.mono (by simp))
  clear Z5;go_wp2
  go_ret
  exact⟨rfl,ZY⟩
 have g0:(l.var==x)=false:=by simpa using hq
 have HN:Hid ((decide (l.var=x)&&litV z l)=false):=by show _=_;rw[decide_eq_false hq];rfl
 rw[HN.o];clear hq;go_enter func230,ntmps230
 go_wp2
 go_ret
 exact⟨rfl,Z4 _ _⟩
theorem bK (args:Array Value) (w':World):Sem.run prog (callFunc 230 args) w'=.ok (.enter 230 args) w':=by
 simp[callFunc,go_sem,func230,Tryz.f230]
theorem bJ (c:Cla) (k:Nat) (z:Int) (u:Value) (w:World) (hu:LArg w u c) :
 Calls prog 145 #[u,.int .i64 k,.int .i64 z] w λe w'=>e=.returned (.bool (oneB c k z))/\Bw w w':=by
 have wQ:Hid (∀w':World,Bw w w'->LArg w' u c):=λw' h=>LArg.below h hu
 obtain⟨a1,c1,rfl,_,_⟩:=hu;go_enter func145,ntmps145
 go_wp2_with fail
 refine (pc 230 _ (λl=>decide (l.var=(k:Int))&&litV z l) c _ _ (wQ.o _ ((Z4 _ _).alloc (by simp) _)) ⟨bK,?_⟩).mono ?_
 ·intro l w' hl XI
  refine bL l k z w.heap.size (w.heap.size+1) w' ?_ ?_
  ·exact (XI.cell (by simp;omega)).trans ((W7 _ _ _ (by simp)).trans (Zu _ _ _ 0 (by simp)))
  exact (XI.cell (by simp)).trans (Zu _ _ _ 0 (by simp))
 rintro e w3 ⟨rfl,ZG⟩;have Zd:Bw w w3:=((Z4 _ _).alloc (by simp) _).trans (ZG.mono (by simp;omega))
 clear ZG;go_wp2
 go_ret
 exact⟨rfl,Zd⟩
theorem E1 {vs:List MVar} {v:Nat} (h:v<vs.length):vs[v]? = some (ZF vs v):=by
 unfold ZF;rw[ZO,ZA h];rfl
theorem bI (c:Int) (k:Nat) (h:c=(k:Int)) (hk:k<64):IntKind.u64.wrap (2 ^ c.toNat)=((2 ^ k:Nat):Int):=by
 rw[IntKind.wrap_u64,h,YK];have h1:(2:Nat) ^ k<2 ^ 64:=Nat.pow_lt_pow_right (by omega) hk
 have e:((2:Int) ^ k)=((2 ^ k:Nat):Int):=by simp
 rw[e];exact Int.emod_eq_of_lt (Int.natCast_nonneg _) (Int.ofNat_lt.2 h1)
theorem om (vs:List MVar) (Rr:XU vs) (v:Nat) (x:Int) (sv:Value) (w:World) (hv:VArg w sv vs) (hl:v<vs.length) (h1:(ZF vs v).lo<=x) (h2:x<=(ZF vs v).hi) (h3:-50<=(ZF vs v).lo/\(ZF vs v).hi<=50) :
 Calls prog 197 #[sv,.int .i64 v,.int .i64 x] w λe w'=>e=.returned (.int .u64 ((2 ^ (6 * v+(x - (ZF vs v).lo).toNat):Nat):Int))/\w'=w:=by
 obtain⟨a,c,rfl,hm,hr⟩:=hv;obtain⟨_,b,off,rfl,hb,c0,c1,c2⟩:=hr v _ (E1 hl);unfold maxLen at hm;obtain⟨Y0,hm⟩:=hm;have h6:=Rr.1;have hs:=Rr.2 v;unfold WN at hs;obtain⟨lo,YM⟩:∃lo,(ZF vs v).lo=lo:=⟨_,rfl⟩;rw[YM] at h1 h3 hs c1 ⊢;have HK:Hid (IntKind.u64.wrap (2 ^ ((v:Int) * 6+x - lo).toNat)=((2 ^ (6 * v+(x - lo).toNat):Nat):Int)):=bI _ _ (by omega) (by omega)
 have vP:(0:Int)<=(v:Int) * 6+x - lo:=by omega
 have Pu:(v:Int) * 6+x - lo<=64:=by omega
 clear hr hs YM;go_enter func197,ntmps197
 go_wp2
 go_ret
 exact⟨Zm HK.o,rfl⟩
def bH (F:Nat) (caps:Array Value) (vs:List MVar) (p:Nat->Int->Bool) (w:World):Prop :=
 (∀(args:Array Value) (w':World),Sem.run prog (callFunc F args) w'=.ok (.enter F args) w') /\
 ∀(k:Nat) (z:Int) (w':World),k<vs.length->(ZF vs k).lo<=z->z<=(ZF vs k).hi->Bw w w'->Calls prog F (#[.int .i64 k,.int .i64 z]++caps) w' λe w''=>e=.returned (.bool (p k z))/\Bw w' w''
def Vb (vs:List MVar):Prop:=XU vs/\∀v:Nat,v<vs.length->-50<=(ZF vs v).lo/\(ZF vs v).hi<=50/\(ZF vs v).lo<=(ZF vs v).hi
theorem LZ (m:Mod) (hm:Zs m=0):Vb m.vars:=⟨Py m hm,λv hv=>by
 have:=Il m hm v _ (E1 hv);omega⟩
theorem Dn {a b:Nat} (ha:a<2 ^ 36) (hb:b<2 ^ 36):a ||| b<2 ^ 36:=Nat.or_lt_two_pow ha hb
theorem vO (vs:List MVar) (hv:Vb vs) (v k:Nat) (h:v<vs.length) (hk:k<WN (ZF vs v)):2 ^ (6 * v+k)<2 ^ 36:=by
 have h1:=hv.1.1;have h2:=hv.1.2 v;exact Nat.pow_lt_pow_right (by omega) (by omega)
theorem bG (vs:List MVar) (hv:Vb vs) (f:Int->Bool) (v k:Nat) (h:v<vs.length) (hk:k<=WN (ZF vs v)):rowP f (6 * v) (ZF vs v).lo k<2 ^ 36:=by
 have h1:=hv.1.1;have h2:=hv.1.2 v;apply Iv;intro i hi;rw[E4];have:¬(i<6 * v+k):=by omega
 simp[this]
theorem bF (f:Int->Bool) (b:Nat) (lo:Int) (k:Nat) (h:f (lo+(k:Int))=false):rowP f b lo (k+1)=rowP f b lo k:=by
 show (if f (lo+(k:Int)) then _ else _)=_
 rw[h];rfl
theorem bE (f:Int->Bool) (b:Nat) (lo:Int) (k:Nat) (h:f (lo+(k:Int))=true):rowP f b lo (k+1)=rowP f b lo k ||| 2 ^ (b+k):=by
 show (if f (lo+(k:Int)) then _ else _)=_
 rw[h];rfl
theorem oj (F:Nat) (caps:Array Value) (vs:List MVar) (p:Nat->Int->Bool) (Zf:Vb vs) (sv:Value) (w:World) (hv:VArg w sv vs) (hF:bH F caps vs p w) :
 Calls prog 143 #[sv,.func (.func F) #[] caps] w λe w'=>e=.returned (.int .u64 ((ofP vs p:Nat):Int))/\Bw w w':=by
 have Ww:Hid (∀w':World,Bw w w'->VArg w' sv vs):=λw' h=>VArg.below h hv
 obtain⟨a,c,rfl,hm,hr⟩:=hv;have HV:=hI hr
 have HF:=hI hF;have YQ:=hI Zf;have h6:=Zf.1.1;unfold maxLen at hm;obtain⟨Y0,hm⟩:=hm;clear hr hF Zf;go_enter func143,ntmps143
 go_wp2_with fail
 go_loopw [5,11] (λo i wr=>∃k:Nat,k<=vs.length/\i=.int .i64 k/\o=.int .u64 ((ofN vs p k:Nat):Int)/\Bw w wr) (λ_ i _=>vs.length - (intOf i).toNat)
 case atStart=>exact⟨0,by omega,rfl,rfl,Z6 _ _⟩
 obtain⟨k,hk,rfl,rfl,Z3⟩:=hrel;have ZW:=hI Z3;clear Z3;by_cases Z7:k<vs.length
 ·obtain⟨Tq,b,off,ha,hb,q0,q1,q2⟩:=HV.o k _ (E1 Z7)
  subst ha;have Ug:=YQ.o.2 k Z7;have Y':=YQ.o.1.2 k;have XF:Hid (WN (ZF vs k)=((ZF vs k).hi+1 - (ZF vs k).lo).toNat):=rfl;obtain⟨n,hn⟩:∃n,WN (ZF vs k)=n:=⟨_,rfl⟩;have HN:=hI hn;have Nh:(n:Int)=(ZF vs k).hi+1 - (ZF vs k).lo:=by
   have:=XF.o;omega
  have vN:n<=6:=by omega
  have XN:=(ZW.o.cell (p:=⟨b,off+k * 3,none⟩) hb).trans q0;have X':=(ZW.o.cell (p:=⟨b,off+k * 3+1,none⟩) hb).trans q1;have Yb:=(ZW.o.cell (p:=⟨b,off+k * 3+2,none⟩) hb).trans q2;obtain⟨lo,YM⟩:∃lo,(ZF vs k).lo=lo:=⟨_,rfl⟩;obtain⟨hi,Wc⟩:∃hi,(ZF vs k).hi=hi:=⟨_,rfl⟩;have WP:=hI YM;have OZ:=hI Wc;rw[YM] at X' Ug Nh;rw[Wc] at Yb Ug Nh;obtain⟨nm,Dm⟩:∃nm,(ZF vs k).name=nm:=⟨_,rfl⟩;rw[Dm] at XN;have HO:Hid (ofN vs p (k+1)=ofN vs p k ||| rowP (p k) (6 * k) lo n):=by show _=_;rw[<-YM,<-hn];rfl
  have Rq:Hid (ofN vs p k<2 ^ 36):=oS vs YQ.o.1 p k (by omega)
  have WM:Hid (∀j,j<=n->rowP (p k) (6 * k) lo j<2 ^ 36):=λj hj=>by rw[<-YM];exact bG vs YQ.o (p k) k j Z7 (by omega)
  have Hu:Hid (∀j,j<n->2 ^ (6 * k+j)<2 ^ 36):=λj hj=>vO vs YQ.o k j Z7 (by omega)
  clear q0 q1 q2 Y' hn YM Wc Tq Dm XF;have Qn:=ZW.o.size;obtain⟨B,hB⟩:∃B,wr.heap.size=B:=⟨_,rfl⟩;obtain⟨o0,Rp⟩:∃o0,ofN vs p k=o0:=⟨_,rfl⟩;have LY:=hI Rp;rw[Rp] at HO Rq ⊢;clear Rp;have vM:=hI YQ.o.1;have bD:(ZF vs k).lo=lo:=WP.o;have KT:Hid (∀(j:Nat) (w':World),j<n->Bw w w'->Calls prog 197 #[.slice (some ⟨b,off,none⟩) vs.length c,.int .i64 k,.int .i64 (lo+(j:Int))] w' λe w''=>e=.returned (.int .u64 ((2 ^ (6 * k+j):Nat):Int))/\w''=w'):=by
   intro j w' hj XI;have h1:=om vs vM.o k (lo+(j:Int)) _ w' (Ww.o w' XI) Z7 (by rw[WP.o];omega) (by rw[OZ.o];omega) (by rw[WP.o,OZ.o];omega)
   rw[WP.o,show (lo+(j:Int) - lo).toNat=j by omega] at h1
   exact h1
  have vL:Hid (∀(j:Nat) (w':World),j<n->Bw w w'->Calls prog F (#[.int .i64 k,.int .i64 (lo+(j:Int))]++caps) w' λe w''=>e=.returned (.bool (p k (lo+(j:Int))))/\Bw w' w''):=by
   intro j w' hj XI;exact HF.o.2 k _ w' Z7 (by rw[WP.o];omega) (by rw[OZ.o];omega) XI
  clear bD;go_wp2_with fail
  have HB:=hI hB;have Zt:Hid (Bw w (wr.alloc (.cells #[.string nm,.int .i64 lo,.int .i64 hi] 67))):=ZW.o.alloc Qn _;have Sh:Hid ((wr.alloc (.cells #[.string nm,.int .i64 lo,.int .i64 hi] 67)).cell? ⟨B,2,none⟩=some (.int .i64 hi)):=by show _=_;rw[<-hB];exact Zu _ _ _ 2 (by simp)
  have HW:Hid (w.heap.size<=B):=by rw[<-hB];exact Qn
  obtain⟨W1,Pt⟩:∃W1,wr.alloc (.cells #[.string nm,.int .i64 lo,.int .i64 hi] 67)=W1:=⟨_,rfl⟩;rw[Pt] at Zt Sh ⊢;have oi:Hid (W1.heap.size=B+1):=by show _=_;rw[<-Pt,<-hB];simp
  clear XN X' Yb hB Pt Qn;go_loopw [5,8] (λo i wr=>∃j:Nat,j<=n/\i=.int .i64 (lo+(j:Int))/\o=.int .u64 ((o0 ||| rowP (p k) (6 * k) lo j:Nat):Int)/\Bw W1 wr) (λ_ i _=>(hi+1 - intOf i).toNat)
  case atStart=>exact⟨0,by omega,by simp,by simp[rowP],Z6 _ _⟩
  obtain⟨j,hj,rfl,rfl,Qe⟩:=hrel;have Dl:=(Qe.cell (p:=⟨B,2,none⟩) (by rw[oi.o];simp)).trans Sh.o
  have Y7:Hid (Bw w wr):=Zt.o.trans (Qe.mono (by rw[oi.o];have:=HW.o;omega))
  have Ro:=hI Qe;clear Qe;by_cases T3:j<n
  ·have V4:lo+(j:Int)<=hi:=by omega
   have Ps:=vL.o j wr T3 Y7.o;cases hq:p k (lo+(j:Int))
   ·have XA:Hid (rowP (p k) (6 * k) lo (j+1)=rowP (p k) (6 * k) lo j):=bF _ _ _ _ hq
    obtain⟨q,Na⟩:∃q,o0 ||| rowP (p k) (6 * k) lo j=q:=⟨_,rfl⟩
    have HQ:=hI Na
    rw[Na];have Ht:Hid (Calls prog F (#[.int .i64 k,.int .i64 (lo+(j:Int))]++caps) wr λe w''=>e=.returned (.bool false)/\Bw wr w''):=by rw[<-hq];exact Ps
    clear Na Ps hq;go_wp2_with fail
    rw[HF.o.1,Oper.upon_enter];refine Ht.o.mono ?_;rintro e w1 ⟨rfl,Z5⟩;have ZM:=hI (Ro.o.trans (Z5.mono Ro.o.size));clear Z5 Dl;go_wp2
    go_roundw
    case rel=>exact⟨j+1,by omega,by go_num,by rw[XA.o,HQ.o],ZM.o⟩
    case measure=>simp[intOf];omega
   have XA:Hid (rowP (p k) (6 * k) lo (j+1)=rowP (p k) (6 * k) lo j ||| 2 ^ (6 * k+j)):=bE _ _ _ _ hq
   obtain⟨q,Na⟩:∃q,o0 ||| rowP (p k) (6 * k) lo j=q:=⟨_,rfl⟩
   have VD:q<2 ^ 36:=by rw[<-Na];exact Dn Rq.o (WM.o j hj)
   have UO:=Hu.o j T3;have HQ:Hid (o0 ||| rowP (p k) (6 * k) lo (j+1)=q ||| 2 ^ (6 * k+j)):=by show _=_;rw[XA.o,<-Na,Nat.or_assoc]
   rw[Na];have Ht:Hid (Calls prog F (#[.int .i64 k,.int .i64 (lo+(j:Int))]++caps) wr λe w''=>e=.returned (.bool true)/\Bw wr w''):=by rw[<-hq];exact Ps
   have N8:=KT;obtain⟨t,ht⟩:∃t,2 ^ (6 * k+j)=t:=⟨_,rfl⟩;have HT:=hI ht;rw[ht] at HQ UO;have Jq:=bits_or_u64_nat q t (by omega) (by omega)
   clear Na Ps hq ht VD UO;go_wp2_with fail
   rw[HF.o.1,Oper.upon_enter];refine Ht.o.mono ?_;rintro e w1 ⟨rfl,Z5⟩;have ZM:=hI (Ro.o.trans (Z5.mono Ro.o.size));have vK:=hI (Y7.o.trans (Z5.mono Y7.o.size));clear Z5 Dl;go_wp2_with fail
   refine (KT.o j w1 T3 vK.o).mono ?_;rintro e w2 ⟨rfl,rfl⟩;rw[HT.o];go_wp2
   go_roundw
   case rel=>exact⟨j+1,by omega,by go_num,by rw[HQ.o],ZM.o⟩
   case measure=>simp[intOf];omega
  have V4:¬(lo+(j:Int)<=hi):=by omega
  have vJ:j=n:=by omega
  have XA:Hid (o0 ||| rowP (p k) (6 * k) lo j=ofN vs p (k+1)):=by show _=_;rw[HO.o,vJ]
  clear vJ;obtain⟨q,Na⟩:∃q,o0 ||| rowP (p k) (6 * k) lo j=q:=⟨_,rfl⟩
  rw[Na] at XA ⊢;clear Na;go_wp2
  go_roundw
  case rel=>exact⟨k+1,by omega,by go_num,by rw[XA.o],Y7.o⟩
  case measure=>simp[intOf];omega
 have Xa:k=vs.length:=by omega
 subst Xa;go_wp2
 go_ret
 exact⟨rfl,ZW.o⟩
theorem bC (p k:Nat) (hp:p<2 ^ 36):bits .and .u64 ((p:Int) / 2 ^ (k * 6)) 63=((p / 2 ^ (k * 6) &&& 63:Nat):Int):=by
 have e2:(p:Int) / 2 ^ (k * 6)=((p / 2 ^ (k * 6):Nat):Int):=by simp
 rw[e2];have h1:p / 2 ^ (k * 6)<=p:=Nat.div_le_self _ _;exact bits_and_u64_nat _ 63 (by omega) (by omega)
theorem oh (n p k:Nat) (h:k<n) (h0:p / 2 ^ (k * 6) &&& 63=0):Wu n p=true:=by
 unfold Wu;exact Yh.2 ⟨k,W6.2 h,by simp[h0]⟩
theorem bB (n p:Nat) (h:∀k,k<n->p / 2 ^ (k * 6) &&& 63≠0):Wu n p=false:=by
 cases hl:Wu n p
 ·rfl
 unfold Wu at hl;obtain⟨v,hv,hb⟩:=Yh.1 hl;exact absurd (by simpa using hb) (h v (W6.1 hv))
theorem og (vs:List MVar) (hn:vs.length<=6) (p:Nat) (hp:p<2 ^ 36) (sv:Value) (w:World) (hv:VArg w sv vs) :
 Calls prog 194 #[sv,.int .u64 p] w λe w'=>e=.returned (.bool (Wu vs.length p))/\w'=w:=by
 obtain⟨a,c,rfl,hm,_⟩:=hv;unfold maxLen at hm;obtain⟨Y0,hm⟩:=hm;obtain⟨R,hR⟩:∃R,Wu vs.length p=R:=⟨_,rfl⟩;rw[hR];have HR:=hI hR;clear hR;have HP:=hI hp;clear hp;go_enter func194,ntmps194
 go_wp2_with fail
 go_loopw [8] (λi wr=>∃k:Nat,k<=vs.length/\i=.int .i64 k/\Hid (∀j,j<k->p / 2 ^ (j * 6) &&& 63≠0)/\wr=w) (λi _=>vs.length - (intOf i).toNat)
 case atStart=>exact⟨0,by omega,rfl,λj h=>by omega,rfl⟩
 obtain⟨k,hk,rfl,hall,rfl⟩:=hrel;by_cases Z7:k<vs.length
 ·obtain⟨q,hq⟩:∃q,p / 2 ^ (k * 6) &&& 63=q:=⟨_,rfl⟩
  have hb:=bC p k HP.o;rw[hq] at hb;have HQ:=hI hq;clear hq;have h2:(0:Int)<=(k:Int) * 6:=by omega
  by_cases h0:q=0
  ·have HN:Hid (R=true):=by show _=_;rw[<-HR.o];exact oh _ _ k Z7 (by rw[HQ.o];exact h0)
   subst h0;go_wp2
   go_ret
   exact⟨ZD HN.o.symm,rfl⟩
  have HN:Hid (∀j,j<k+1->p / 2 ^ (j * 6) &&& 63≠0):=λj hj=>by
   by_cases T1:j=k
   ·subst T1;rw[HQ.o];exact h0
   exact hall.o j (by omega)
  have E0:((q:Int)==0)=false:=by simpa using h0
  clear hall;go_wp2
  go_roundw
  case rel=>exact⟨k+1,by omega,by go_num,HN,trivial⟩
  case measure=>simp[intOf];omega
 have Xa:k=vs.length:=by omega
 have HN:Hid (R=false):=by show _=_;rw[<-HR.o];exact bB _ _ (by rw[<-Xa];exact hall.o)
 clear hall Xa;go_wp2
 go_ret
 exact⟨ZD HN.o.symm,rfl⟩
theorem vI {α:Type} (p:α->Bool) (l:List α) (m:Nat) (t:α) (ht:l[m]? = some t) (h:p t=true):l.any p=true:=Yh.2 ⟨t,Zz ht,h⟩
theorem vH {α:Type} (p:α->Bool) (l:List α) (m:Nat) (t:α) (ht:l[m]? = some t) (h0:(l.take m).any p=false) (h:p t=false):(l.take (m+1)).any p=false:=by
 rw[Y1,ht,RL,h0];simp[h]
theorem vG {α:Type} (p:α->Bool) (l:List α) (m:Nat) (h:¬m<l.length) (h0:(l.take m).any p=false):l.any p=false:=by
 rwa [Zi (by omega)] at h0
def GArg (w:World) (v:Value) (l:List Sto):Prop :=
 ∃a c,v=.slice a l.length c/\(l.length<=c/\c<=maxLen)/\∀(i:Nat) (r:Sto),l[i]? = some r->∃b off x,a=some ⟨b,off,none⟩/\b<w.heap.size/\w.cell? ⟨b,off+i,none⟩=some x/\RArg w x r
theorem GArg.below {w w':World} {v:Value} {l:List Sto} (hb:Bw w w') (h:GArg w v l):GArg w' v l:=by
 obtain⟨a,c,hv,hm,hr⟩:=h;refine⟨a,c,hv,hm,λi z hz=>?_⟩
 obtain⟨b,off,x,ha,Z7,hc,hx⟩:=hr i z hz;exact⟨b,off,x,ha,ZQ Z7 hb.size,(hb.cell (p:=⟨b,off+i,none⟩) Z7).trans hc,RArg.below hb hx⟩
theorem bA (x y:Value) (w:World):Calls prog 232 #[x,y] w λe w'=>e=.returned (.bool true)/\Bw w w':=by
 go_enter func232,ntmps232
 go_wp2
 go_ret
 exact⟨rfl,Z6 _ _⟩
theorem bz (args:Array Value) (w':World):Sem.run prog (callFunc 232 args) w'=.ok (.enter 232 args) w':=by
 simp[callFunc,go_sem,func232,Tryz.f232]
theorem zY (vs:List MVar) (Zf:Vb vs) (sv:Value) (w:World) (hv:VArg w sv vs) :
 Calls prog 147 #[sv] w λe w'=>e=.returned (.int .u64 ((zAN vs:Nat):Int))/\Bw w w':=by
 have HV:=hI hv;have YQ:=hI Zf;obtain⟨a,c,rfl,_,_⟩:=hv;clear Zf;go_enter func147,ntmps147
 go_wp2_with fail
 refine (oj 232 #[] vs (λ_ _=>true) YQ.o _ _ HV.o ⟨bz,λk z w' _ _ _ _=>bA _ _ w'⟩).mono ?_
 rintro e w1 ⟨rfl,Z5⟩;go_wp2
 go_ret
 exact⟨rfl,Z5⟩
theorem bw (c:Cla) (k:Nat) (z:Int) (u:Value) (b1:Nat) (w:World) (hu:LArg w u c) (h1:w.cell? ⟨b1,0,none⟩=some u) :
 Calls prog 144 #[.int .i64 k,.int .i64 z,.pointer (some ⟨b1,0,none⟩)] w λe w'=>e=.returned (.bool (oneB c k z))/\Bw w w':=by
 have HU:=hI hu;obtain⟨a,cc,rfl,_,_⟩:=hu;go_enter func144,ntmps144
 go_wp2_with fail
 refine (bJ c k z _ _ HU.o).mono ?_;rintro e w1 ⟨rfl,Z5⟩;go_wp2
 go_ret
 exact⟨rfl,Z5⟩
theorem bu (args:Array Value) (w':World):Sem.run prog (callFunc 144 args) w'=.ok (.enter 144 args) w':=by
 simp[callFunc,go_sem,func144,Tryz.f144]
theorem Jp (vs:List MVar) (Zf:Vb vs) (cl:Cla) (sv u:Value) (w:World) (hv:VArg w sv vs) (hu:LArg w u cl) :
 Calls prog 85 #[sv,u] w λe w'=>e=.returned (.int .u64 ((zAH vs cl:Nat):Int))/\Bw w w':=by
 have HV:Hid (∀w',Bw w w'->VArg w' sv vs):=λw' h=>VArg.below h hv
 have HU:Hid (∀w',Bw w w'->LArg w' u cl):=λw' h=>LArg.below h hu
 have YQ:=hI Zf;obtain⟨a,c,rfl,_,_⟩:=hv;obtain⟨a2,c2,rfl,_,_⟩:=hu;clear Zf;go_enter func85,ntmps85
 go_wp2_with fail
 refine (oj 144 _ vs (λv x=>oneB cl v x) YQ.o _ _ (HV.o _ (Z4 _ _)) ⟨bu,λk z w' hk _ _ XI=>?_⟩).mono ?_
 ·exact bw cl k z _ w.heap.size w' (HU.o _ ((Z4 _ _).trans (XI.mono (by simp)))) ((XI.cell (by simp)).trans (Zu _ _ _ 0 (by simp)))
 rintro e w1 ⟨rfl,Z5⟩;have ZY:Bw w w1:=(Z4 _ _).trans (Z5.mono (by simp))
 clear Z5;go_wp2
 go_ret
 exact⟨rfl,ZY⟩
def PArg (w:World) (v:Value) (l:List Nat):Prop :=
 ∃a c,v=.slice a l.length c/\(l.length<=c/\c<=maxLen)/\∀(i z:Nat),l[i]? = some z->z<2 ^ 36/\∃b off,a=some ⟨b,off,none⟩/\b<w.heap.size/\w.cell? ⟨b,off+i,none⟩=some (.int .u64 z)
theorem PArg.below {w w':World} {v:Value} {l:List Nat} (hb:Bw w w') (h:PArg w v l):PArg w' v l:=by
 obtain⟨a,c,hv,hm,hr⟩:=h;refine⟨a,c,hv,hm,λi z hz=>?_⟩
 obtain⟨T0,b,off,ha,Z7,hc⟩:=hr i z hz;exact⟨T0,b,off,ha,ZQ Z7 hb.size,(hb.cell (p:=⟨b,off+i,none⟩) Z7).trans hc⟩
theorem oe (p h:Nat) (hp:p<2 ^ 36) (hh:h<2 ^ 36) (b1:Nat) (w:World) (h1:w.cell? ⟨b1,0,none⟩=some (.int .u64 h)) :
 Calls prog 193 #[.int .u64 p,.pointer (some ⟨b1,0,none⟩)] w λe w'=>e=.returned (.bool (Sc h p))/\w'=w:=by
 have hb:=bits_and_u64_nat p h (by omega) (by omega)
 have HN:Hid (Sc h p=(((p &&& h:Nat):Int)==0)):=by
  show _=_;unfold Sc;by_cases h0:p &&& h=0
  ·simp[h0]
  have:(((p &&& h:Nat):Int)==0)=false:=by simpa using h0
  rw[this];simpa using h0
 rw[HN.o];obtain⟨q,hq⟩:∃q,p &&& h=q:=⟨_,rfl⟩;rw[hq] at hb ⊢;clear hq hp hh;go_enter func193,ntmps193
 go_wp2
 go_ret
 exact⟨rfl,rfl⟩
theorem bt (h:Nat) (hh:h<2 ^ 36) (b1:Nat) (l:List Nat) (v:Value) (w:World) (hv:PArg w v l) (h1:w.cell? ⟨b1,0,none⟩=some (.int .u64 h)) :
 Calls prog 252 #[v,.func (.func 193) #[] #[.pointer (some ⟨b1,0,none⟩)]] w λe w'=>(∃z:Int,e=.returned (.int .i64 z)/\(decide (0<=z))=l.any (Sc h))/\w'=w:=by
 obtain⟨a,c,rfl,hm,hr⟩:=hv;have HV:=hI hr;have HH:=hI hh;unfold maxLen at hm;obtain⟨Y0,hm⟩:=hm;clear hr hh;go_enter func252,ntmps252
 go_wp2_with fail
 go_loopw [8] (λi wr=>∃k:Nat,k<=l.length/\i=.int .i64 k/\Hid ((l.take k).any (Sc h)=false)/\wr=w) (λi _=>l.length - (intOf i).toNat)
 case atStart=>exact⟨0,by omega,rfl,rfl,rfl⟩
 obtain⟨k,hk,rfl,hall,rfl⟩:=hrel;by_cases Z7:k<l.length
 ·obtain⟨z,hz⟩:∃z,l[k]? = some z:=⟨l[k],by simp[Z7]⟩
  obtain⟨T0,b,off,ha,hb,hc⟩:=HV.o k z hz;subst ha;have HZ:=hI hz;have KS:=hI T0;clear hz T0;cases hq:Sc h z
  ·have HN:Hid ((l.take (k+1)).any (Sc h)=false):=by show _=_;rw[Y1,HZ.o,RL,hall.o];simp[hq]
   have HC:=oe z h KS.o HH.o b1 wr h1;rw[hq] at HC;have Sh:=hI HC
   clear HC hq hall;go_wp2_with fail
   refine Sh.o.mono ?_;rintro e w ⟨rfl,rfl⟩;go_wp2
   go_roundw
   case rel=>exact⟨k+1,by omega,by go_num,HN,trivial⟩
   case measure=>simp[intOf];omega
  have HN:Hid (l.any (Sc h)=true):=Yh.2 ⟨z,Zz HZ.o,hq⟩;have HC:=oe z h KS.o HH.o b1 wr h1;rw[hq] at HC;have Sh:=hI HC
  clear HC hq hall;go_wp2_with fail
  refine Sh.o.mono ?_;rintro e w ⟨rfl,rfl⟩;go_wp2
  go_ret
  exact⟨⟨k,rfl,by rw[HN.o];simp⟩,rfl⟩
 have Xa:k=l.length:=by omega
 have HN:Hid (l.any (Sc h)=false):=by have:=hall.o;rw[Xa,Qv] at this;exact this
 clear hall Xa;go_wp2
 go_ret
 exact⟨⟨-1,rfl,by rw[HN.o];simp⟩,rfl⟩
theorem br (h:Nat) (hh:h<2 ^ 36) (b1:Nat) (l:List Nat) (v:Value) (w:World) (hv:PArg w v l) (h1:w.cell? ⟨b1,0,none⟩=some (.int .u64 h)) :
 Calls prog 195 #[v,.func (.func 193) #[] #[.pointer (some ⟨b1,0,none⟩)]] w λe w'=>e=.returned (.bool (l.any (Sc h)))/\w'=w:=by
 have HV:=hI hv;have HH:=hI hh;obtain⟨a,c,rfl,_,_⟩:=hv;clear hh;go_enter func195,ntmps195
 go_wp2_with fail
 refine (bt h HH.o b1 l _ _ HV.o h1).mono ?_;rintro e w ⟨⟨z,rfl,hz⟩,rfl⟩;have HZ:=hI hz;clear hz;go_wp2
 go_ret
 exact⟨ZD HZ.o,rfl⟩
def TabT (w:World):Prop:=TabAt 0 Lib.deBruijn64tab w
theorem TabT.below {w w':World} (h:TabT w) (hb:Bw w w'):TabT w':=λj hj=>by
 have:=h j hj;exact (hb.cell (World.block_lt_of_cell? w _ this)).trans this
theorem bq (x k idx:Nat) (w:World) (TK:((x:Int)==0)=false)
 (key:IntKind.u64.wrap (bits BinOp.and IntKind.u64 (x:Int) (IntKind.u64.wrap (-(x:Int))) * 285870213051353865) / 288230376151711744=(idx:Int))
 (hi:idx<64) (hk:k<64) (Vi:w.cell? ⟨0,idx,none⟩=some (.int .u8 k)) :
 Calls prog 234 #[.int .u64 x] w λe w'=>e=.returned (.int .i64 k)/\w'=w:=by
 go_enter func234,ntmps234
 go_wp2_with (simp only[key])
 go_ret
 exact⟨rfl,rfl⟩
theorem bo (w:World):Calls prog 234 #[.int .u64 0] w λe w'=>e=.returned (.int .i64 64)/\w'=w:=by
 go_enter func234,ntmps234
 go_wp2
 go_ret
 exact⟨rfl,rfl⟩
theorem od (x:Nat) (hx:x<18446744073709551616) (w:World) (hT:TabT w) :
 Calls prog 234 #[.int .u64 x] w λe w'=>e=.returned (.int .i64 (Lib.ctz 64 x))/\w'=w:=by
 by_cases TK:x=0
 ·subst TK
  exact bo w
 obtain⟨Qd,hk⟩:=Lib.lowest_bit 64 x TK hx;obtain⟨hi,OQ⟩:=Lib.deBruijn64_at _ hk;have Vi:=hT _ hi;rw[OQ] at Vi;exact bq x _ _ w (by simp;omega) (tz64_key x _ hx TK Qd) hi hk Vi
theorem bl (k:Nat) (hk:k<8):IntKind.u64.wrap (63 * 2 ^ (k * 6))=((63 * 2 ^ (6 * k):Nat):Int):=by
 rw[IntKind.wrap_u64,Nat.mul_comm k 6];have:(2:Nat) ^ (6 * k)<=2 ^ 42:=SS (by omega) (by omega)
 have e:(63:Int) * ((2:Int) ^ (6 * k))=((63 * 2 ^ (6 * k):Nat):Int):=by simp
 rw[e];exact Int.emod_eq_of_lt (by omega) (by omega)
theorem zX (p:Nat) (h0:p≠0) (hp:p<2 ^ 36) (w:World) (hT:TabT w) :
 Calls prog 231 #[.int .u64 p] w λe w'=>e=.returned (.int .u64 ((XG p:Nat):Int))/\w'=w:=by
 have HT:=hI hT;have hc:=(Ag p h0 hp).2;obtain⟨t,ht⟩:∃t,Lib.ctz 64 p=t:=⟨_,rfl⟩;have HC:=hI ht;rw[ht] at hc;have HF:Hid (XG p=63 * 2 ^ (6 * (t / 6))):=by show _=_;unfold XG;rw[ht]
 have hs:=bl (t / 6) (by omega)
 rw[HF.o];obtain⟨q,hq⟩:∃q,63 * 2 ^ (6 * (t / 6))=q:=⟨_,rfl⟩;rw[hq] at hs ⊢;have HP:=hI hp;clear hT ht hq hp h0;go_enter func231,ntmps231
 go_wp2_with fail
 refine (od p (by have:=HP.o;omega) _ HT.o).mono ?_
 rintro e w ⟨rfl,rfl⟩;rw[HC.o];go_wp2
 go_ret
 exact⟨Zm hs,rfl⟩
end Go.Proofs.YtndcpnlaadikoaaGreatDoor
