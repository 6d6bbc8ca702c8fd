/- What the proof leans on, part 42. -/
import Derived.Test.YtndcpnlaadikoaaGreatDoorPartBo
namespace Go.Proofs.YtndcpnlaadikoaaGreatDoor
def zD0 {α β:Type} (en:Int) (T:List Tok) (R:α->β->Prop) (q:α×RP) (r:PR β):Prop :=
 match r with
 | .ok y l=>q.2.er=0/\T.drop q.2.k=l/\q.2.k<=T.length/\R q.1 y
 | .bad pl e=>q.2.er=e/\e≠0/\(ZL en (T.drop q.2.k)).place=pl/\q.2.k<=T.length
structure Same {α β:Type} (en:Int) (T:List Tok) (R:α->β->Prop) (f:RP->α×RP) (P:List Tok->PR β):Prop where
 still:zKG f
 same:∀p,p.er=0->p.k<=T.length->zD0 en T R (f p) (P (T.drop p.k))
theorem Same.bind {α β γ δ:Type} {en:Int} {T:List Tok} {R:α->β->Prop} {S:γ->δ->Prop} {f:RP->α×RP} {P:List Tok->PR β} {g:α->RP->γ×RP} {Q:β->List Tok->PR δ}
 (hf:Same en T R f P) (hs:∀x,zKG (g x)) (hg:∀x y,R x y->∀p,p.er=0->p.k<=T.length->zD0 en T S (g x p) (Q y (T.drop p.k))):Same en T S (λp=>g (f p).1 (f p).2) (λl=>(P l).bind Q):=by
 refine⟨λp hp=>?_,λp hp hk=>?_⟩
 ·show (g (f p).1 (f p).2).2=p
  rw[hf.still p hp];exact hs _ p hp
 have h:=hf.same p hp hk;show zD0 en T S (g (f p).1 (f p).2) ((P (T.drop p.k)).bind Q);cases hq:P (T.drop p.k) with
 | ok y l =>
   rw[hq] at h;obtain⟨h1,h2,h3,h4⟩:=h;have h5:=hg _ y h4 _ h1 h3;rw[h2] at h5;exact h5
 | bad pl e =>
   rw[hq] at h;obtain⟨h1,h2,h3,h4⟩:=h;have h5:(g (f p).1 (f p).2).2=(f p).2:=hs _ _ (by rw[h1];exact h2)
   show _/\_/\_/\_;rw[h5];exact⟨h1,h2,h3,h4⟩
theorem Same.bindS {α β γ δ:Type} {en:Int} {T:List Tok} {R:α->β->Prop} {S:γ->δ->Prop} {f:RP->α×RP} {P:List Tok->PR β} {g:α->RP->γ×RP} {Q:β->List Tok->PR δ}
 (hf:Same en T R f P) (hs:∀x,zKG (g x)) (hg:∀x y,R x y->Same en T S (g x) (Q y)):Same en T S (λp=>g (f p).1 (f p).2) (λl=>(P l).bind Q) :=
 hf.bind hs λx y hr=>(hg x y hr).same
theorem Same.pure {α β:Type} {en:Int} {T:List Tok} {R:α->β->Prop} {x:α} {y:β} (h:R x y):Same en T R (λp=>(x,p)) (λl=>.ok y l) :=
 ⟨λ_ _=>rfl,λ_ hp hk=>⟨hp,rfl,hk,h⟩⟩
theorem IA {α β:Type} {en:Int} {T:List Tok} {R:α->β->Prop} (p:RP) (hp:p.er=0) (hk:p.k<=T.length) (fits:Bool) (q:α×RP) (y:Tok->β)
 (h1:fits=true->q.2=U7 p/\p.k<T.length/\R q.1 (y (ZL en (T.drop p.k)))) (h2:fits=false->q.2=XY 1 p):zD0 en T R q ((WU en fits (T.drop p.k)).bind λt r=>.ok (y t) r):=by
 unfold WU;cases fits
 ·rw[if_neg (by simp)]
  have h:=h2 rfl;have e:XY 1 p=⟨p.k,1⟩:=by unfold XY;rw[if_pos hp]
  rw[e] at h;show _/\_/\_/\_;rw[h];exact⟨rfl,by omega,rfl,hk⟩
 rw[if_pos rfl];obtain⟨h3,h4,h5⟩:=h1 rfl;show _/\_/\_/\_;rw[h3];refine⟨hp,?_,by show p.k+1<=_;omega,h5⟩
 show T.drop (p.k+1)=_;rw[List.tail_drop]
theorem O9 (en:Int) (T:List Tok) (p:RP) (hp:p.er=0):txR en T p=(ZL en (T.drop p.k)).text:=by unfold txR;rw[if_pos hp]
theorem A2 (en:Int) (T:List Tok) (k:Nat) (h:(ZL en (T.drop k)).text≠ByteArray.empty):k<T.length:=by
 apply Xz;intro hn;rw[SU (by omega)] at h
 exact h rfl
theorem Fx (en:Int) (T:List Tok) (s:ByteArray) (hs:(ByteArray.empty.toList==s.toList)=false):Same en T (λ_ _=>True) (λp=>((),Y5 en T s p)) (λl=>Zv en s l):=by
 refine⟨λp hp=>MA en T s p hp,λp hp hk=>?_⟩
 have h:=IA (en:=en) (T:=T) (R:=λ(_:Unit) (_:Tok)=>True) p hp hk ((ZL en (T.drop p.k)).text.toList==s.toList) ((),Y5 en T s p) id
  (λhq=>by
    refine⟨?_,A2 en T p.k (λhe=>by rw[he,hs] at hq;cases hq),trivial⟩
    show Y5 en T s p=_;unfold Y5;rw[if_pos hp,O9 en T p hp,if_pos hq])
  (λhq=>by
    show Y5 en T s p=_;unfold Y5;rw[if_pos hp,O9 en T p hp,hq,if_neg (by simp)])
 show zD0 en T _ _ (Zv en s (T.drop p.k));unfold Zv;cases hq:WU en ((ZL en (T.drop p.k)).text.toList==s.toList) (T.drop p.k) with
 | ok t r=>rw[hq] at h;exact h
 | bad x e=>rw[hq] at h;exact h
theorem qX (en:Int) (T:List Tok) (p:RP) (hp:p.er=0):∀(ws:List ByteArray) (j:Nat),YP en T p ws j=if 0<=idxA ws (txR en T p) j then (idxA ws (txR en T p) j,U7 p) else (0,XY 1 p)
 | [],j=>by unfold YP idxA;rw[if_neg (by omega)]
 | s :: r,j=>by
   unfold YP idxA;by_cases h:((txR en T p).toList==s.toList)=true
   ·rw[if_pos ⟨hp,h⟩,h,if_pos rfl,if_pos (by omega)]
   rw[if_neg (λhq=>h hq.2),if_neg h]
   exact qX en T p hp r (j+1)
theorem gP (n:ByteArray):∀(ws:List ByteArray) (j:Nat),idxA ws n (j+1)=if 0<=idxA ws n j then idxA ws n j+1 else -1
 | [],j=>by unfold idxA;rfl
 | s :: r,j=>by
   unfold idxA;by_cases h:(n.toList==s.toList)=true
   ·rw[if_pos h,if_pos h,if_pos (by omega)];simp
   rw[if_neg h,if_neg h];exact gP n r (j+1)
def PP (T:List Tok):Prop:=∀t∈T,t.kind≠0/\(t.text.toList==ByteArray.empty.toList)=false/\(t.kind=2↔dig0 t.text=true)
theorem xT (en:Int) (T:List Tok) (k:Nat) (h:k<T.length):ZL en (T.drop k)∈T:=by
 rw[Yc h];exact Qs h
theorem A1 (en:Int) (T:List Tok) (k:Nat) (h:¬k<T.length):ZL en (T.drop k)=⟨0,en,ByteArray.empty⟩:=by
 rw[SU (by omega)];rfl
theorem zOv (en:Int) (T:List Tok) (ws:List ByteArray) (f:Int->Int):zKG (λp=>(f (YP en T p ws 0).1,(YP en T p ws 0).2)):=λp hp=>Eg en T p hp ws 0
theorem gO (ws:List ByteArray) (h:∀s∈ws,(ByteArray.empty.toList==s.toList)=false):∀j,idxA ws ByteArray.empty j=-1:=by
 induction ws with
 | nil=>intro j;rfl
 | cons s r ih =>
   intro j;unfold idxA;rw[if_neg (by rw[h s (Zk ..)];simp)]
   exact ih (λt ht=>h t (Y2 _ ht)) (j+1)
theorem zTU (en:Int) (T:List Tok) (hT:PP T) (ws:List ByteArray) (h:∀s∈ws,(ByteArray.empty.toList==s.toList)=false):Same en T Eq (λp=>YP en T p ws 0) (VJ en ws):=by
 refine⟨λp hp=>Eg en T p hp ws 0,λp hp hk=>?_⟩
 show zD0 en T Eq (YP en T p ws 0) (VJ en ws (T.drop p.k));unfold VJ;rw[qX en T p hp,O9 en T p hp];by_cases VO:p.k<T.length
 ·have h1:=hT _ (xT en T p.k VO)
  refine IA (y:=λ_=>idxA ws (ZL en (T.drop p.k)).text 0) p hp hk _ _ (λhq=>?_) (λhq=>?_)
  ·rw[ZB,decide_eq_true_eq] at hq
   rw[if_pos hq.1];exact⟨rfl,VO,rfl⟩
  rw[show ((ZL en (T.drop p.k)).kind != 0)=true by simpa using h1.1,Bool.and_true,decide_eq_false_iff_not] at hq
  rw[if_neg hq]
 rw[A1 en T p.k VO];refine IA (y:=λ_=>idxA ws ByteArray.empty 0) p hp hk _ _ (λhq=>?_) (λhq=>?_)
 ·simp at hq
 rw[gO ws h,if_neg (by omega)]
theorem gN (en:Int) (T:List Tok) (hT:PP T) (ws:List ByteArray) (h:∀s∈ws,(ByteArray.empty.toList==s.toList)=false):Same en T Eq (λp=>(1+(YP en T p ws 0).1,(YP en T p ws 0).2)) (VJ en (ByteArray.empty :: ws)):=by
 refine⟨zOv en T ws (λx=>1+x),λp hp hk=>?_⟩
 show zD0 en T Eq (1+(YP en T p ws 0).1,(YP en T p ws 0).2) (VJ en (ByteArray.empty :: ws) (T.drop p.k));unfold VJ;rw[qX en T p hp,O9 en T p hp];by_cases VO:p.k<T.length
 ·have h1:=hT _ (xT en T p.k VO)
  have e:idxA (ByteArray.empty :: ws) (ZL en (T.drop p.k)).text 0=if 0<=idxA ws (ZL en (T.drop p.k)).text 0 then idxA ws (ZL en (T.drop p.k)).text 0+1 else -1:=by
   conv=>lhs;unfold idxA
   rw[if_neg (by rw[h1.2.1];simp)]
   exact gP _ ws 0
  rw[e];refine IA (y:=λ_=>if 0<=idxA ws (ZL en (T.drop p.k)).text 0 then idxA ws (ZL en (T.drop p.k)).text 0+1 else -1) p hp hk _ _ (λhq=>?_) (λhq=>?_)
  ·rw[ZB,decide_eq_true_eq] at hq
   by_cases h0:0<=idxA ws (ZL en (T.drop p.k)).text 0
   ·rw[if_pos h0,if_pos h0]
    exact⟨rfl,VO,by show 1+_=_;omega⟩
   rw[if_neg h0] at hq;omega
  rw[show ((ZL en (T.drop p.k)).kind != 0)=true by simpa using h1.1,Bool.and_true,decide_eq_false_iff_not] at hq
  by_cases h0:0<=idxA ws (ZL en (T.drop p.k)).text 0
  ·rw[if_pos h0] at hq;omega
  rw[if_neg h0]
 rw[A1 en T p.k VO];refine IA (y:=λ_=>idxA (ByteArray.empty :: ws) ByteArray.empty 0) p hp hk _ _ (λhq=>?_) (λhq=>?_)
 ·simp at hq
 rw[gO ws h,if_neg (by omega)]
theorem zRL:dig0 ByteArray.empty=false:=rfl
theorem gM (en:Int) (T:List Tok) (hT:PP T) (ng:Bool) (p:RP) (hp:p.er=0) (hk:p.k<=T.length) :
 zD0 en T Eq (Ov en T ng p) ((WU en (((ZL en (T.drop p.k)).kind==2)&&!(ng&&((ZL en (T.drop p.k)).text.toList==[48]))) (T.drop p.k)).bind λt r=>.ok ((if ng then -1 else 1) * digV t.text.data.toList) r):=by
 have hd:((ZL en (T.drop p.k)).kind==2)=dig0 (ZL en (T.drop p.k)).text:=by
  by_cases VO:p.k<T.length
  ·have h1:=(hT _ (xT en T p.k VO)).2.2
   cases hq:dig0 (ZL en (T.drop p.k)).text
   ·have:¬(ZL en (T.drop p.k)).kind=2:=λh=>by rw[h1.1 h] at hq;cases hq
    simpa using this
   simpa using h1.2 hq
  rw[A1 en T p.k VO];rfl
 unfold Ov Lt;rw[O9 en T p hp,hd];refine IA (y:=λt=>(if ng then -1 else 1) * digV t.text.data.toList) p hp hk _ _ (λhq=>?_) (λhq=>?_)
 ·rw[ZB] at hq
  have h2:(ng&&((ZL en (T.drop p.k)).text.toList==[48]))=false:=by
   cases hx:(ng&&((ZL en (T.drop p.k)).text.toList==[48]))
   ·rfl
   rw[hx] at hq;exact absurd hq.2 (by simp)
  rw[if_neg (by rw[hq.1,h2];simp)]
  refine⟨rfl,?_,rfl⟩;apply Xz;intro hn;rw[A1 en T p.k hn] at hq;exact absurd hq.1 (by rw[zRL];simp)
 rw[if_pos (by
  cases h1:dig0 (ZL en (T.drop p.k)).text
  ·rfl
  ·rw[h1] at hq
   simpa using hq)]
theorem qW (en:Int) (T:List Tok) (hT:PP T):Same en T Eq (kR en T) (Yi en):=by
 refine⟨sw en T,λp hp hk=>?_⟩
 unfold kR Yi;rw[O9 en T p hp];by_cases h:((ZL en (T.drop p.k)).text.toList==[45])=true
 ·rw[if_pos h,if_pos h]
  exact ((Fx en T ⟨#[45]⟩ (by decide +kernel)).bind (S:=Eq) (g:=λ_ p=>Ov en T true p) (λ_=>jX en T true)
   (Q:=λ_ l=>(WU en (((ZL en l).kind==2)&&(!((ZL en l).text.toList==[48]))) l).bind λt r=>.ok (-1 * digV t.text.data.toList) r)
   (λ_ _ _ p hp hk=>by have:=gM en T hT true p hp hk;simpa using this)).same p hp hk
 rw[if_neg h,if_neg h];have:=gM en T hT false p hp hk;simpa using this
def UF (nm:List ByteArray):Prop:=nm.Pairwise λa b=>a.data.toList≠b.data.toList
def RD {α:Type} (D:Prop) (x y:α):Prop:=D->x=y
theorem Same.weak {α:Type} {en:Int} {T:List Tok} {f:RP->α×RP} {P:List Tok->PR α} (h:Same en T Eq f P) (D:Prop):Same en T (RD D) f P :=
 ⟨h.still,λp hp hk=>by
   have h1:=h.same p hp hk;cases hq:P (T.drop p.k) with
   | ok y l=>rw[hq] at h1;exact⟨h1.1,h1.2.1,h1.2.2.1,λ_=>h1.2.2.2⟩
   | bad pl e=>rw[hq] at h1;exact h1⟩
theorem qV (a b:ByteArray):(a.toList==b.toList)=true↔a.data.toList=b.data.toList:=by
 rw[beq_iff_eq,ByteArray.toList_eq,ByteArray.toList_eq]
theorem qU (s:ByteArray):∀nm:List ByteArray,(Wo nm s).2=true->∃n∈nm,n.data.toList=s.data.toList
 | [],h=>by cases h
 | n :: r,h=>by
   unfold Wo at h;by_cases h1:(Wo r s).2=true
   ·obtain⟨m,hm,he⟩:=qU s r h1
    exact⟨m,Y2 _ hm,he⟩
   rw[if_neg h1] at h;by_cases h2:n.data.toList=s.data.toList
   ·exact⟨n,Zk ..,h2⟩
   rw[if_neg h2] at h;cases h
theorem gL (s:ByteArray) (p:RP):∀(nm:List ByteArray) (i:Nat),((Wo nm s).2=true->∃j:Nat,vAtR s p nm i=(((i+j:Nat):Int),U7 p)/\(UF nm->(Wo nm s).1=(j:Int)))/\((Wo nm s).2=false->vAtR s p nm i=(0,XY 5 p))
 | [],i=>⟨(λh=>by cases h),(λ_=>by unfold vAtR;rfl)⟩
 | n :: r,i=>by
   obtain⟨ih1,ih2⟩:=gL s p r (i+1);by_cases h:n.data.toList=s.data.toList
   ·have hv:vAtR s p (n :: r) i=((i:Int),U7 p):=by unfold vAtR;rw[if_pos ((qV n s).2 h)]
    refine⟨λ_=>⟨0,by rw[hv];rfl,λhA=>?_⟩,λhf=>?_⟩
    ·have Xy:(Wo r s).2=false:=by
      cases hq:(Wo r s).2
      ·rfl
      obtain⟨m,hm,he⟩:=qU s r hq;exact absurd (h.trans he.symm) ((RU.1 hA).1 m hm)
     unfold Wo;rw[Xy,if_neg (by simp),if_pos h]
     rfl
    unfold Wo at hf;cases hq:(Wo r s).2 <;> simp[hq,h] at hf
   have hv:vAtR s p (n :: r) i=vAtR s p r (i+1):=by
    conv=>lhs;unfold vAtR
    rw[if_neg (λhq=>h ((qV n s).1 hq))]
   have hn:Wo (n :: r) s=if (Wo r s).2 then ((Wo r s).1+1,true) else (0,false):=by
    conv=>lhs;unfold Wo
    rw[if_neg h]
   rw[hv,hn];cases hq:(Wo r s).2
   ·refine⟨λhf=>by simp at hf,λ_=>ih2 hq⟩
   obtain⟨j,qT,yv⟩:=ih1 hq;refine⟨λ_=>⟨j+1,by rw[qT];congr 2;omega,λhA=>?_⟩,λhf=>by simp at hf⟩
   have:=yv (RU.1 hA).2;simp only[if_true];rw[this];simp
theorem qS (s:ByteArray):Pf s=WZ s:=by
 have h1:∀m,Zs ⟨[⟨s,0,0⟩],[],0,0⟩=m->Pf s=(m==0):=λm h=>by unfold Pf;rw[h]
 cases hq:WZ s
 ·refine (h1 1 ?_).trans rfl
  have h2:varE [] ⟨s,0,0⟩=1:=by unfold varE;rw[hq];rfl
  have h3:JH [⟨s,0,0⟩]=1:=by show Y4 [varE [] ⟨s,0,0⟩]=1;rw[h2];rfl
  unfold Zs;simp[h3]
 refine (h1 0 ?_).trans rfl;have h2:varE [] ⟨s,0,0⟩=0:=by
  unfold varE;rw[if_pos hq,if_neg (by simp),if_pos (by simp[inB]),if_neg (by simp)]
 have h3:JH [⟨s,0,0⟩]=0:=by show Y4 [varE [] ⟨s,0,0⟩]=0;rw[h2];rfl
 unfold Zs;simp[h3]
 try rfl
theorem qR (en:Int) (T:List Tok) (nm:List ByteArray) (hn:∀n∈nm,∀s:ByteArray,n.data.toList=s.data.toList->WZ s=true):Same en T (RD (UF nm)) (vR en T nm) (X7 en nm):=by
 refine⟨zWH en T nm,λp hp hk=>?_⟩
 unfold vR X7;rw[O9 en T p hp,qS];obtain⟨f1,f2⟩:=gL (ZL en (T.drop p.k)).text p nm 0;cases hq:(Wo nm (ZL en (T.drop p.k)).text).2
 ·rw[f2 hq]
  cases hb:WZ (ZL en (T.drop p.k)).text
  ·simp only[XO,if_false]
   have e:XY 1 p=⟨p.k,1⟩:=by unfold XY;rw[if_pos hp]
   rw[e];exact⟨rfl,by omega,rfl,hk⟩
  simp only[XO,if_false,if_true];have e:XY 5 p=⟨p.k,5⟩:=by unfold XY;rw[if_pos hp]
  rw[e];exact⟨rfl,by omega,rfl,hk⟩
 obtain⟨n,hm,he⟩:=qU _ nm hq;have hb:=hn n hm _ he;rw[if_pos rfl,hb,if_pos rfl];obtain⟨j,qT,yv⟩:=f1 hq;rw[qT];refine IA (y:=λ_=>(Wo nm (ZL en (T.drop p.k)).text).1) p hp hk true _ (λ_=>⟨rfl,A2 en T p.k (λh0=>by rw[h0,F_] at hb;cases hb),λhA=>?_⟩) (λh=>by cases h)
 rw[yv hA];simp
theorem s44:(ByteArray.empty.toList==(⟨#[44]⟩:ByteArray).toList)=false:=by decide +kernel
theorem s93:(ByteArray.empty.toList==(⟨#[93]⟩:ByteArray).toList)=false:=by decide +kernel
theorem s91:(ByteArray.empty.toList==(⟨#[91]⟩:ByteArray).toList)=false:=by decide +kernel
theorem t44:(⟨#[44]⟩:ByteArray).toList=[44]:=by rw[ByteArray.toList_eq]
theorem D8 {α:Type} (en:Int) (T:List Tok) (item:RP->α×RP) (f:Nat) (acc:List α) (p:RP):Vw en T item f acc (false,p)=(acc,p):=by
 cases f <;> (unfold Vw;rfl)
theorem gK {α:Type} (en:Int) (T:List Tok) (item:RP->α×RP) (f:Nat) (acc:List α) (p:RP):Vw en T item (f+1) acc (true,p)=Vw en T item f (acc++[(item p).1]) (VT en T (item p).2):=by
 conv=>lhs;unfold Vw
 rfl
theorem zTV {α:Type} {en:Int} {T:List Tok} {D:Prop} {f:RP->α×RP} {P:List Tok->PR α} (hf:Same en T (RD D) f P) (hE:Eats P) :
 ∀(n:Nat) (p:RP) (acc acc':List α) (fu gu:Nat),p.er=0->p.k<=T.length->(T.drop p.k).length<=n->n+1<=fu->n+1<=gu->(D->acc=acc') ->
  zD0 en T (RD D) (Vw en T f fu acc (VT en T p)) (VV en P gu acc' (T.drop p.k)):=by
 intro n
 induction n with
 | zero =>
   intro p acc acc' fu gu hp hk hl qQ qP ha;obtain⟨g,rfl⟩:∃g,gu=g+1:=⟨gu - 1,by omega⟩
   have h0:T.drop p.k=[]:=Xf (by omega)
   unfold VT VV;rw[O9 en T p hp,h0];have e:((ZL en []).text.toList==[44])=false:=by show (ByteArray.empty.toList==[44])=false;decide +kernel
   rw[e,if_neg (by simp),if_neg (by simp),D8]
   have h:=(Fx en T ⟨#[93]⟩ s93).bind (S:=RD D) (g:=λ_ p=>(acc,p)) (Q:=λ_ l=>.ok acc' l) (λ_ _ _=>rfl) (λ_ _ _ p hp hk=>⟨hp,rfl,hk,ha⟩)
   have:=h.same p hp hk;rw[h0] at this;exact this
 | succ n ih =>
   intro p acc acc' fu gu hp hk hl qQ qP ha;obtain⟨g,rfl⟩:∃g,gu=g+1:=⟨gu - 1,by omega⟩
   obtain⟨f0,rfl⟩:∃f0,fu=f0+1:=⟨fu - 1,by omega⟩
   unfold VT VV;rw[O9 en T p hp];cases hq:((ZL en (T.drop p.k)).text.toList==[44])
   ·rw[if_neg (by simp),if_neg (by simp),D8]
    have h:=(Fx en T ⟨#[93]⟩ s93).bind (S:=RD D) (g:=λ_ p=>(acc,p)) (Q:=λ_ l=>.ok acc' l) (λ_ _ _=>rfl) (λ_ _ _ p hp hk=>⟨hp,rfl,hk,ha⟩)
    exact h.same p hp hk
   rw[if_pos rfl,if_pos rfl,gK];have h1:=(Fx en T ⟨#[44]⟩ s44).same p hp hk;have VO:p.k<T.length:=A2 en T p.k (λhe=>by rw[he] at hq;revert hq;decide +kernel)
   have Tu:Zv en ⟨#[44]⟩ (T.drop p.k)=.ok (ZL en (T.drop p.k)) (T.drop p.k).tail:=by unfold Zv WU;rw[t44,hq,if_pos rfl]
   rw[Tu] at h1 ⊢;obtain⟨a1,a2,a3,_⟩:=h1
   dsimp only at a1 a2 a3
   show zD0 en T (RD D) _ ((P (T.drop p.k).tail).bind _);rw[<-a2];have Zr:(T.drop (Y5 en T ⟨#[44]⟩ p).k).length<=n:=by rw[a2,List.length_tail];omega
   have h2:=hf.same _ a1 a3;cases hP:P (T.drop (Y5 en T ⟨#[44]⟩ p).k) with
   | ok x l =>
     rw[hP] at h2;obtain⟨b1,b2,b3,b4⟩:=h2;have Yn:=hE _ x l hP;have:=ih (f (Y5 en T ⟨#[44]⟩ p)).2 (acc++[(f (Y5 en T ⟨#[44]⟩ p)).1]) (acc'++[x]) f0 g b1 b3 (by rw[b2];omega) (by omega) (by omega) (λhD=>by rw[ha hD,b4 hD])
     rw[b2] at this;exact this
   | bad pl e =>
     rw[hP] at h2;obtain⟨b1,b2,b3,b4⟩:=h2;rw[jW en T _ (by rw[b1];exact b2),D8]
     exact⟨b1,b2,b3,b4⟩
theorem xS {α:Type} {en:Int} {T:List Tok} {D:Prop} {f:RP->α×RP} {P:List Tok->PR α} (hf:Same en T (RD D) f P) (hE:Eats P):Same en T (RD D) (Zc en T f) (Yf en P):=by
 refine⟨zQz en T f,λp hp hk=>?_⟩
 unfold Zc PV Yf;have h1:=(Fx en T ⟨#[91]⟩ s91).same p hp hk;obtain⟨p1,Vh⟩:∃p1,Y5 en T ⟨#[91]⟩ p=p1:=⟨_,rfl⟩;rw[Vh] at h1 ⊢;cases hs:Zv en ⟨#[91]⟩ (T.drop p.k) with
 | bad pl e =>
   rw[hs] at h1;obtain⟨b1,b2,b3,b4⟩:=h1;have ZP:p1.er≠0:=by rw[b1];exact b2
   rw[Mz en T p1 ZP,if_neg (by decide +kernel),decide_eq_false ZP,D8]
   exact⟨b1,b2,b3,b4⟩
 | ok t l =>
   rw[hs] at h1;obtain⟨a1,a2,a3,_⟩:=h1;show zD0 en T (RD D) _ (if _ then _ else _)
   rw[<-a2,O9 en T p1 a1];cases hq:((ZL en (T.drop p1.k)).text.toList==[93])
   ·rw[if_neg (by simp),if_neg (by simp),decide_eq_true a1,gK]
    have h2:=hf.same p1 a1 a3;cases hP:P (T.drop p1.k) with
    | ok x l2 =>
      rw[hP] at h2;obtain⟨b1,b2,b3,b4⟩:=h2;have:=zTV hf hE l2.length (f p1).2 ([]++[(f p1).1]) [x] (T.length+1) (l2.length+1) b1 b3 (by rw[b2];exact Z2 _) (by rw[<-b2,RN];omega) (Z2 _) (λhD=>by rw[b4 hD];rfl)
      rw[b2] at this;exact this
    | bad pl e =>
      rw[hP] at h2;obtain⟨b1,b2,b3,b4⟩:=h2;rw[jW en T _ (by rw[b1];exact b2),D8]
      exact⟨b1,b2,b3,b4⟩
   rw[if_pos rfl,if_pos rfl,D8];have h:=(Fx en T ⟨#[93]⟩ s93).bind (S:=RD D) (g:=λ_ p=>(([]:List α),p)) (Q:=λ_ l=>.ok [] l) (λ_ _ _=>rfl) (λ_ _ _ p hp hk=>⟨hp,rfl,hk,λ_=>rfl⟩)
   exact h.same p1 a1 a3
theorem zTW:∀s∈opWL.tail,(ByteArray.empty.toList==s.toList)=false:=by
 intro s hs;simp only[opWL,List.tail_cons,YJ,Tx,or_false] at hs;rcases hs with rfl | rfl | rfl | rfl <;> decide +kernel
theorem zVJ (en:Int) (T:List Tok) (hT:PP T) (nm:List ByteArray) (hn:∀n∈nm,∀s:ByteArray,n.data.toList=s.data.toList->WZ s=true):Same en T (RD (UF nm)) (litR en T nm) (litP en nm):=by
 have hw:Same en T Eq (λp=>(1+(YP en T p opWL.tail 0).1,(YP en T p opWL.tail 0).2)) (VJ en opWL):=gN en T hT opWL.tail zTW
 have h3:∀(v v' o:Int),RD (UF nm) v v'->Same en T (RD (UF nm)) (λp=>((⟨v,o,(kR en T p).1⟩:MLit),(kR en T p).2)) (λl=>(Yi en l).bind λn l=>.ok (⟨v',o,n⟩:MLit) l):=λv v' o hv =>
  (qW en T hT).bind (S:=RD (UF nm)) (g:=λn p=>((⟨v,o,n⟩:MLit),p)) (Q:=λn l=>.ok (⟨v',o,n⟩:MLit) l) (λ_ _ _=>rfl) (λx y Rs p hp hk=>⟨hp,rfl,hk,λhD=>by rw[hv hD,Rs]⟩)
 have h2:∀(v v':Int),RD (UF nm) v v'->Same en T (RD (UF nm)) (λp=>((⟨v,1+(YP en T p opWL.tail 0).1,(kR en T (YP en T p opWL.tail 0).2).1⟩:MLit),(kR en T (YP en T p opWL.tail 0).2).2)) (λl=>(VJ en opWL l).bind λop l=>(Yi en l).bind λn l=>.ok (⟨v',op,n⟩:MLit) l):=λv v' hv =>
  hw.bindS (S:=RD (UF nm)) (g:=λo p=>((⟨v,o,(kR en T p).1⟩:MLit),(kR en T p).2)) (Q:=λo l=>(Yi en l).bind λn l=>.ok (⟨v',o,n⟩:MLit) l) (λo p hp=>sw en T p hp) (λx y Rs=>by rw[Rs];exact h3 v v' y hv)
 exact (qR en T nm hn).bindS (S:=RD (UF nm)) (g:=λv p=>((⟨v,1+(YP en T p opWL.tail 0).1,(kR en T (YP en T p opWL.tail 0).2).1⟩:MLit),(kR en T (YP en T p opWL.tail 0).2).2))
  (Q:=λv l=>(VJ en opWL l).bind λop l=>(Yi en l).bind λn l=>.ok (⟨v,op,n⟩:MLit) l) (λv p hp=>by show (kR en T (YP en T p opWL.tail 0).2).2=p;rw[Eg en T p hp];exact sw en T p hp) h2
def QY (en:Int) (T:List Tok) (nm:List ByteArray) (k:Int) (p:RP):MCon×RP :=
 if k=1∨k=2∨k=3 then
  (⟨k,(Zc en T (vR en T nm) (Zc en T (kR en T) p).2).1,(Zc en T (kR en T) p).1,(kR en T (Zc en T (vR en T nm) (Zc en T (kR en T) p).2).2).1,[],[]⟩,(kR en T (Zc en T (vR en T nm) (Zc en T (kR en T) p).2).2).2)
 else if k=4 then (⟨k,(Zc en T (vR en T nm) p).1,[],0,[],[]⟩,(Zc en T (vR en T nm) p).2)
 else if k=5 then (⟨k,[(vR en T nm (Zc en T (kR en T) p).2).1,(vR en T nm (vR en T nm (Zc en T (kR en T) p).2).2).1],(Zc en T (kR en T) p).1,0,[],[]⟩,(vR en T nm (vR en T nm (Zc en T (kR en T) p).2).2).2)
 else if k=6 then (⟨k,(Zc en T (vR en T nm) p).1,[],0,(Zc en T (Zc en T (kR en T)) (Zc en T (vR en T nm) p).2).1,[]⟩,(Zc en T (Zc en T (kR en T)) (Zc en T (vR en T nm) p).2).2)
 else if k=7 then (⟨k,[(vR en T nm p).1,(vR en T nm (vR en T nm p).2).1,(vR en T nm (vR en T nm (vR en T nm p).2).2).1],[],0,[],[]⟩,(vR en T nm (vR en T nm (vR en T nm p).2).2).2)
 else if k=8 then (⟨k,[(vR en T nm p).1]++(Zc en T (vR en T nm) (vR en T nm p).2).1,[],0,[],[]⟩,(Zc en T (vR en T nm) (vR en T nm p).2).2)
 else if k=9 then (⟨k,[],[],0,[],(Zc en T (litR en T nm) p).1⟩,(Zc en T (litR en T nm) p).2)
 else if k=10 then (⟨k,[(vR en T nm p).1],[],0,[],[(litR en T nm (vR en T nm p).2).1]⟩,(litR en T nm (vR en T nm p).2).2)
 else (⟨k,[],[],0,[],[]⟩,p)
section
variable {en:Int} {T:List Tok} {D:Prop}
theorem end1 {α γ:Type} {f:RP->α×RP} {P:List Tok->PR α} (hf:Same en T (RD D) f P) (m m':α->γ) (hm:∀x,D->m x=m' x):Same en T (RD D) (λp=>(m (f p).1,(f p).2)) (λl=>(P l).bind λx l=>.ok (m' x) l) :=
 hf.bind (g:=λx p=>(m x,p)) (Q:=λx l=>.ok (m' x) l) (λ_ _ _=>rfl) (λx y Rs p hp hk=>⟨hp,rfl,hk,λhD=>by rw[hm x hD,Rs hD]⟩)
theorem end2 {α β γ:Type} {f:RP->α×RP} {P:List Tok->PR α} {g:RP->β×RP} {Q:List Tok->PR β} (hf:Same en T (RD D) f P) (hg:Same en T (RD D) g Q) (m m':α->β->γ) (hm:∀x y,D->m x y=m' x y) :
 Same en T (RD D) (λp=>(m (f p).1 (g (f p).2).1,(g (f p).2).2)) (λl=>(P l).bind λx l=>(Q l).bind λy l=>.ok (m' x y) l) :=
 hf.bindS (g:=λx p=>(m x (g p).1,(g p).2)) (Q:=λx l=>(Q l).bind λy l=>.ok (m' x y) l) (λx p hp=>hg.still p hp) (λx x' hx=>end1 hg (m x) (m' x') (λy hD=>by rw[hx hD];exact hm x' y hD))
theorem end3 {α β δ γ:Type} {f:RP->α×RP} {P:List Tok->PR α} {g:RP->β×RP} {Q:List Tok->PR β} {h:RP->δ×RP} {O:List Tok->PR δ} (hf:Same en T (RD D) f P) (hg:Same en T (RD D) g Q) (hh:Same en T (RD D) h O) (m m':α->β->δ->γ) (hm:∀x y z,D->m x y z=m' x y z) :
 Same en T (RD D) (λp=>(m (f p).1 (g (f p).2).1 (h (g (f p).2).2).1,(h (g (f p).2).2).2)) (λl=>(P l).bind λx l=>(Q l).bind λy l=>(O l).bind λz l=>.ok (m' x y z) l) :=
 hf.bindS (g:=λx p=>(m x (g p).1 (h (g p).2).1,(h (g p).2).2)) (Q:=λx l=>(Q l).bind λy l=>(O l).bind λz l=>.ok (m' x y z) l)
  (λx p hp=>by show (h (g p).2).2=p;rw[hg.still p hp];exact hh.still p hp) (λx x' hx=>end2 hg hh (m x) (m' x') (λy z hD=>by rw[hx hD];exact hm x' y z hD))
end
theorem gJ (en:Int) (T:List Tok) (hT:PP T) (nm:List ByteArray) (hn:∀n∈nm,∀s:ByteArray,n.data.toList=s.data.toList->WZ s=true) (k:Int):Same en T (RD (UF nm)) (QY en T nm k) (Wn en nm k):=by
 have hK:=(qW en T hT).weak (UF nm);have hV:=qR en T nm hn;have Fw:=xS hK (NR en);have JS:=xS hV (Gj en nm);have hRs:=xS Fw (Lx en _ (NR en));have hL:=zVJ en T hT nm hn;have hLs:=xS hL (B0 en nm);unfold QY Wn;by_cases h1:k=1∨k=2∨k=3
 ·simp only[if_pos h1]
  exact end3 Fw JS hK (λcs vs n=>(⟨k,vs,cs,n,[],[]⟩:MCon)) _ (λ_ _ _ _=>rfl)
 simp only[if_neg h1];by_cases h4:k=4
 ·simp only[if_pos h4]
  exact end1 JS (λvs=>(⟨k,vs,[],0,[],[]⟩:MCon)) _ (λ_ _=>rfl)
 simp only[if_neg h4];by_cases h5:k=5
 ·simp only[if_pos h5]
  exact end3 Fw hV hV (λcs a b=>(⟨k,[a,b],cs,0,[],[]⟩:MCon)) _ (λ_ _ _ _=>rfl)
 simp only[if_neg h5];by_cases h6:k=6
 ·simp only[if_pos h6]
  exact end2 JS hRs (λvs rs=>(⟨k,vs,[],0,rs,[]⟩:MCon)) _ (λ_ _ _=>rfl)
 simp only[if_neg h6];by_cases h7:k=7
 ·simp only[if_pos h7]
  exact end3 hV hV hV (λa b c=>(⟨k,[a,b,c],[],0,[],[]⟩:MCon)) _ (λ_ _ _ _=>rfl)
 simp only[if_neg h7];by_cases h8:k=8
 ·simp only[if_pos h8]
  exact end2 hV JS (λa vs=>(⟨k,[a]++vs,[],0,[],[]⟩:MCon)) _ (λ_ _ _=>rfl)
 simp only[if_neg h8];by_cases h9:k=9
 ·simp only[if_pos h9]
  exact end1 hLs (λls=>(⟨k,[],[],0,[],ls⟩:MCon)) _ (λ_ _=>rfl)
 simp only[if_neg h9];by_cases Up:k=10
 ·simp only[if_pos Up]
  exact end2 hV hL (λa t=>(⟨k,[a],[],0,[],[t]⟩:MCon)) _ (λ_ _ _=>rfl)
 simp only[if_neg Up];exact Same.pure (λ_=>rfl)
def conR (en:Int) (T:List Tok) (nm:List ByteArray) (p:RP):MCon×RP:=QY en T nm (1+(YP en T p WF.tail 0).1) (YP en T p WF.tail 0).2
theorem zRM:∀s∈WF.tail,(ByteArray.empty.toList==s.toList)=false:=by
 intro s hs;simp only[WF,List.tail_cons,YJ,Tx,or_false] at hs;rcases hs with rfl | rfl | rfl | rfl | rfl | rfl | rfl | rfl | rfl | rfl <;> decide +kernel
theorem zVK (en:Int) (T:List Tok) (hT:PP T) (nm:List ByteArray) (hn:∀n∈nm,∀s:ByteArray,n.data.toList=s.data.toList->WZ s=true):Same en T (RD (UF nm)) (conR en T nm) (λl=>(VJ en WF l).bind λk l=>Wn en nm k l) :=
 (gN en T hT WF.tail zRM).bindS (g:=λk p=>QY en T nm k p) (Q:=λk l=>Wn en nm k l) (λk=>(gJ en T hT nm hn k).still) (λx y Rs=>by rw[Rs];exact gJ en T hT nm hn y)
open Go.RowKit
structure ConT (c:RC) (w0 w:World) (p:RP) (vv vc vr vl:Value) (k:MCon):Prop where
 st:RSt c p w
 fr:Fr (XR9 c.R) w0 w
 res:w.heap[w0.heap.size]? = some (.cells #[.int .i64 0,.slice none 0 0,.slice none 0 0,.int .i64 0,.slice none 0 0,.slice none 0 0] 69)
 con:w.heap[w0.heap.size+1]? = some (.cells #[.int .i64 k.kind,vv,vc,.int .i64 k.n,vr,vl] 69)
 Rw:c.R<w0.heap.size
 Nw:c.N<=w0.heap.size
 NBw:c.NB<=w0.heap.size
 own:ConR w0.heap.size w vv vc vr vl k
section
variable {c:RC} {w0 w w':World} {p p':RP} {vv vc vr vl:Value} {k:MCon}
theorem ConT.call (h:ConT c w0 w p vv vc vr vl k) (hf:Fr (XR9 c.R) w w') (ZZ:RSt c p' w'):ConT c w0 w' p' vv vc vr vl k where
 st:=ZZ
 fr:=h.fr.trans hf
 res:=(hf.block _ (Z8.1 h.res).1 (by have:=h.Rw;show ¬_=_;omega)).trans h.res
 con:=(hf.block _ (Z8.1 h.con).1 (by have:=h.Rw;show ¬_=_;omega)).trans h.con
 Rw:=h.Rw
 Nw:=h.Nw
 NBw:=h.NBw
 own:=h.own.fr hf (λj hj=>by have h1:j=c.R:=hj;rw[h1];exact h.Rw)
theorem ConT.below (h:ConT c w0 w p vv vc vr vl k) (hb:Bw w w'):ConT c w0 w' p vv vc vr vl k:=h.call (Fr.below hb) (h.st.below hb)
theorem ConT.base (h:ConT c w0 w p vv vc vr vl k):w0.heap.size<=w.heap.size:=h.fr.size
theorem ConT.put (h:ConT c w0 w p vv vc vr vl k) (i:Nat) (u:Value) (vv' vc' vr' vl':Value) (k':MCon) (Wx:(#[.int .i64 k.kind,vv,vc,.int .i64 k.n,vr,vl]:Array Value).setIfInBounds i u=#[.int .i64 k'.kind,vv',vc',.int .i64 k'.n,vr',vl'])
 (ho:ConR w0.heap.size w vv' vc' vr' vl' k'):ConT c w0 (w.setCell ⟨w0.heap.size+1,i,none⟩ u) p vv' vc' vr' vl' k' where
 st:=h.st.set (q:=⟨w0.heap.size+1,i,none⟩) (by have:=h.Rw;show w0.heap.size+1≠c.R;omega) (by have:=h.Nw;show c.N<=w0.heap.size+1;omega) (by have:=h.NBw;show c.NB<=w0.heap.size+1;omega) u
 fr:=h.fr.setNew (p:=⟨w0.heap.size+1,i,none⟩) (by show w0.heap.size<=w0.heap.size+1;omega) u
 res:=(Below.heap_setCell _ _ _ _ (by show w0.heap.size≠w0.heap.size+1;omega)).trans h.res
 con:=by rw[heap_setCell_same w _ i _ _ _ h.con,Wx]
 Rw:=h.Rw
 Nw:=h.Nw
 NBw:=h.NBw
 own:=ho.set h.con i u
theorem ConT.kind (h:ConT c w0 w p vv vc vr vl k) (n:Int):ConT c w0 (w.setCell ⟨w0.heap.size+1,0,none⟩ (.int .i64 n)) p vv vc vr vl { k with kind:=n } :=
 h.put 0 _ vv vc vr vl { k with kind:=n } rfl h.own
theorem ConT.vars (h:ConT c w0 w p vv vc vr vl k) {v:Value} {xs:List Int} (ho:w.ownsRow w0.heap.size 3 1 v xs.length (xs.map (Value.int .i64))):ConT c w0 (w.setCell ⟨w0.heap.size+1,1,none⟩ v) p v vc vr vl { k with vars:=xs } :=
 h.put 1 v v vc vr vl { k with vars:=xs } rfl ⟨ho,h.own.2.1,h.own.2.2.1,h.own.2.2.2⟩
theorem ConT.consts (h:ConT c w0 w p vv vc vr vl k) {v:Value} {xs:List Int} (ho:w.ownsRow w0.heap.size 3 1 v xs.length (xs.map (Value.int .i64))):ConT c w0 (w.setCell ⟨w0.heap.size+1,2,none⟩ v) p vv v vr vl { k with consts:=xs } :=
 h.put 2 v vv v vr vl { k with consts:=xs } rfl ⟨h.own.1,ho,h.own.2.2.1,h.own.2.2.2⟩
theorem ConT.n (h:ConT c w0 w p vv vc vr vl k) (n:Int):ConT c w0 (w.setCell ⟨w0.heap.size+1,3,none⟩ (.int .i64 n)) p vv vc vr vl { k with n:=n } :=
 h.put 3 _ vv vc vr vl { k with n:=n } rfl h.own
theorem ConT.rows (h:ConT c w0 w p vv vc vr vl k) {v:Value} {xs:List (List Int)} (ho:LSr w0.heap.size w0.heap.size w v xs):ConT c w0 (w.setCell ⟨w0.heap.size+1,4,none⟩ v) p vv vc v vl { k with rows:=xs } :=
 h.put 4 v vv vc v vl { k with rows:=xs } rfl ⟨h.own.1,h.own.2.1,ho,h.own.2.2.2⟩
theorem ConT.lits (h:ConT c w0 w p vv vc vr vl k) {v:Value} {xs:List MLit} (ho:w.ownsRow w0.heap.size 76 3 v xs.length (xs.flatMap litC)):ConT c w0 (w.setCell ⟨w0.heap.size+1,5,none⟩ v) p vv vc vr v { k with lits:=xs } :=
 h.put 5 v vv vc vr v { k with lits:=xs } rfl ⟨h.own.1,h.own.2.1,h.own.2.2.1,ho⟩
theorem ConT.varsLit (h:ConT c w0 w p vv vc vr vl k) (xs:List Int) (hx:xs.length<=100):ConT c w0 ((w.setCell ⟨w0.heap.size+1,1,none⟩ (.slice (some ⟨w.heap.size,0,none⟩) xs.length xs.length)).alloc (.cells (xs.map (Value.int .i64)).toArray 3)) p (.slice (some ⟨w.heap.size,0,none⟩) xs.length xs.length) vc vr vl { k with vars:=xs }:=by
 rw[<-World.setCell_alloc_past _ _ _ _ (Z8.1 h.con).1];refine (h.below (Z4 _ _)).vars ?_;have:=World.ownsRow_lit (e:=3) (size:=1) w (xs.map (Value.int .i64)).toArray xs.length h.base (by unfold maxLen;omega) (by simp)
 simpa using this
theorem ConT.grown {v:Value} {e:TypeId} {s n:Nat} {xs:List Value} {o:Obj} (h:ConT c w0 w p vv vc vr vl k) (hv:w.ownsRow w0.heap.size e s v n xs) (hg:(w.alloc o).grownBy w' v.ownBlock) (ho:ConR w0.heap.size w' vv vc vr vl k) (he:e≠69):ConT c w0 w' p vv vc vr vl k where
 st:=(h.st.below (Z4 _ _)).grown hg (λj hj=>by have h1:=(hv.lt j hj).1;have h2:=h.Rw;have h3:=h.Nw;have h4:=h.NBw;exact⟨by omega,by omega,by omega⟩)
 fr:=(h.fr.alloc _).grown hg (λj hj=>Or.inr ((hv.lt j hj).1))
 res:=Sz (((Z4 w o).block _ (Z8.1 h.res).1).trans h.res) hg (hv.alloc _) (Ne.symm he)
 con:=Sz (((Z4 w o).block _ (Z8.1 h.con).1).trans h.con) hg (hv.alloc _) (Ne.symm he)
 Rw:=h.Rw
 Nw:=h.Nw
 NBw:=h.NBw
 own:=ho
theorem ConT.endd (h:ConT c w0 w p vv vc vr vl k) (u0 u1 u2 u3 u4 u5:Value) (W:World)
 (hW:W=(((((w.setCell ⟨w0.heap.size,0,none⟩ u0).setCell ⟨w0.heap.size,1,none⟩ u1).setCell ⟨w0.heap.size,2,none⟩ u2).setCell ⟨w0.heap.size,3,none⟩ u3).setCell ⟨w0.heap.size,4,none⟩ u4).setCell ⟨w0.heap.size,5,none⟩ u5) :
 ConR w0.heap.size W vv vc vr vl k/\RSt c p W/\Fr (XR9 c.R) w0 W:=by
 subst hW;have ZP:w0.heap.size≠c.R:=by have:=h.Rw;omega
 have k0:∃cs,w.heap[w0.heap.size]? = some (.cells cs 69):=⟨_,h.res⟩;have k1:=O' k0 0 u0;have k2:=O' k1 1 u1;have k3:=O' k2 2 u2;have k4:=O' k3 3 u3;have k5:=O' k4 4 u4;refine⟨?_,?_,?_⟩
 ·exact (((((h.own.set k0.choose_spec 0 u0).set k1.choose_spec 1 u1).set k2.choose_spec 2 u2).set k3.choose_spec 3 u3).set k4.choose_spec 4 u4).set k5.choose_spec 5 u5
 ·exact (((((h.st.set (q:=⟨w0.heap.size,0,none⟩) ZP h.Nw h.NBw _).set (q:=⟨w0.heap.size,1,none⟩) ZP h.Nw h.NBw _).set (q:=⟨w0.heap.size,2,none⟩) ZP h.Nw h.NBw _).set (q:=⟨w0.heap.size,3,none⟩) ZP h.Nw h.NBw _).set (q:=⟨w0.heap.size,4,none⟩) ZP h.Nw h.NBw _).set (q:=⟨w0.heap.size,5,none⟩) ZP h.Nw h.NBw _
 exact (((((h.fr.setNew (p:=⟨w0.heap.size,0,none⟩) (Z2 _) _).setNew (p:=⟨w0.heap.size,1,none⟩) (Z2 _) _).setNew (p:=⟨w0.heap.size,2,none⟩) (Z2 _) _).setNew (p:=⟨w0.heap.size,3,none⟩) (Z2 _) _).setNew (p:=⟨w0.heap.size,4,none⟩) (Z2 _) _).setNew (p:=⟨w0.heap.size,5,none⟩) (Z2 _) _
end
theorem zRN:∀s∈WF.tail,We s:=by
 intro s hs;simp only[WF,List.tail_cons,YJ,Tx,or_false] at hs;rcases hs with rfl | rfl | rfl | rfl | rfl | rfl | rfl | rfl | rfl | rfl <;> (unfold We;rw[ByteArray.toList_eq,ByteArray.toList_eq];rfl)
end Go.Proofs.YtndcpnlaadikoaaGreatDoor
