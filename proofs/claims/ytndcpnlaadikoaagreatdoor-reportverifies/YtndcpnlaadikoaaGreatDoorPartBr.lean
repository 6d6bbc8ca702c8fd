/- What the proof leans on, part 44. -/
import Derived.Test.YtndcpnlaadikoaaGreatDoorPartBq
set_option maxHeartbeats 400000
open Go.Proofs.Tryz
namespace Go.Proofs.YtndcpnlaadikoaaGreatDoor
section
variable {en:Int} {T:List Tok}
theorem JR {γ δ:Type} {S:γ->δ->Prop} {g:RP->γ×RP} {Q:List Tok->PR δ} (s:ByteArray) (hs:(ByteArray.empty.toList==s.toList)=false) (hg:Same en T S g Q):Same en T S (λp=>g (Y5 en T s p)) (λl=>(Zv en s l).bind λ_ l=>Q l) :=
 (Fx en T s hs).bindS (g:=λ_ p=>g p) (Q:=λ_ l=>Q l) (λ_=>hg.still) (λ_ _ _=>hg)
end
def Lm (en:Int) (T:List Tok) (p:RP):ByteArray×RP:=(txR en T p,if WZ (txR en T p) then U7 p else XY 1 p)
theorem zLu (en:Int) (T:List Tok):zKG (Lm en T):=λp hp=>by
 unfold Lm;rw[Mz en T p hp,F_];exact J6 1 p hp
theorem zNY (en:Int) (T:List Tok):Same en T Eq (Lm en T) (OA en):=by
 refine⟨zLu en T,λp hp hk=>?_⟩
 unfold Lm OA;rw[O9 en T p hp,qS];refine IA (y:=λt=>t.text) p hp hk _ _ (λhq=>⟨by show (if _ then _ else _)=_;rw[hq,if_pos rfl],A2 en T p.k (λh0=>by rw[h0,F_] at hq;cases hq),rfl⟩) (λhq=>by show (if _ then _ else _)=_;rw[hq,if_neg (by simp)])
def Ol (en:Int) (T:List Tok) (p:RP):MVar×RP :=
 let a:=Lm en T (Y5 en T varW p)
 let b:=kR en T (Y5 en T colW a.2)
 let c:=kR en T (Y5 en T TR b.2)
 (⟨a.1,b.1,c.1⟩,Y5 en T YV c.2)
theorem zOx (en:Int) (T:List Tok) (hT:PP T):Same en T Eq (Ol en T) (PX en):=by
 have hN:=qW en T hT;have h7:∀(n:ByteArray) (lo hi:Int),Same en T Eq (λp=>((⟨n,lo,hi⟩:MVar),Y5 en T YV p)) (λl=>(Zv en YV l).bind λ_ l=>.ok (⟨n,lo,hi⟩:MVar) l):=λn lo hi=>JR YV (by decide +kernel) (g:=λp=>((⟨n,lo,hi⟩:MVar),p)) (Same.pure rfl)
 have h6:∀(n:ByteArray) (lo:Int),Same en T Eq (λp=>((⟨n,lo,(kR en T p).1⟩:MVar),Y5 en T YV (kR en T p).2)) (λl=>(Yi en l).bind λhi l=>(Zv en YV l).bind λ_ l=>.ok (⟨n,lo,hi⟩:MVar) l):=λn lo =>
  hN.bindS (g:=λhi p=>((⟨n,lo,hi⟩:MVar),Y5 en T YV p)) (Q:=λhi l=>(Zv en YV l).bind λ_ l=>.ok (⟨n,lo,hi⟩:MVar) l) (λhi=>(h7 n lo hi).still) (λx y Rs=>by rw[Rs];exact h7 n lo y)
 have h5:=λ(n:ByteArray) (lo:Int)=>JR TR (by decide +kernel) (h6 n lo)
 have h4:∀n:ByteArray,Same en T Eq (λp=>((⟨n,(kR en T p).1,(kR en T (Y5 en T TR (kR en T p).2)).1⟩:MVar),Y5 en T YV (kR en T (Y5 en T TR (kR en T p).2)).2)) (λl=>(Yi en l).bind λlo l=>(Zv en TR l).bind λ_ l=>(Yi en l).bind λhi l=>(Zv en YV l).bind λ_ l=>.ok (⟨n,lo,hi⟩:MVar) l):=λn =>
  hN.bindS (g:=λlo p=>((⟨n,lo,(kR en T (Y5 en T TR p)).1⟩:MVar),Y5 en T YV (kR en T (Y5 en T TR p)).2)) (Q:=λlo l=>(Zv en TR l).bind λ_ l=>(Yi en l).bind λhi l=>(Zv en YV l).bind λ_ l=>.ok (⟨n,lo,hi⟩:MVar) l) (λlo=>(h5 n lo).still) (λx y Rs=>by rw[Rs];exact h5 n y)
 have h3:=λ(n:ByteArray)=>JR colW (by decide +kernel) (h4 n)
 exact JR varW (by decide +kernel) ((zNY en T).bindS (g:=λn p=>((⟨n,(kR en T (Y5 en T colW p)).1,(kR en T (Y5 en T TR (kR en T (Y5 en T colW p)).2)).1⟩:MVar),Y5 en T YV (kR en T (Y5 en T TR (kR en T (Y5 en T colW p)).2)).2))
  (Q:=λn l=>(Zv en colW l).bind λ_ l=>(Yi en l).bind λlo l=>(Zv en TR l).bind λ_ l=>(Yi en l).bind λhi l=>(Zv en YV l).bind λ_ l=>.ok (⟨n,lo,hi⟩:MVar) l) (λn=>(h3 n).still) (λx y Rs=>by rw[Rs];exact h3 y))
def rowR {α:Type} (en:Int) (T:List Tok) (wd:List UInt8) (f:RP->α×RP):Nat->List α->RP->List α×RP
 | 0,acc,p=>(acc,p)
 | n+1,acc,p=>if ((txR en T p).toList==wd)=true then rowR en T wd f n (acc++[(f p).1]) (f p).2 else (acc,p)
def Ll {α:Type} (en:Int) (wd:List UInt8) (P:List Tok->PR α):Nat->List α->List Tok->PR (List α)
 | 0,_,_=>.bad 0 0
 | f+1,acc,l=>if ((ZL en l).text.toList==wd)=true then (P l).bind λv l=>Ll en wd P f (acc++[v]) l else .ok acc l
theorem qJ (en:Int):∀(f:Nat) (acc:List MVar) (l:List Tok),MH en f acc l=Ll en [118,97,114] (PX en) f acc l
 | 0,_,_=>rfl
 | f+1,acc,l=>by
   unfold MH Ll;simp only[qJ en f]
theorem gF (en:Int) (nm:List ByteArray):∀(f:Nat) (acc:List MCon) (l:List Tok),Oy en nm f acc l=Ll en [99,111,110] (conP en nm) f acc l
 | 0,_,_=>rfl
 | f+1,acc,l=>by
   unfold Oy Ll;simp only[gF en nm f]
theorem gE {α:Type} (en:Int) (T:List Tok) (wd:List UInt8) (hw:(ByteArray.empty.toList==wd)=false) (f:RP->α×RP) (n:Nat) (acc:List α) (p:RP) (hp:p.er≠0):rowR en T wd f n acc p=(acc,p):=by
 cases n with
 | zero=>rfl
 | succ n=>unfold rowR;rw[Mz en T p hp,if_neg (by rw[hw];simp)]
def RDL {α:Type} (D:Prop) (xs ys:List α):Prop:=(D->xs=ys)/\xs.length=ys.length
theorem gD {α:Type} {en:Int} {T:List Tok} {D:Prop} (wd:List UInt8) (hw:(ByteArray.empty.toList==wd)=false) {f:RP->α×RP} {P:List Tok->PR α} (hf:Same en T (RD D) f P) (hE:∀l x r,((ZL en l).text.toList==wd)=true->P l=.ok x r->r.length<l.length) :
 ∀(n:Nat) (p:RP) (acc acc':List α) (fu gu:Nat),p.er=0->p.k<=T.length->(T.drop p.k).length<=n->n+1<=fu->n+1<=gu->(D->acc=acc')/\acc.length=acc'.length ->
  zD0 en T (RDL D) (rowR en T wd f fu acc p) (Ll en wd P gu acc' (T.drop p.k)):=by
 intro n
 induction n with
 | zero =>
   intro p acc acc' fu gu hp hk hl qQ qP ha;obtain⟨g,rfl⟩:∃g,gu=g+1:=⟨gu - 1,by omega⟩
   obtain⟨f0,rfl⟩:∃f0,fu=f0+1:=⟨fu - 1,by omega⟩
   have h0:T.drop p.k=[]:=Xf (by omega)
   unfold rowR Ll;rw[O9 en T p hp,h0];have e:((ZL en []).text.toList==wd)=false:=hw;rw[e,if_neg (by simp),if_neg (by simp)]
   exact⟨hp,h0,hk,ha⟩
 | succ n ih =>
   intro p acc acc' fu gu hp hk hl qQ qP ha;obtain⟨g,rfl⟩:∃g,gu=g+1:=⟨gu - 1,by omega⟩
   obtain⟨f0,rfl⟩:∃f0,fu=f0+1:=⟨fu - 1,by omega⟩
   unfold rowR Ll;rw[O9 en T p hp];cases hq:((ZL en (T.drop p.k)).text.toList==wd)
   ·rw[if_neg (by simp),if_neg (by simp)]
    exact⟨hp,rfl,hk,ha⟩
   rw[if_pos rfl,if_pos rfl];have h2:=hf.same p hp hk;cases hP:P (T.drop p.k) with
   | ok x l =>
     rw[hP] at h2;obtain⟨b1,b2,b3,b4⟩:=h2;have Yn:=hE _ x l hq hP;have:=ih (f p).2 (acc++[(f p).1]) (acc'++[x]) f0 g b1 b3 (by rw[b2];omega) (by omega) (by omega) ⟨λhD=>by rw[ha.1 hD,b4 hD],by simp[ha.2]⟩
     rw[b2] at this;exact this
   | bad pl e =>
     rw[hP] at h2;obtain⟨b1,b2,b3,b4⟩:=h2;rw[gE en T wd hw f _ _ _ (by rw[b1];exact b2)]
     exact⟨b1,b2,b3,b4⟩
def NF (en:Int) (T:List Tok) (nm:List ByteArray) (g:Int) (p:RP):(Int×Int)×RP :=
 if p.er=0/\g≠0 then ((g,(vR en T nm p).1),Y5 en T YV (vR en T nm p).2) else ((g,0),Y5 en T YV p)
def Tf (en:Int) (T:List Tok) (nm:List ByteArray) (p:RP):(Int×Int)×RP :=
 NF en T nm (YP en T (Y5 en T Oz p) SY 0).1 (YP en T (Y5 en T Oz p) SY 0).2
theorem zOy:∀s∈SY,(ByteArray.empty.toList==s.toList)=false:=by
 intro s hs;simp only[SY,YJ,Tx,or_false] at hs;rcases hs with rfl | rfl | rfl <;> decide +kernel
theorem zTY (en:Int) (T:List Tok) (hT:PP T) (nm:List ByteArray) (hn:∀n∈nm,∀s:ByteArray,n.data.toList=s.data.toList->WZ s=true):Same en T (RD (UF nm)) (Tf en T nm) (J_ en nm):=by
 have ZZ:∀g,zKG (NF en T nm g):=λg p hp=>by
  unfold NF;rw[if_neg (λh=>hp h.1)]
  exact MA en T YV p hp
 refine JR Oz (by decide +kernel) (g:=λp=>NF en T nm (YP en T p SY 0).1 (YP en T p SY 0).2) ((zTU en T hT SY zOy).bind (g:=NF en T nm)
  (Q:=λg l=>if g=0 then (Zv en YV l).bind λ_ l=>.ok (g,0) l else (X7 en nm l).bind λv l=>(Zv en YV l).bind λ_ l=>.ok (g,v) l) ZZ (λx y Rs p hp hk=>?_))
 rw[Rs];unfold NF;by_cases h0:y=0
 ·rw[if_neg (λh=>h.2 h0),if_pos h0]
  exact (JR YV (by decide +kernel) (g:=λp=>((y,(0:Int)),p)) (Q:=λl=>.ok (y,0) l) (Same.pure (R:=RD (UF nm)) (λ_=>rfl))).same p hp hk
 rw[if_pos ⟨hp,h0⟩,if_neg h0];have h1:∀v v':Int,RD (UF nm) v v'->Same en T (RD (UF nm)) (λp=>((y,v),Y5 en T YV p)) (λl=>(Zv en YV l).bind λ_ l=>.ok (y,v') l):=λv v' hv =>
  JR YV (by decide +kernel) (g:=λp=>((y,v),p)) (Q:=λl=>.ok (y,v') l) (Same.pure (R:=RD (UF nm)) (λhD=>by rw[hv hD]))
 exact ((qR en T nm hn).bindS (S:=RD (UF nm)) (g:=λv p=>((y,v),Y5 en T YV p)) (Q:=λv l=>(Zv en YV l).bind λ_ l=>.ok (y,v) l) (λv p hp=>MA en T YV p hp) h1).same p hp hk
theorem Uv {α β:Type} {P:List Tok->PR α} {Q:α->List Tok->PR β} (hP:Eats P) (hQ:∀x,Eats (Q x)):Eats (λl=>(P l).bind Q):=λl x r h=>by
 obtain⟨a,q,h1,h2⟩:=PR.bind_ok h;exact ZT (hQ a q x r h2) (hP l a q h1)
theorem Mj {α:Type} (y:α):Eats (λl=>.ok y l):=λl x r h=>by cases h;exact Z2 _
theorem zWd (en:Int):Eats (OA en):=kt en (λl=>Pf (ZL en l).text) (λt _=>t.text)
theorem gC {α:Type} (en:Int) (s:ByteArray) (hs:(ByteArray.empty.toList==s.toList)=false) (Q:List Tok->PR α) (hQ:Eats Q) (l:List Tok) (x:α) (r:List Tok) (h:((Zv en s l).bind λ_ l=>Q l)=.ok x r):r.length<l.length:=by
 obtain⟨t,q,h1,h2⟩:=PR.bind_ok h;have h3:=hQ q x r h2;have h4:=IW en l _ t q h1;have h5:l≠[]:=by
  intro he;subst he;unfold Zv WU at h1;rw[show ((ZL en []).text.toList==s.toList)=false from hs,if_neg (by simp)] at h1
  cases h1
 cases l with
 | nil=>exact absurd rfl h5
 | cons a l=>rw[h4] at h3;simp at h3 ⊢;omega
theorem zOz (en:Int) (l:List Tok) (x:MVar) (r:List Tok) (h:PX en l=.ok x r):r.length<l.length :=
 gC en varW (by decide +kernel) _ (Uv (zWd en) λ_=>Uv (Ka en _) λ_=>Uv (NR en) λ_=>Uv (Ka en _) λ_=>Uv (NR en) λ_=>Uv (Ka en _) λ_=>Mj _) l x r h
theorem zRO (en:Int) (nm:List ByteArray) (k:Int):Eats (Wn en nm k):=by
 have hK:=NR en;have hV:=Gj en nm;have Fw:=Lx en _ hK;have JS:=Lx en _ hV;have hL:=B0 en nm;unfold Wn;by_cases h1:k=1∨k=2∨k=3
 ·simp only[if_pos h1];exact Uv Fw λ_=>Uv JS λ_=>Uv hK λ_=>Mj _
 simp only[if_neg h1];by_cases h4:k=4
 ·simp only[if_pos h4];exact Uv JS λ_=>Mj _
 simp only[if_neg h4];by_cases h5:k=5
 ·simp only[if_pos h5];exact Uv Fw λ_=>Uv hV λ_=>Uv hV λ_=>Mj _
 simp only[if_neg h5];by_cases h6:k=6
 ·simp only[if_pos h6];exact Uv JS λ_=>Uv (Lx en _ Fw) λ_=>Mj _
 simp only[if_neg h6];by_cases h7:k=7
 ·simp only[if_pos h7];exact Uv hV λ_=>Uv hV λ_=>Uv hV λ_=>Mj _
 simp only[if_neg h7];by_cases h8:k=8
 ·simp only[if_pos h8];exact Uv hV λ_=>Uv JS λ_=>Mj _
 simp only[if_neg h8];by_cases h9:k=9
 ·simp only[if_pos h9];exact Uv (Lx en _ hL) λ_=>Mj _
 simp only[if_neg h9];by_cases Up:k=10
 ·simp only[if_pos Up];exact Uv hV λ_=>Uv hL λ_=>Mj _
 simp only[if_neg Up];exact Mj _
theorem zVM (en:Int) (nm:List ByteArray) (l:List Tok) (x:MCon) (r:List Tok) (h:conP en nm l=.ok x r):r.length<l.length :=
 gC en conW (by decide +kernel) _ (Uv (sL en WF) λk=>Uv (zRO en nm k) λ_=>Uv (Ka en _) λ_=>Mj _) l x r h
def Ok (en:Int) (T:List Tok) (nm:List ByteArray) (p:RP):MCon×RP:=((conR en T nm (Y5 en T conW p)).1,Y5 en T YV (conR en T nm (Y5 en T conW p)).2)
theorem zNb (en:Int) (T:List Tok) (hT:PP T) (nm:List ByteArray) (hn:∀n∈nm,∀s:ByteArray,n.data.toList=s.data.toList->WZ s=true):Same en T (RD (UF nm)) (Ok en T nm) (conP en nm):=by
 have h1:∀c c':MCon,RD (UF nm) c c'->Same en T (RD (UF nm)) (λp=>(c,Y5 en T YV p)) (λl=>(Zv en YV l).bind λ_ l=>.ok c' l):=λc c' hc =>
  JR YV (by decide +kernel) (g:=λp=>(c,p)) (Q:=λl=>.ok c' l) (Same.pure hc)
 have h2:Same en T (RD (UF nm)) (λp=>((conR en T nm p).1,Y5 en T YV (conR en T nm p).2)) (λl=>((VJ en WF l).bind λk l=>Wn en nm k l).bind λc l=>(Zv en YV l).bind λ_ l=>.ok c l) :=
  (zVK en T hT nm hn).bindS (S:=RD (UF nm)) (g:=λc p=>(c,Y5 en T YV p)) (Q:=λc l=>(Zv en YV l).bind λ_ l=>.ok c l) (λc p hp=>MA en T YV p hp) h1
 have h3:=JR conW (by decide +kernel) h2
 refine⟨h3.still,λp hp hk=>?_⟩
 have h4:=h3.same p hp hk;unfold conP;have e:∀l:List Tok,((Zv en conW l).bind λ_ l=>((VJ en WF l).bind λk l=>Wn en nm k l).bind λc l=>(Zv en YV l).bind λ_ l=>.ok c l)=(Zv en conW l).bind λ_ l=>(VJ en WF l).bind λk l=>(Wn en nm k l).bind λc l=>(Zv en YV l).bind λ_ l=>.ok c l:=by
  intro l;cases Zv en conW l with
  | bad x e=>rfl
  | ok t r =>
    show ((VJ en WF r).bind λk l=>Wn en nm k l).bind _=(VJ en WF r).bind _
    cases VJ en WF r <;> rfl
 rw[<-e];exact h4
theorem zTZ (a b:ByteArray) (h:a.data.toList=b.data.toList):a=b:=by
 cases a with
 | mk x=>cases b with
   | mk y =>
     have:x=y:=Array.toList_inj.1 h;rw[this]
theorem zO0 (en:Int) (l:List Tok) (x:MVar) (r:List Tok) (h:PX en l=.ok x r):WZ x.name=true:=by
 unfold PX at h;obtain⟨_,_,_,h⟩:=PR.bind_ok h;obtain⟨n,q,hn,h⟩:=PR.bind_ok h;obtain⟨_,_,_,h⟩:=PR.bind_ok h;obtain⟨_,_,_,h⟩:=PR.bind_ok h;obtain⟨_,_,_,h⟩:=PR.bind_ok h;obtain⟨_,_,_,h⟩:=PR.bind_ok h;obtain⟨_,_,_,h⟩:=PR.bind_ok h;cases h
 unfold OA at hn;obtain⟨t,q2,h1,h2⟩:=PR.bind_ok hn;unfold WU at h1
 split at h1
 ·rename_i hb
  cases h1
  cases h2
  rw[qS] at hb;exact hb
 cases h1
theorem gB (en:Int):∀(f:Nat) (acc:List MVar) (l:List Tok) (xs:List MVar) (r:List Tok),(∀v∈acc,WZ v.name=true)->Ll en [118,97,114] (PX en) f acc l=.ok xs r->∀v∈xs,WZ v.name=true
 | 0,_,_,_,_,_,h=>by cases h
 | f+1,acc,l,xs,r,ha,h=>by
   unfold Ll at h
   split at h
   ·obtain⟨v,q,h1,h2⟩:=PR.bind_ok h
    refine gB en f _ q xs r (λu hu=>?_) h2
    rcases Xn.1 hu with hu | hu
    ·exact ha u hu
    rw[Zh.1 hu];exact zO0 en l v q h1
   cases h;exact ha
def RZ (en:Int) (T:List Tok) (p:RP):Mod×RP :=
 let v:=rowR en T [118,97,114] (Ol en T) (T.length+2) [] p
 let c:=rowR en T [99,111,110] (Ok en T (v.1.map MVar.name)) (T.length+2) [] v.2
 let g:=Tf en T (v.1.map MVar.name) c.2
 (⟨v.1,c.1,g.1.1,g.1.2⟩,if g.2.k<T.length then XY 1 g.2 else g.2)
def RM (m m':Mod):Prop:=m.vars=m'.vars/\m.cons.length=m'.cons.length/\(UF (m'.vars.map MVar.name)->m=m')
theorem zRP (en:Int) (T:List Tok) (hT:PP T) (p:RP) (hp:p.er=0) (hk:p.k<=T.length):zD0 en T RM (RZ en T p) (Gi en (T.drop p.k)):=by
 unfold RZ Gi;have hv:=gD (D:=True) [118,97,114] (by decide +kernel) ((zOx en T hT).weak True) (λl x r _ h=>zOz en l x r h) (T.drop p.k).length p [] [] (T.length+2) ((T.drop p.k).length+1) hp hk (Z2 _) (by rw[RN];omega) (Z2 _) ⟨λ_=>rfl,rfl⟩
 rw[<-qJ] at hv;generalize hV:rowR en T [118,97,114] (Ol en T) (T.length+2) [] p=v at hv;obtain⟨vs,p1⟩:=v
 dsimp only
 cases hq:MH en ((T.drop p.k).length+1) [] (T.drop p.k) with
 | bad pl e =>
   rw[hq] at hv;obtain⟨b1,b2,b3,b4⟩:=hv
   dsimp only at b1 b3 b4
   have ZP:p1.er≠0:=by rw[b1];exact b2
   rw[gE en T [99,111,110] (by decide +kernel) _ _ _ p1 ZP]
   have hg:Tf en T (vs.map MVar.name) p1=((((Tf en T (vs.map MVar.name) p1).1)),p1):=by
    refine Prod.ext rfl ?_;show (Tf en T (vs.map MVar.name) p1).2=p1;unfold Tf NF;rw[MA en T Oz p1 ZP,Eg en T p1 ZP,if_neg (λh=>ZP h.1)]
    exact MA en T YV p1 ZP
   have PF:(if p1.k<T.length then XY 1 p1 else p1)=p1:=by split;exact J6 1 p1 ZP;rfl
   show _/\_/\_/\_
   dsimp only
   rw[hg]
   dsimp only
   rw[PF];exact⟨b1,b2,b3,b4⟩
 | ok xs l =>
   rw[hq] at hv;obtain⟨a1,a2,a3,a4,_⟩:=hv
   dsimp only at a1 a2 a3 a4
   obtain rfl:vs=xs:=a4 trivial;have Tq:∀n∈vs.map MVar.name,∀s:ByteArray,n.data.toList=s.data.toList->WZ s=true:=by
    intro n hn s hs;obtain⟨u,hu,rfl⟩:=Zj.1 hn;rw[<-zTZ _ _ hs];rw[qJ] at hq;exact gB en _ [] _ vs l (λ_ h=>by cases h) hq u hu
   show zD0 en T RM _ ((Oy en (vs.map MVar.name) (l.length+1) [] l).bind _);have hc:=gD [99,111,110] (by decide +kernel) (zNb en T hT (vs.map MVar.name) Tq) (λl x r _ h=>zVM en _ l x r h) l.length p1 [] [] (T.length+2) (l.length+1) a1 a3 (by rw[a2];exact Z2 _) (by rw[<-a2,RN];omega) (Z2 _) ⟨λ_=>rfl,rfl⟩
   rw[<-gF,a2] at hc;generalize hC:rowR en T [99,111,110] (Ok en T (vs.map MVar.name)) (T.length+2) [] p1=c at hc;obtain⟨cs,p2⟩:=c
   dsimp only
   cases YA:Oy en (vs.map MVar.name) (l.length+1) [] l with
   | bad pl e =>
     rw[YA] at hc;obtain⟨b1,b2,b3,b4⟩:=hc
     dsimp only at b1 b3 b4
     have ZP:p2.er≠0:=by rw[b1];exact b2
     have hg:Tf en T (vs.map MVar.name) p2=((((Tf en T (vs.map MVar.name) p2).1)),p2):=by
      refine Prod.ext rfl ?_;show (Tf en T (vs.map MVar.name) p2).2=p2;unfold Tf NF;rw[MA en T Oz p2 ZP,Eg en T p2 ZP,if_neg (λh=>ZP h.1)]
      exact MA en T YV p2 ZP
     have PF:(if p2.k<T.length then XY 1 p2 else p2)=p2:=by split;exact J6 1 p2 ZP;rfl
     show _/\_/\_/\_
     dsimp only
     rw[hg]
     dsimp only
     rw[PF];exact⟨b1,b2,b3,b4⟩
   | ok ys l2 =>
     rw[YA] at hc;obtain⟨c1,c2,c3,c4,c5⟩:=hc
     dsimp only at c1 c2 c3 c4 c5
     show zD0 en T RM _ ((J_ en (vs.map MVar.name) l2).bind _);have hg:=(zTY en T hT (vs.map MVar.name) Tq).same p2 c1 c3;rw[c2] at hg;generalize hG:Tf en T (vs.map MVar.name) p2=g at hg;obtain⟨gv,p3⟩:=g
     dsimp only
     cases LW:J_ en (vs.map MVar.name) l2 with
     | bad pl e =>
       rw[LW] at hg;obtain⟨b1,b2,b3,b4⟩:=hg
       dsimp only at b1 b3 b4
       have ZP:p3.er≠0:=by rw[b1];exact b2
       have PF:(if p3.k<T.length then XY 1 p3 else p3)=p3:=by split;exact J6 1 p3 ZP;rfl
       show _/\_/\_/\_
       dsimp only
       rw[PF];exact⟨b1,b2,b3,b4⟩
     | ok gw l3 =>
       rw[LW] at hg;obtain⟨d1,d2,d3,d4⟩:=hg
       dsimp only at d1 d2 d3 d4
       show zD0 en T RM _ (if 0<l3.length then _ else _)
       by_cases hl:0<l3.length
       ·have Z7:p3.k<T.length:=by rw[<-d2,RN] at hl;omega
        rw[if_pos hl,if_pos Z7];have e:XY 1 p3=⟨p3.k,1⟩:=by unfold XY;rw[if_pos d1]
        rw[e];exact⟨rfl,by omega,by rw[<-d2],d3⟩
       have Z7:¬p3.k<T.length:=by rw[<-d2,RN] at hl;omega
       rw[if_neg hl,if_neg Z7];exact⟨d1,d2,d3,rfl,c5,λhA=>by rw[c4 hA,d4 hA]⟩
theorem zVN (vs:List MVar) (h:JH vs=0):UF (vs.map MVar.name):=by
 unfold UF;rw[List.pairwise_map,List.pairwise_iff_getElem];intro i j hi hj Ky he;have h1:=Im _ h (varE (vs.take j) vs[j]) (Zj.2 ⟨j,W6.2 hj,by rw[ZO,ZA hj];rfl⟩)
 unfold varE at h1;have qI:(vs.take j).any (λu=>u.name.toList==vs[j].name.toList)=true:=by
  refine Yh.2 ⟨vs[i],?_,(qV _ _).2 he⟩;exact List.mem_take_iff_getElem.2 ⟨i,by omega,rfl⟩
 rw[qI] at h1
 split at h1
 ·rw[if_pos rfl] at h1;cases h1
 cases h1
theorem zO1 (m m':Mod) (h:RM m m'):Zs m=Zs m'/\(Zs m'=0->m=m'):=by
 obtain⟨h1,h2,h3⟩:=h;by_cases hv:JH m'.vars=0
 ·have he:=h3 (zVN _ hv)
  exact⟨by rw[he],λ_=>he⟩
 have e:Zs m=Zs m':=by
  unfold Zs;rw[h1,h2,if_neg hv,if_neg hv]
 refine⟨e,λh0=>absurd (RH m' h0).2.2.2.1 hv⟩
theorem zTa (s:ByteArray) (j:Nat) (hj:j<s.size) (he:XT (YT s j).kind (YT s j).text=0):(YT s j).kind≠0/\((YT s j).text.toList==ByteArray.empty.toList)=false/\((YT s j).kind=2↔dig0 (YT s j).text=true):=by
 have P9:=D0 s j he;have T3:j<s.data.toList.length:=by rw[T7];exact hj
 have IK:=D1 _ _ T3 P9;have ht:YT s j=⟨XJ s.data.toList j,j,s.extract j (XZ s.data.toList j)⟩:=by unfold YT;rw[if_neg P9]
 have hx:(s.extract j (XZ s.data.toList j)).data.toList=U5 s.data.toList j :: (s.data.toList.drop (j+1)).take (XZ s.data.toList j - j - 1):=by
  rw[ib,Yc T3,K8 _ _ T3];obtain⟨n,hn⟩:∃n,XZ s.data.toList j - j=n+1:=⟨XZ s.data.toList j - j - 1,by omega⟩
  rw[hn,Ld];simp
 rw[ht];refine⟨by simp only;omega,?_,?_⟩
 ·show ((s.extract j (XZ s.data.toList j)).toList==ByteArray.empty.toList)=false
  rw[ByteArray.toList_eq,hx];cases h:(U5 s.data.toList j :: (s.data.toList.drop (j+1)).take (XZ s.data.toList j - j - 1)==ByteArray.empty.toList)
  ·rfl
  have:=beq_iff_eq.1 h;rw[ByteArray.toList_eq] at this;cases this
 have hd:dig0 (s.extract j (XZ s.data.toList j))=isD (U5 s.data.toList j):=by unfold dig0;rw[hx]
 show ((XJ s.data.toList j:Nat):Int)=2↔dig0 (s.extract j (XZ s.data.toList j))=true;rw[hd];unfold XJ
 constructor
 ·intro h
  split at h
  ·simp at h
  split at h
  ·assumption
  split at h <;> simp at h
 intro h;have hL:isL (U5 s.data.toList j)=false:=by
  cases hq:isL (U5 s.data.toList j)
  ·rfl
  unfold isL at hq;unfold isD at h;simp at hq h;omega
 rw[hL,h];rfl
theorem zO2 (s:ByteArray):∀(f k:Nat) (acc:List Tok),PP acc->PP (Ut f s k acc).1:=by
 intro f
 induction f with
 | zero=>intro k acc h;exact h
 | succ f ih =>
   intro k acc h;by_cases h4:YG false s.data.toList k<s.size
   ·by_cases h5:XT (YT s (YG false s.data.toList k)).kind (YT s (YG false s.data.toList k)).text=0
    ·rw[Md f s k _ acc rfl h4 h5]
     refine ih _ _ (λt ht=>?_)
     rcases Xn.1 ht with ht | ht
     ·exact h t ht
     rw[Zh.1 ht];exact zTa s _ h4 h5
    rw[K7 f s k _ acc rfl h4 h5];exact λt ht=>by cases ht
   rw[Is _ s k acc h4];exact h
theorem gA (s:ByteArray):PP (YR s).1:=by
 unfold YR
 split
 ·exact λt ht=>by cases ht
 exact zO2 s _ _ _ (λt ht=>by cases ht)
open Go.RowKit
theorem zTb (s:ByteArray) (hs:s.size<=maxLen) (w:World) :
 Calls prog 45 #[.string s] w λe w'=>∃v,e=.returned (.tuple #[v,.int .i64 (YR s).2.1,.int .i64 (YR s).2.2]) /\
  w'.ownsRow w.heap.size 161 3 v (YR s).1.length (T8 (YR s).1)/\Bw w w':=by
 by_cases h4:s.size<=4000
 ·exact zS1 s h4 w
 have e:YR s=([],0,2):=by unfold YR;rw[if_pos (by omega)]
 rw[e];unfold maxLen at hs;have h5:4000<s.size:=by omega
 clear h4 e;go_enter func45,ntmps45
 go_wp2
 refine bodyPost_ret (by simp[results,results45,go_sem, *];try rfl) rfl ?_
 exact⟨.slice none 0 0,rfl,ZH _ _ _ _,Z6 _ _⟩
section
variable {c:RC} {p:RP} {w:World}
theorem RSt.field (h:RSt c p w) (c':RC) (hN:c'.N=c.N) (hR:c'.R=c.R) (hT:c'.T=c.T) (i:Nat) (u:Value) (IU:c'.NB<=w.heap.size)
 (Wx:∀v,(#[v,.int .i64 p.k,.int .i64 c.en,.int .i64 p.er,c.vv,c.vc,.int .i64 c.g,.int .i64 c.x]:Array Value).setIfInBounds i u=#[v,.int .i64 p.k,.int .i64 c'.en,.int .i64 p.er,c'.vv,c'.vc,.int .i64 c'.g,.int .i64 c'.x])
 (Tq:NArg c'.R c'.NB (w.setCell ⟨c.R,i,none⟩ u) c'.vv c'.nm):RSt c' p (w.setCell ⟨c.R,i,none⟩ u):=by
 obtain⟨h1,h2,hn,h3,hd,h4,v,hb,hTA⟩:=h;refine⟨by rw[hN,hR];exact h1,by rw[hN];simpa using h2,by simpa using IU,by rw[hT];exact h3,by rw[hT];exact hd,Tq,v,?_,?_⟩
 ·rw[hR,heap_setCell_same w c.R i _ _ _ hb,Wx v]
 rw[hN,hT];exact hTA.old λq hq=>WD (Below.heap_setCell _ _ _ _ (by show q.block≠c.R;omega))
theorem RSt.setVc (h:RSt c p w) (u:Value):RSt { c with vc:=u } p (w.setCell ⟨c.R,5,none⟩ u) :=
 h.field { c with vc:=u } rfl rfl rfl 5 u h.nb (λ_=>rfl) (h.nms.fr h.nb (NO _ _ _ _))
theorem RSt.setG (h:RSt c p w) (n:Int):RSt { c with g:=n } p (w.setCell ⟨c.R,6,none⟩ (.int .i64 n)) :=
 h.field { c with g:=n } rfl rfl rfl 6 _ h.nb (λ_=>rfl) (h.nms.fr h.nb (NO _ _ _ _))
theorem RSt.setX (h:RSt c p w) (n:Int):RSt { c with x:=n } p (w.setCell ⟨c.R,7,none⟩ (.int .i64 n)) :=
 h.field { c with x:=n } rfl rfl rfl 7 _ h.nb (λ_=>rfl) (h.nms.fr h.nb (NO _ _ _ _))
theorem RSt.setVv (h:RSt c p w) {B:Nat} {o:Value} {vars:List MVar} (ho:w.ownsRow B 67 3 o vars.length (vars.flatMap varC)):RSt { c with vv:=o,nm:=vars.map MVar.name,NB:=w.heap.size } p (w.setCell ⟨c.R,4,none⟩ o):=by
 obtain⟨v9,U6,_⟩:=h.blk;refine h.field { c with vv:=o,nm:=vars.map MVar.name,NB:=w.heap.size } rfl rfl rfl 4 _ (Z2 _) (λv=>rfl) ?_
 obtain⟨a,cc,hv,K3,hr⟩:=FK (V_ ho U6 (by decide) 4 o)
 refine⟨a,cc,by simpa using hv,by simpa using K3,λi t ht=>?_⟩
 simp only[YN,QB] at ht;obtain⟨z,hz,rfl⟩:=ht;have hi:i<vars.length:=(ZN.1 hz).1;obtain⟨g,ha,hg,hc⟩:=hr i hi;have hf:=A9 varC 3 (λ_=>rfl) vars i
 refine⟨g,0,ha,?_,by simpa using hg,by rw[Zn,hc _ (by omega)];exact hf 0 z hz (by omega)⟩
 intro e;have Z7:=(V_ ho U6 (by decide) 4 o)
 rcases Z7.2 with ⟨e1,e2⟩ | ⟨g',cap',cur',UC,_,hh,_⟩
 ·omega
 rw[UC] at hv
 injection hv with e3
 rw[ha] at e3;have e4:g'=g:=by injection e3 with e5;injection e5
 rw[e4,e,heap_setCell_same w c.R 4 _ _ _ U6] at hh
 injection hh with h1
 injection h1 with _ h2
 exact absurd h2 (by decide)
end
theorem zTc {w:World} {B:Nat} {e:TypeId} {size n:Nat} {v:Value} {xs:List Value} (h:w.ownsRow B e size v n xs) {C:Nat} (hC:v.ownBlock≠some C) (i:Nat) (u:Value):(w.setCell ⟨C,i,none⟩ u).ownsRow B e size v n xs:=by
 refine⟨h.1,?_⟩;rcases h.2 with hn | ⟨g,cap,cur,hv,hg,hh,r⟩
 ·exact .inl hn
 have ZP:g≠C:=λe1=>hC (by rw[hv,e1];rfl)
 exact .inr ⟨g,cap,cur,hv,hg,(Below.heap_setCell _ _ _ _ ZP).trans hh,r⟩
structure VB (c:RC) (W w:World) (p:RP) (b:Nat) (nm:ByteArray) (lo hi:Int) (o:Value) (acc:List MVar):Prop where
 st:RSt c p w
 fr:Fr (XR9 c.R) W w
 box:w.heap[b]? = some (.cells #[.string nm,.int .i64 lo,.int .i64 hi] 67)
 bW:W.heap.size<=b
 Rw:c.R<W.heap.size
 Nw:c.N<=W.heap.size
 NBw:c.NB<=W.heap.size
 own:w.ownsRow W.heap.size 67 3 o acc.length (acc.flatMap varC)
 ap:o.ownBlock≠some b
section
variable {c:RC} {W w w':World} {p p':RP} {b:Nat} {nm:ByteArray} {lo hi:Int} {o:Value} {acc:List MVar}
theorem VB.call (h:VB c W w p b nm lo hi o acc) (hf:Fr (XR9 c.R) w w') (ZZ:RSt c p' w'):VB c W w' p' b nm lo hi o acc :=
 ⟨ZZ,h.fr.trans hf,(hf.block _ (Z8.1 h.box).1 (by have h1:=h.Rw;have h2:=h.bW;show ¬_=_;omega)).trans h.box,h.bW,h.Rw,h.Nw,h.NBw,TE h.own hf (λj hj=>by have h1:j=c.R:=hj;rw[h1];exact h.Rw),h.ap⟩
theorem VB.below (h:VB c W w p b nm lo hi o acc) (hb:Bw w w'):VB c W w' p b nm lo hi o acc:=h.call (Fr.below hb) (h.st.below hb)
theorem VB.put (h:VB c W w p b nm lo hi o acc) (i:Nat) (u:Value) (lo' E8:Int) (Wx:(#[.string nm,.int .i64 lo,.int .i64 hi]:Array Value).setIfInBounds i u=#[.string nm,.int .i64 lo',.int .i64 E8]):VB c W (w.setCell ⟨b,i,none⟩ u) p b nm lo' E8 o acc where
 st:=h.st.set (q:=⟨b,i,none⟩) (by have h1:=h.Rw;have h2:=h.bW;show b≠c.R;omega) (by have h1:=h.Nw;have h2:=h.bW;show c.N<=b;omega) (by have h1:=h.NBw;have h2:=h.bW;show c.NB<=b;omega) u
 fr:=h.fr.setNew (p:=⟨b,i,none⟩) h.bW u
 box:=by rw[heap_setCell_same w _ i _ _ _ h.box,Wx]
 bW:=h.bW
 Rw:=h.Rw
 Nw:=h.Nw
 NBw:=h.NBw
 own:=zTc h.own h.ap i u
 ap:=h.ap
theorem VB.setLo (h:VB c W w p b nm lo hi o acc) (n:Int):VB c W (w.setCell ⟨b,1,none⟩ (.int .i64 n)) p b nm n hi o acc:=h.put 1 _ n hi rfl
theorem VB.setHi (h:VB c W w p b nm lo hi o acc) (n:Int):VB c W (w.setCell ⟨b,2,none⟩ (.int .i64 n)) p b nm lo n o acc:=h.put 2 _ lo n rfl
theorem VB.step (h:VB c W w p b nm lo hi o acc) (hk:p.k+1<=c.T.length):VB c W (w.setCell ⟨c.R,1,none⟩ (.int .i64 ((p.k+1:Nat):Int))) ⟨p.k+1,p.er⟩ b nm lo hi o acc :=
 h.call (NO _ _ _ _) (h.st.setAt (p.k+1) hk)
end
end Go.Proofs.YtndcpnlaadikoaaGreatDoor
