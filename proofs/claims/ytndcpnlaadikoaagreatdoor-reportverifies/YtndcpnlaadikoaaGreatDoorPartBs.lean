/- What the proof leans on, part 45. -/
import Derived.Test.YtndcpnlaadikoaaGreatDoorPartBr
set_option maxRecDepth 100000
set_option maxHeartbeats 4000000
open Go.Proofs.Tryz
namespace Go.Proofs.YtndcpnlaadikoaaGreatDoor
open Go.RowKit
def QD (s:ByteArray):Mod×Int×Int :=
 if (YR s).2.2=0 then
  if (RZ s.size (YR s).1 ⟨0,0⟩).2.er=0 then
   if Q4 (RZ s.size (YR s).1 ⟨0,0⟩).1=0 then ((RZ s.size (YR s).1 ⟨0,0⟩).1,0,0) else (TB,0,Q4 (RZ s.size (YR s).1 ⟨0,0⟩).1)
  else (TB,(ZL s.size ((YR s).1.drop (RZ s.size (YR s).1 ⟨0,0⟩).2.k)).place,(RZ s.size (YR s).1 ⟨0,0⟩).2.er)
 else (TB,(YR s).2.1,(YR s).2.2)
theorem zTd {s:ByteArray} {ts:List Tok} {a:Nat} {m:Mod} {p:RP} (hs:YR s=(ts,a,0)) (hr:RZ s.size ts ⟨0,0⟩=(m,p)) (hp:p.er=0) (hc:Q4 m=0):QD s=(m,0,0):=by
 unfold QD;simp[hs,hr,hp,hc]
theorem zNd {s:ByteArray} {ts:List Tok} {a:Nat} {m:Mod} {p:RP} (hs:YR s=(ts,a,0)) (hr:RZ s.size ts ⟨0,0⟩=(m,p)) (hp:p.er=0) (hc:¬Q4 m=0):QD s=(TB,0,Q4 m):=by
 unfold QD;simp[hs,hr,hp,hc]
theorem zO3 {s:ByteArray} {ts:List Tok} {a:Nat} {m:Mod} {p:RP} (hs:YR s=(ts,a,0)) (hr:RZ s.size ts ⟨0,0⟩=(m,p)) (hp:¬p.er=0):QD s=(TB,(ZL s.size (ts.drop p.k)).place,p.er):=by
 unfold QD;simp[hs,hr,hp]
theorem zO4 {s:ByteArray} {ts:List Tok} {a:Nat} {e:Int} (hs:YR s=(ts,a,e)) (he:¬e=0):QD s=(TB,(a:Int),e):=by
 unfold QD;simp[hs,he]
theorem gy (en:Int) (T:List Tok) (p:RP) (wd:List UInt8) (hw:(ByteArray.empty.toList==wd)=false) (h:((txR en T p).toList==wd)=true):p.er=0:=by
 apply Xz;intro he;rw[Mz en T p he,hw] at h;cases h
theorem zTe (en:Int) (T:List Tok):IC (Lm en T):=λp=>by
 unfold Lm
 dsimp only
 split
 ·show p.k<=p.k+1;omega
 rw[Ea];exact Z2 _
theorem zVO (en:Int) (T:List Tok) (p:RP) (h:((txR en T p).toList==[118,97,114])=true):p.k+1<=(Ol en T p).2.k:=by
 have he:=gy en T p _ (by decide +kernel) h
 have h1:(Y5 en T varW p).k=p.k+1:=by
  unfold Y5;rw[if_pos he,if_pos (by rw[show varW.toList=[118,97,114] by unfold varW;rw[ByteArray.toList_eq]];exact h)]
  rfl
 rw[<-h1];unfold Ol;exact ZT (zTe en T _) (ZT (D_ en T _ _) (ZT (k_k en T _) (ZT (D_ en T _ _) (ZT (k_k en T _) (D_ en T _ _)))))
theorem gt {α:Type} (en:Int) (T:List Tok) (wd:List UInt8) (f:RP->α×RP) (n:Nat) (acc:List α) (p:RP) (h:((txR en T p).toList==wd)=true):rowR en T wd f (n+1) acc p=rowR en T wd f n (acc++[(f p).1]) (f p).2:=by
 conv=>lhs;unfold rowR
 rw[if_pos h]
theorem gr {α:Type} (en:Int) (T:List Tok) (wd:List UInt8) (f:RP->α×RP) (n:Nat) (acc:List α) (p:RP) (h:((txR en T p).toList==wd)=false):rowR en T wd f n acc p=(acc,p):=by
 cases n with
 | zero=>rfl
 | succ n=>unfold rowR;rw[if_neg (by rw[h];simp)]
theorem zWe (en:Int) (T:List Tok) (hT:∀t∈T,Ly t) (p:RP):(txR en T p).size<=4000:=by
 unfold txR
 split
 ·by_cases hk:p.k<T.length
  ·exact (hT _ (xT en T p.k hk)).1
  rw[A1 en T p.k hk];exact YI _
 exact YI _
theorem zWf (en:Int) (T:List Tok) (p:RP) (h:WZ (txR en T p)=true):p.k+1<=T.length/\p.er=0:=by
 have he:p.er=0:=by
  apply Xz;intro he;rw[Mz en T p he,F_] at h;cases h
 refine⟨?_,he⟩;have:=A2 en T p.k (λh0=>by rw[O9 en T p he,h0,F_] at h;cases h)
 omega
theorem LCr.setR {B:Nat} {w:World} {v:Value} {acc:List MCon} (h:LCr B w v acc) {C:Nat} {cs:Array Value} (hC:w.heap[C]? = some (.cells cs 90)) (i:Nat) (u:Value):LCr B (w.setCell ⟨C,i,Option.none⟩ u) v acc:=by
 obtain⟨cells,h1,h2⟩:=h;refine⟨cells,V_ h1 hC (by decide) i u,λj r hr=>?_⟩
 obtain⟨vv,vc,vr,vl,hc,ho⟩:=h2 j r hr;exact⟨vv,vc,vr,vl,hc,ho.set2 hC (by decide) (by decide) (by decide) i u⟩
theorem zW3 (en:Int) (T:List Tok) (nm:List ByteArray):IC (conR en T nm):=λp=>by
 have hw:=q8 en T p WF.tail 0;refine ZT hw ?_;unfold conR;generalize (YP en T p WF.tail 0).2=p1;generalize 1+(YP en T p WF.tail 0).1=k;have PG:=A0 (en:=en) (T:=T) (k_k en T);have U1:=A0 (en:=en) (T:=T) (v_k en T nm);unfold QY
 split
 ·exact ZT (PG p1) (ZT (U1 _) (k_k en T _))
 split
 ·exact U1 p1
 split
 ·exact ZT (PG p1) (ZT (v_k en T nm _) (v_k en T nm _))
 split
 ·exact ZT (U1 p1) (A0 PG _)
 split
 ·exact ZT (v_k en T nm p1) (ZT (v_k en T nm _) (v_k en T nm _))
 split
 ·exact ZT (v_k en T nm p1) (U1 _)
 split
 ·exact A0 (qZ en T nm) p1
 split
 ·exact ZT (v_k en T nm p1) (qZ en T nm _)
 exact Z2 _
theorem zTg (en:Int) (T:List Tok) (nm:List ByteArray) (p:RP) (h:((txR en T p).toList==[99,111,110])=true):p.k+1<=(Ok en T nm p).2.k:=by
 have he:=gy en T p _ (by decide +kernel) h
 have h1:(Y5 en T conW p).k=p.k+1:=by
  unfold Y5;rw[if_pos he,if_pos (by rw[show conW.toList=[99,111,110] by unfold conW;rw[ByteArray.toList_eq]];exact h)]
  rfl
 rw[<-h1];unfold Ok;exact ZT (zW3 en T nm _) (D_ en T _ _)
theorem LCr.mono {B B':Nat} {w:World} {v:Value} {acc:List MCon} (h:LCr B w v acc) (hb:B'<=B):LCr B' w v acc:=by
 obtain⟨cells,h2,h3⟩:=h;refine⟨cells,Ux h2 hb,λi c hc=>?_⟩
 obtain⟨vv,vc,vr,vl,XD,ho⟩:=h3 i c hc;exact⟨vv,vc,vr,vl,XD,ho.mono hb⟩
theorem zVP {B R:Nat} {w W w':World} (h:Below B w W) (hB:B<=W.heap.size) (hf:Fr (XR9 R) W w') (hR:B<=R):Below B w w' :=
 ⟨hf.os.trans h.os,hf.tape.trans h.tape,hf.output.trans h.output,ZT h.size hf.size,λk hk=>(hf.block k (by omega) (by show ¬k=R;omega)).trans (h.block k hk)⟩
theorem zO5:∀s∈SY,We s:=by
 intro s hs;simp only[SY,YJ,Tx,or_false] at hs;rcases hs with rfl | rfl | rfl <;> (unfold We;rw[ByteArray.toList_eq,ByteArray.toList_eq];rfl)
theorem zRQ (s:ByteArray) (hs:s.size<=maxLen) (w:World) :
 Calls prog 13 #[.string s] w λe w'=>∃vs cs,e=.returned (.tuple #[modV vs cs (QD s).1,.int .i64 (QD s).2.1,.int .i64 (QD s).2.2])/\ModR w.heap.size w' vs cs (QD s).1/\Bw w w':=by
 obtain⟨m0,x0,e0,hA⟩:∃m0 x0 e0,QD s=(m0,x0,e0):=⟨_,_,_,rfl⟩;have HA:=hI hA;rw[hA];simp only;clear hA;obtain⟨ts,at1,e1,XV⟩:∃ts at1 e1,YR s=(ts,at1,e1):=⟨_,_,_,rfl⟩;have TY:=hI XV;have Vp:Hid ((∀t∈ts,Ly t)/\ts.length<=4000):=by have h:=h_ s;rw[XV] at h;exact h
 have M2:Hid (PP ts):=by have h:=gA s;rw[XV] at h;exact h
 have BM:=hI hs;obtain⟨iV,rA,FQ,FP,FO⟩:=info_parts iq;obtain⟨iC,rz,FN,FM,FL⟩:=info_parts io;clear XV;unfold maxLen at hs;go_enter func13,ntmps13
 go_wp2_with fail
 have Ws:=Z4 w (.cells #[.slice none 0 0,.slice none 0 0,.int .i64 0,.int .i64 0] 25);have S0:(w.alloc (.cells #[.slice none 0 0,.slice none 0 0,.int .i64 0,.int .i64 0] 25)).heap[w.heap.size]? = some (.cells #[.slice none 0 0,.slice none 0 0,.int .i64 0,.int .i64 0] 25):=heap_alloc_new _ _;refine (zTb s BM.o _).mono ?_;rw[TY.o];rintro e w1 ⟨v1,rfl,Vg,Z5⟩;have N8:Hid (TArg w1.heap.size w1 v1 ts):=hJ Vg Vp.o.2 Vp.o.1;have ZU:Hid (Bw w w1):=Ws.trans (Z5.mono (by simp))
 have Xw:Hid (w1.heap[w.heap.size]? = some (.cells #[.slice none 0 0,.slice none 0 0,.int .i64 0,.int .i64 0] 25)):=(Z5.block _ (by simp)).trans S0
 obtain⟨av,cv,hv1⟩:=ZJ Vg;subst hv1;clear Vg Z5 Ws S0;by_cases PS:e1=0
 ·subst PS
  have Ey:Hid (RSt ⟨w1.heap.size,w1.heap.size,w1.heap.size,s.size,ts,[],.slice none 0 0,.slice none 0 0,0,0⟩ ⟨0,0⟩ (w1.alloc (.cells #[.slice av ts.length cv,.int .i64 0,.int .i64 s.size,.int .i64 0,.slice none 0 0,.slice none 0 0,.int .i64 0,.int .i64 0] 90))):=by
   refine⟨Z2 _,by simp,by simp,YI _,λt ht hd=>(M2.o t ht).2.2.2 hd,⟨none,0,rfl,⟨Z2 _,YI _⟩,λi t ht=>by simp at ht⟩,_,heap_alloc_new _ _,?_⟩
   exact N8.o.old λq hq=>(Z4 _ _).cell hq
  have XF:Hid ((w1.alloc (.cells #[.slice av ts.length cv,.int .i64 0,.int .i64 s.size,.int .i64 0,.slice none 0 0,.slice none 0 0,.int .i64 0,.int .i64 0] 90)).heap.size=w1.heap.size+1):=by show _=_;simp
  have ZI:Hid (Bw w1 (w1.alloc (.cells #[.slice av ts.length cv,.int .i64 0,.int .i64 s.size,.int .i64 0,.slice none 0 0,.slice none 0 0,.int .i64 0,.int .i64 0] 90))):=Z4 _ _;obtain⟨W2,KL⟩:∃W2,w1.alloc (.cells #[.slice av ts.length cv,.int .i64 0,.int .i64 s.size,.int .i64 0,.slice none 0 0,.slice none 0 0,.int .i64 0,.int .i64 0] 90)=W2:=⟨_,rfl⟩;rw[KL] at Ey XF ZI;have Cz:=hI KL;clear KL;obtain⟨V,hV⟩:∃V,rowR s.size ts [118,97,114] (Ol s.size ts) (ts.length+2) [] ⟨0,0⟩=V:=⟨_,rfl⟩;have HV:=hI hV;clear hV;obtain⟨R,M_⟩:∃R,w1.heap.size=R:=⟨_,rfl⟩;have VG:=hI M_;rw[M_] at Ey XF;clear M_;have y8:Hid ((⟨#[118,97,114]⟩:ByteArray).toList=[118,97,114]):=by show _=_;simp[go_sem]
  have yf:Hid ((⟨#[99,111,110]⟩:ByteArray).toList=[99,111,110]):=by show _=_;simp[go_sem]
  go_wp2_with fail
  rw[Cz.o,VG.o];clear Cz;have F':ts.length<=4000:=Vp.o.2;go_loopw [9] (λo wr=>∃(f:Nat) (acc:List MVar) (p:RP),Hid (rowR s.size ts [118,97,114] (Ol s.size ts) f acc p=V)/\Hid (RSt ⟨R,R,R,s.size,ts,[],.slice none 0 0,.slice none 0 0,0,0⟩ p wr)/\Hid (Fr (XR9 R) W2 wr)/\Hid (wr.ownsRow W2.heap.size 67 3 o acc.length (acc.flatMap varC))/\Hid (∀x∈acc,x.name.size<=maxLen)/\acc.length+f=ts.length+2/\ts.length+2<=f+p.k) (λo _=>ts.length+3 - FF o)
  case atStart=>exact⟨ts.length+2,[],⟨0,0⟩,HV,Ey,Fr.refl _ _,ZH _ _ _ _,λx hx=>by simp at hx,by simp,by simp⟩
  clear Ey;obtain⟨f,acc,p,HQ,HS,HF,HO,Gf,FE,qH⟩:=hrel;obtain⟨al,cl,hv⟩:=ZJ HO.o;subst hv;have J4:=HS.o.kT
  dsimp only at J4
  go_wp2_with fail
  refine (My _ p _ HS.o).mono ?_;rintro e w3 ⟨rfl,nd,V'⟩;have Ks:=PU V';have Zq:=hI (HS.o.below Ks);have Yw:Hid (Fr (XR9 R) W2 w3):=HF.o.trans (Fr.below Ks);have WL:Hid (w3.ownsRow W2.heap.size 67 3 (.slice al acc.length cl) acc.length (acc.flatMap varC)):=YZ HO.o Ks;clear Ks V' HS HF HO
  dsimp only
  cases hq:((txR s.size ts p).toList==[118,97,114])
  ·have R9:Hid (V=(acc,p)):=HQ.o.symm.trans (gr _ _ _ _ _ _ _ hq)
   have k4:w3.cell? ⟨R,4,none⟩=some (.slice none 0 0):=by obtain⟨v,hb,_⟩:=Zq.o.blk;exact Z_ hb 4 _ rfl
   have z4:w3.frozen? ⟨R,4,none⟩=false:=by obtain⟨v,hb,_⟩:=Zq.o.blk;exact Z0 hb 4
   have G3:=Zq.o.setVv WL.o;have xQ:Fr (XR9 R) W2 (w3.setCell ⟨R,4,none⟩ (.slice al acc.length cl)):=Yw.o.setX (p:=⟨R,4,none⟩) rfl _;have qG:(w3.setCell ⟨R,4,none⟩ (.slice al acc.length cl)).ownsRow W2.heap.size 67 3 (.slice al acc.length cl) acc.length (acc.flatMap varC):=by obtain⟨v,hb,_⟩:=Zq.o.blk;exact V_ WL.o hb (by decide) 4 _
   have D9:(w3.setCell ⟨R,4,none⟩ (.slice al acc.length cl)).heap.size=w3.heap.size:=by simp
   obtain⟨NB,Fv⟩:∃NB,w3.heap.size=NB:=⟨_,rfl⟩;obtain⟨names,Vv⟩:∃names,acc.map MVar.name=names:=⟨_,rfl⟩;have qF:=hI Vv;rw[Fv] at D9;rw[Vv,Fv] at G3;obtain⟨W3,qE⟩:∃W3,w3.setCell ⟨R,4,none⟩ (.slice al acc.length cl)=W3:=⟨_,rfl⟩;rw[qE] at G3 xQ qG D9;have yl:=hI qE;have X9:=hI G3;have UX:=hI xQ;have S_:=hI qG;have MF:=hI D9;have Wp:Hid (R<W2.heap.size):=by show _<_;rw[XF.o];omega
   have Oo:Hid (R<NB):=by have h1:=xQ.size;have h2:=Wp.o;rw[D9] at h1;show _<_;omega
   clear HQ Zq Yw WL G3 xQ qG D9 Fv Vv qE FE qH;go_wp2_with fail
   rw[yl.o];clear yl k4 z4 hq;obtain⟨K,hK⟩:∃K,rowR s.size ts [99,111,110] (Ok s.size ts names) (ts.length+2) [] p=K:=⟨_,rfl⟩;have HK:=hI hK;clear hK;have xP:Hid (RZ s.size ts ⟨0,0⟩=(⟨acc,K.1,(Tf s.size ts names K.2).1.1,(Tf s.size ts names K.2).1.2⟩,if (Tf s.size ts names K.2).2.k<ts.length then XY 1 (Tf s.size ts names K.2).2 else (Tf s.size ts names K.2).2)):=by
    show _=_;unfold RZ;rw[HV.o,R9.o]
    dsimp only
    rw[qF.o,HK.o]
   clear HV R9;go_loopw [] (λwr=>∃(f:Nat) (cons:List MCon) (p:RP) (vc:Value),Hid (rowR s.size ts [99,111,110] (Ok s.size ts names) f cons p=K)/\Hid (RSt ⟨R,NB,R,s.size,ts,names,.slice al acc.length cl,vc,0,0⟩ p wr)/\Hid (Fr (XR9 R) W3 wr)/\Hid (LCr W3.heap.size wr vc cons)/\cons.length+f=ts.length+2/\ts.length+2<=f+p.k) (λwr=>ts.length+3 - PO wr ⟨R,5,none⟩)
   case atStart=>exact⟨ts.length+2,[],p,_,HK,X9,Fr.refl _ _,LCr.none _ _,by simp,by omega⟩
   clear HK X9;obtain⟨f,cons,p,vc,HQ,HS,HF,HL,FE,qH⟩:=hrel;obtain⟨ac,cc,hv⟩:=HL.o.form;subst hv;have J4:=HS.o.kT
   dsimp only at J4
   have To:Hid (PO wr ⟨R,5,none⟩=cons.length):=by obtain⟨v,hb,_⟩:=HS.o.blk;show _=_;unfold PO;rw[Z_ hb 5 _ rfl];rfl
   go_wp2_with fail
   refine (My _ p _ HS.o).mono ?_;rintro e w4 ⟨rfl,nd,gq⟩;have P3:=PU gq;have X9:=hI (HS.o.below P3);have QJ:Hid (Fr (XR9 R) W3 w4):=HF.o.trans (Fr.below P3);have Op:Hid (LCr W3.heap.size w4 (.slice ac cons.length cc) cons):=HL.o.fr (X:=λ_=>False) (Fr.below P3) (λ_ h=>h.elim)
   clear P3 gq HS HF HL
   dsimp only
   cases hq:((txR s.size ts p).toList==[99,111,110])
   ·have KC:Hid (K=(cons,p)):=HQ.o.symm.trans (gr _ _ _ _ _ _ _ hq)
    rw[KC.o] at xP
    dsimp only at xP
    clear HQ KC To FE qH;go_wp2_with fail
    clear hq;refine (Ou _ p Oz iD _ X9.o).mono ?_;rintro e w5 ⟨rfl,ZZ,Z'⟩
    dsimp only at ZZ Z'
    obtain⟨p1,Vh⟩:∃p1,Y5 s.size ts Oz p=p1:=⟨_,rfl⟩;have Xt:=hI Vh;rw[Vh] at ZZ;have VM:=hI ZZ;have VA:=hI (QJ.o.trans Z');have LI:Hid (LCr W3.heap.size w5 (.slice ac cons.length cc) cons):=Op.o.fr Z' (λj hj=>by have h1:j=R:=hj;have h2:=Oo.o;rw[h1,MF.o];exact h2)
    clear ZZ Z' Vh X9 QJ Op;have QL:Hid (SArg (w5.alloc (.cells #[.string ⟨#[97,110,121]⟩,.string ⟨#[108,101,97,115,116]⟩,.string ⟨#[109,111,115,116]⟩] 9)) (.slice (some ⟨w5.heap.size,0,none⟩) 3 3) SY):=yA w5 SY _ rfl (by decide)
    have UZ:Hid (RSt ⟨R,NB,R,s.size,ts,names,.slice al acc.length cl,.slice ac cons.length cc,0,0⟩ p1 (w5.alloc (.cells #[.string ⟨#[97,110,121]⟩,.string ⟨#[108,101,97,115,116]⟩,.string ⟨#[109,111,115,116]⟩] 9))):=VM.o.below (Z4 _ _);go_wp2_with fail
    refine (sq _ p1 SY zO5 _ _ UZ.o QL.o).mono ?_;rintro e w6 ⟨rfl,ZZ,Z'⟩
    dsimp only at ZZ Z' ⊢
    obtain⟨q2,YA⟩:∃q2,YP s.size ts p1 SY 0=q2:=⟨_,rfl⟩;rw[YA] at ZZ ⊢;obtain⟨g,p2⟩:=q2;have HG:Hid (Tf s.size ts names p=NF s.size ts names g p2):=by show _=_;unfold Tf;rw[Xt.o,YA]
    dsimp only at ZZ ⊢
    have Iz:Fr (XR9 R) w5 w6:=(Fr.below (Z4 _ _)).trans Z';have gp:LCr W3.heap.size w6 (.slice ac cons.length cc) cons:=LI.o.fr Iz (λj hj=>by have h1:j=R:=hj;have h2:=Oo.o;rw[h1,MF.o];exact h2)
    have k6:w6.cell? ⟨R,6,none⟩=some (.int .i64 0):=by obtain⟨v,hb,_⟩:=ZZ.blk;exact Z_ hb 6 _ rfl
    have z6:w6.frozen? ⟨R,6,none⟩=false:=by obtain⟨v,hb,_⟩:=ZZ.blk;exact Z0 hb 6
    have k3:w6.cell? ⟨R,3,none⟩=some (.int .i64 p2.er):=by obtain⟨v,hb,_⟩:=ZZ.blk;exact Z_ hb 3 _ rfl
    have D7:Hid (RSt ⟨R,NB,R,s.size,ts,names,.slice al acc.length cl,.slice ac cons.length cc,g,0⟩ p2 (w6.setCell ⟨R,6,none⟩ (.int .i64 g))):=ZZ.setG g;have D6:Hid (Fr (XR9 R) W3 (w6.setCell ⟨R,6,none⟩ (.int .i64 g))):=(VA.o.trans Iz).setX (p:=⟨R,6,none⟩) rfl _;have D5:Hid (LCr W3.heap.size (w6.setCell ⟨R,6,none⟩ (.int .i64 g)) (.slice ac cons.length cc) cons):=by obtain⟨v,hb,_⟩:=ZZ.blk;exact gp.setR hb 6 _
    clear ZZ Z' YA Iz gp VM VA LI QL UZ Xt;obtain⟨k2,er⟩:=p2
    dsimp only at k3
    by_cases XN:er=0
    rotate_left
    have Fe:(er==0)=false:=by simpa using XN
    obtain⟨x,hx⟩:∃x:Int,x=0:=⟨0,rfl⟩;have Wz:Hid (RSt ⟨R,NB,R,s.size,ts,names,.slice al acc.length cl,.slice ac cons.length cc,g,x⟩ ⟨k2,er⟩ (w6.setCell ⟨R,6,none⟩ (.int .i64 g))):=by rw[hx];exact D7.o
    have LE:Hid (Tf s.size ts names p=((g,x),Y5 s.size ts YV ⟨k2,er⟩)):=by show _=_;rw[HG.o,hx];unfold NF;rw[if_neg (λh=>XN h.1)]
    have TD:Hid (Fr (XR9 R) W3 (w6.setCell ⟨R,6,none⟩ (.int .i64 g))):=D6.o;have Fu:Hid (LCr W3.heap.size (w6.setCell ⟨R,6,none⟩ (.int .i64 g)) (.slice ac cons.length cc) cons):=D5.o;obtain⟨p3,Sw⟩:∃p3:RP,p3=⟨k2,er⟩:=⟨_,rfl⟩;rw[<-Sw] at Wz LE;clear hx Sw D7 D6 D5 HG XN;go_wp2_with fail
    obtain⟨w8,QF⟩:∃w8,w6.setCell ⟨R,6,none⟩ (.int .i64 g)=w8:=⟨_,rfl⟩;rw[QF] at Wz TD Fu ⊢;clear QF k6 z6 k3;clear Fe
    rotate_left
    subst XN;go_wp2_with fail
    have IK:(g != 0)=true:=by assumption
    have Ua:¬g=0:=by simpa using IK
    refine (Ln _ ⟨k2,0⟩ _ D7.o).mono ?_;rintro e w7 ⟨rfl,ZZ,Z'⟩
    dsimp only at ZZ Z' ⊢
    obtain⟨q3,LW⟩:∃q3,vR s.size ts names ⟨k2,0⟩=q3:=⟨_,rfl⟩;rw[LW] at ZZ ⊢;obtain⟨x,p3⟩:=q3;have LE:Hid (Tf s.size ts names p=((g,x),Y5 s.size ts YV p3)):=by show _=_;rw[HG.o];unfold NF;rw[if_pos ⟨rfl,Ua⟩,LW]
    dsimp only at ZZ ⊢
    have xO:LCr W3.heap.size w7 (.slice ac cons.length cc) cons:=D5.o.fr Z' (λj hj=>by have h1:j=R:=hj;have h2:=Oo.o;rw[h1,MF.o];exact h2)
    have k7:w7.cell? ⟨R,7,none⟩=some (.int .i64 0):=by obtain⟨v,hb,_⟩:=ZZ.blk;exact Z_ hb 7 _ rfl
    have z7:w7.frozen? ⟨R,7,none⟩=false:=by obtain⟨v,hb,_⟩:=ZZ.blk;exact Z0 hb 7
    have Wz:Hid (RSt ⟨R,NB,R,s.size,ts,names,.slice al acc.length cl,.slice ac cons.length cc,g,x⟩ p3 (w7.setCell ⟨R,7,none⟩ (.int .i64 x))):=ZZ.setX x;have TD:Hid (Fr (XR9 R) W3 (w7.setCell ⟨R,7,none⟩ (.int .i64 x))):=(D6.o.trans Z').setX (p:=⟨R,7,none⟩) rfl _;have Fu:Hid (LCr W3.heap.size (w7.setCell ⟨R,7,none⟩ (.int .i64 x)) (.slice ac cons.length cc) cons):=by obtain⟨v,hb,_⟩:=ZZ.blk;exact xO.setR hb 7 _
    clear ZZ Z' LW xO D7 D6 D5 HG k6 z6 k3 IK Ua;go_wp2_with fail
    obtain⟨w8,QF⟩:∃w8,w7.setCell ⟨R,7,none⟩ (.int .i64 x)=w8:=⟨_,rfl⟩;rw[QF] at Wz TD Fu ⊢;clear QF k7 z7
    rotate_left
    have gn:(g != 0)=false:=by assumption
    have Ua:g=0:=by simpa using gn
    subst XN;obtain⟨x,hx⟩:∃x:Int,x=0:=⟨0,rfl⟩;have Wz:Hid (RSt ⟨R,NB,R,s.size,ts,names,.slice al acc.length cl,.slice ac cons.length cc,g,x⟩ ⟨k2,0⟩ (w6.setCell ⟨R,6,none⟩ (.int .i64 g))):=by rw[hx];exact D7.o
    have LE:Hid (Tf s.size ts names p=((g,x),Y5 s.size ts YV ⟨k2,0⟩)):=by show _=_;rw[HG.o,hx];unfold NF;rw[if_neg (λh=>h.2 Ua)]
    have TD:Hid (Fr (XR9 R) W3 (w6.setCell ⟨R,6,none⟩ (.int .i64 g))):=D6.o;have Fu:Hid (LCr W3.heap.size (w6.setCell ⟨R,6,none⟩ (.int .i64 g)) (.slice ac cons.length cc) cons):=D5.o;obtain⟨p3,Sw⟩:∃p3:RP,p3=⟨k2,0⟩:=⟨_,rfl⟩;rw[<-Sw] at Wz LE;clear hx Sw D7 D6 D5 HG Ua;obtain⟨w8,QF⟩:∃w8,w6.setCell ⟨R,6,none⟩ (.int .i64 g)=w8:=⟨_,rfl⟩;rw[QF] at Wz TD Fu ⊢;clear QF k6 z6 k3;clear gn
    all_goals
     refine (Ou _ p3 YV J1 _ Wz.o).mono ?_;rintro e w9 ⟨rfl,ZZ,Z'⟩
     dsimp only at ZZ Z'
     obtain⟨p4,gm⟩:∃p4,Y5 s.size ts YV p3=p4:=⟨_,rfl⟩;rw[gm] at ZZ LE;have QZ:Hid (RZ s.size ts ⟨0,0⟩=(⟨acc,cons,g,x⟩,if p4.k<ts.length then XY 1 p4 else p4)):=by show _=_;rw[xP.o,LE.o]
     have Ub:=hI ZZ;have Sr:=hI (TD.o.trans Z');have Oj:Hid (LCr W3.heap.size w9 (.slice ac cons.length cc) cons):=Fu.o.fr Z' (λj hj=>by have h1:j=R:=hj;have h2:=Oo.o;rw[h1,MF.o];exact h2)
     have a1:w9.cell? ⟨R,1,none⟩=some (.int .i64 p4.k):=by obtain⟨v,hb,_⟩:=ZZ.blk;exact Z_ hb 1 _ rfl
     clear ZZ Z' gm Wz TD Fu xP LE;obtain⟨k4,er4⟩:=p4
     dsimp only at a1 QZ
     by_cases hk:k4<ts.length
     case' pos =>
      have JU:Hid (RZ s.size ts ⟨0,0⟩=(⟨acc,cons,g,x⟩,XY 1 ⟨k4,er4⟩)):=by show _=_;rw[QZ.o,if_pos hk]
      go_wp2_with fail
      refine (NL _ ⟨k4,er4⟩ 1 _ Ub.o).mono ?_;rintro e wa ⟨rfl,ZZ,Z'⟩
      dsimp only at ZZ Z'
      obtain⟨p5,Lk⟩:∃p5,XY 1 ⟨k4,er4⟩=p5:=⟨_,rfl⟩;rw[Lk] at ZZ JU;have JQ:=hI ZZ;have AW:=hI (Sr.o.trans Z');have qD:Hid (LCr W3.heap.size wa (.slice ac cons.length cc) cons):=Oj.o.fr Z' (λj hj=>by have h1:j=R:=hj;have h2:=Oo.o;rw[h1,MF.o];exact h2)
      clear ZZ Z' Lk Ub Sr Oj QZ a1 hk
     case' neg =>
      obtain⟨wa,MJ⟩:∃wa,w9=wa:=⟨_,rfl⟩;rw[MJ] at Ub Sr Oj a1 ⊢;obtain⟨p5,Lk⟩:∃p5:RP,⟨k4,er4⟩=p5:=⟨_,rfl⟩;have JU:Hid (RZ s.size ts ⟨0,0⟩=(⟨acc,cons,g,x⟩,p5)):=by show _=_;rw[QZ.o,if_neg hk,Lk]
      have JQ:Hid (RSt ⟨R,NB,R,s.size,ts,names,.slice al acc.length cl,.slice ac cons.length cc,g,x⟩ p5 wa):=by rw[<-Lk];exact Ub.o
      have AW:Hid (Fr (XR9 R) W3 wa):=Sr.o;have qD:Hid (LCr W3.heap.size wa (.slice ac cons.length cc) cons):=Oj.o;clear MJ Lk Ub Sr Oj QZ
     all_goals
      obtain⟨k5,er5⟩:=p5;have e3:wa.cell? ⟨R,3,none⟩=some (.int .i64 er5):=by obtain⟨v,hb,_⟩:=JQ.o.blk;exact Z_ hb 3 _ rfl
      have Om:w.heap.size<w1.heap.size:=(Z8.1 Xw.o).1;have qC:w.heap.size<R:=by rw[<-VG.o];exact Om
      have A8:Hid (w.heap.size<W2.heap.size):=ZQ Om ZI.o.size;have Mi:Hid (wa.heap[w.heap.size]? = some (.cells #[.slice none 0 0,.slice none 0 0,.int .i64 0,.int .i64 0] 25)):=by
       have h2:=A8.o;have h3:=UX.o.size;exact (AW.o.block _ (by omega) (by show ¬_=R;omega)).trans ((UX.o.block _ h2 (by show ¬_=R;omega)).trans ((ZI.o.block _ Om).trans Xw.o))
      have xN:Hid (Bw w wa):=zVP (ZU.o.trans (ZI.o.mono ZU.o.size)) (Vm A8.o) (UX.o.trans AW.o) (Vm qC);by_cases h5:er5=0
      ·subst h5
       have II:Hid (ModR W2.heap.size wa (.slice al acc.length cl) (.slice ac cons.length cc) ⟨acc,cons,g,x⟩):=⟨TE S_.o AW.o (λj hj=>by have h1:j=R:=hj;rw[h1];exact Wp.o),qD.o.mono UX.o.size,Gf.o⟩
       have q4:wa.cell? ⟨R,4,none⟩=some (.slice al acc.length cl):=by obtain⟨v,hb,_⟩:=JQ.o.blk;exact Z_ hb 4 _ rfl
       have q5:wa.cell? ⟨R,5,none⟩=some (.slice ac cons.length cc):=by obtain⟨v,hb,_⟩:=JQ.o.blk;exact Z_ hb 5 _ rfl
       have q6:wa.cell? ⟨R,6,none⟩=some (.int .i64 g):=by obtain⟨v,hb,_⟩:=JQ.o.blk;exact Z_ hb 6 _ rfl
       have q7:wa.cell? ⟨R,7,none⟩=some (.int .i64 x):=by obtain⟨v,hb,_⟩:=JQ.o.blk;exact Z_ hb 7 _ rfl
       go_wp2_with fail
       refine (show Calls prog 55 #[modV (.slice al acc.length cl) (.slice ac cons.length cc) ⟨acc,cons,g,x⟩] _ _ from jO ⟨acc,cons,g,x⟩ _ _ _ II.o.marg).mono ?_
       obtain⟨ce,KN⟩:∃ce,Q4 ⟨acc,cons,g,x⟩=ce:=⟨_,rfl⟩;have S5:=hI KN;rw[KN];rintro e wb ⟨rfl,hb⟩;have HMb:=hI (II.o.below hb);have gk:=hI (xN.o.trans (hb.mono xN.o.size));have Iy:Hid (wb.heap[w.heap.size]? = some (.cells #[.slice none 0 0,.slice none 0 0,.int .i64 0,.int .i64 0] 25)):=(hb.block _ (Z8.1 Mi.o).1).trans Mi.o;have xM:=hI (JQ.o.below hb);clear KN hb II JQ AW qD Mi xN q4 q5 q6 q7 e3;have n4:wb.cell? ⟨R,4,none⟩=some (.slice al acc.length cl):=by obtain⟨v,hb,_⟩:=xM.o.blk;exact Z_ hb 4 _ rfl
       have n5:wb.cell? ⟨R,5,none⟩=some (.slice ac cons.length cc):=by obtain⟨v,hb,_⟩:=xM.o.blk;exact Z_ hb 5 _ rfl
       have n6:wb.cell? ⟨R,6,none⟩=some (.int .i64 g):=by obtain⟨v,hb,_⟩:=xM.o.blk;exact Z_ hb 6 _ rfl
       have n7:wb.cell? ⟨R,7,none⟩=some (.int .i64 x):=by obtain⟨v,hb,_⟩:=xM.o.blk;exact Z_ hb 7 _ rfl
       have r0:=Z_ Iy.o 0 _ rfl;have r1:=Z_ Iy.o 1 _ rfl;have r2:=Z_ Iy.o 2 _ rfl;have r3:=Z_ Iy.o 3 _ rfl;have z0:=Z0 Iy.o 0;have z1:=Z0 Iy.o 1;have z2:=Z0 Iy.o 2;have z3:=Z0 Iy.o 3;by_cases hc:ce=0
       ·subst hc
        have HX:Hid (m0=⟨acc,cons,g,x⟩/\x0=0/\e0=0):=by
         have h:=HA.o;rw[zTd TY.o JU.o rfl S5.o] at h;cases h
         exact⟨rfl,rfl,rfl⟩
        go_wp2
        refine bodyPost_ret (by simp[results,results13,go_sem, *];try rfl) rfl ?_
        obtain⟨j0,j1,j2⟩:=HX.o;subst j0 j1 j2;exact⟨_,_,rfl,gY HMb.o A8.o _ _ _ _,ret4 gk.o _ _ _ _⟩
       have Fe:(ce != 0)=true:=by simpa using hc
       have HX:Hid (m0=TB/\x0=0/\e0=ce):=by
        have h:=HA.o;rw[zNd TY.o JU.o rfl (by rw[S5.o];exact hc),S5.o] at h
        cases h
        exact⟨rfl,rfl,rfl⟩
       clear hc;go_wp2
       refine bodyPost_ret (by simp[results,results13,go_sem, *];try rfl) rfl ?_
       obtain⟨j0,j1,j2⟩:=HX.o;subst j0 j1 j2;exact⟨_,_,rfl,FJ _ _,ret4 gk.o _ _ _ _⟩
      have h5b:(er5 != 0)=true:=by simpa using h5
      have HX:Hid (m0=TB/\x0=(ZL s.size (ts.drop k5)).place/\e0=er5):=by
       have h:=HA.o;rw[zO3 TY.o JU.o h5] at h;cases h
       exact⟨rfl,rfl,rfl⟩
      have Xs:=zSx _ ⟨k5,er5⟩ wa.drew (JQ.o.below (Z6 _ _).drew)
      dsimp only at Xs
      obtain⟨pl,Pp⟩:∃pl,(ZL s.size (ts.drop k5)).place=pl:=⟨_,rfl⟩;rw[Pp] at Xs HX;clear h5 Pp;have r0:=Z_ Mi.o 0 _ rfl;have r1:=Z_ Mi.o 1 _ rfl;have r2:=Z_ Mi.o 2 _ rfl;have r3:=Z_ Mi.o 3 _ rfl;have z0:=Z0 Mi.o 0;have z1:=Z0 Mi.o 1;have z2:=Z0 Mi.o 2;have z3:=Z0 Mi.o 3;go_wp2_with fail
      go_region_law
       (first
         | (rw[if_pos (by rfl)];go_simp;go_at_call 54;refine Xs.mono ?_;rintro e wb ⟨rfl,nd,yL⟩;subst yL;dsimp only))
      all_goals
       go_wp2
       refine bodyPost_ret (by simp[results,results13,go_sem, *];try rfl) rfl ?_
       obtain⟨j0,j1,j2⟩:=HX.o;subst j0 j1 j2;exact⟨_,_,rfl,FJ _ _,ret4 (below_drewN xN.o _) _ _ _ _⟩
   obtain⟨g,hg⟩:∃g,f=g+1:=⟨f - 1,by omega⟩
   subst hg;have Yk:Hid (rowR s.size ts [99,111,110] (Ok s.size ts names) g (cons++[(Ok s.size ts names p).1]) (Ok s.size ts names p).2=K):=(gt _ _ _ _ _ _ _ hq).symm.trans HQ.o;have W_:Hid (p.k+1<=(Ok s.size ts names p).2.k):=zTg _ _ _ _ hq;obtain⟨cr,Wj⟩:∃cr,Ok s.size ts names p=cr:=⟨_,rfl⟩;have KA:=hI Wj;rw[Wj] at Yk W_;clear HQ Wj;go_wp2_with fail
   refine (Ou _ p conW rI _ X9.o).mono ?_;rintro e w5 ⟨rfl,ZZ,Z'⟩
   dsimp only at ZZ Z'
   obtain⟨p1,Vh⟩:∃p1,Y5 s.size ts conW p=p1:=⟨_,rfl⟩;have Xt:=hI Vh;rw[Vh] at ZZ;have VM:=hI ZZ;have VA:=hI (QJ.o.trans Z');have LI:Hid (LCr W3.heap.size w5 (.slice ac cons.length cc) cons):=Op.o.fr Z' (λj hj=>by have h1:j=R:=hj;have h2:=Oo.o;rw[h1,MF.o];exact h2)
   clear ZZ Z' Vh X9 QJ Op hq;go_wp2_with fail
   refine (zTX _ p1 _ VM.o).mono ?_;rintro e w6 ⟨vv,vc,vr,vl,rfl,Wj,ZZ,Z'⟩
   dsimp only at ZZ Z' Wj ⊢
   obtain⟨q2,YA⟩:∃q2,conR s.size ts names p1=q2:=⟨_,rfl⟩;have YB:=hI YA;rw[YA] at ZZ Wj ⊢;obtain⟨x,p2⟩:=q2
   dsimp only at ZZ Wj ⊢
   have AV:W3.heap.size<=w5.heap.size:=VA.o.size;have gj:Hid (ConR W3.heap.size w6 vv vc vr vl x):=Wj.mono AV;have Wr:=hI ZZ;have Pc:=hI (VA.o.trans Z');have Kz:Hid (LCr W3.heap.size w6 (.slice ac cons.length cc) cons):=LI.o.fr Z' (λj hj=>by have h1:j=R:=hj;have h2:=Oo.o;rw[h1,MF.o];exact h2)
   obtain⟨x1,y1,Rf⟩:=ZJ Wj.1;obtain⟨x2,y2,GN⟩:=ZJ Wj.2.1;obtain⟨x3,y3,Pm⟩:=Wj.2.2.1.form;obtain⟨x4,y4,Gn⟩:=ZJ Wj.2.2.2;subst Rf GN Pm Gn;clear ZZ Z' Wj YA VM VA LI AV;have UZ:Hid (RSt ⟨R,NB,R,s.size,ts,names,.slice al acc.length cl,.slice ac cons.length cc,0,0⟩ p2 (w6.alloc (.cells #[.int .i64 x.kind,.slice x1 x.vars.length y1,.slice x2 x.consts.length y2,.int .i64 x.n,.slice x3 x.rows.length y3,.slice x4 x.lits.length y4] 69))):=Wr.o.below (Z4 _ _);unfold conV;go_wp2_with fail
   refine (Ou _ p2 YV J1 _ UZ.o).mono ?_;rintro e w7 ⟨rfl,ZZ,Z'⟩
   dsimp only at ZZ Z'
   obtain⟨p3,Sw⟩:∃p3,Y5 s.size ts YV p2=p3:=⟨_,rfl⟩;rw[Sw] at ZZ;have G9:Hid (cr=(x,p3)):=by
    show _=_;rw[<-KA.o];unfold Ok;rw[Xt.o,YB.o]
    dsimp only
    rw[Sw]
   have qB:∀j,XR9 R j->j<W3.heap.size:=λj hj=>by have h1:j=R:=hj;have h2:=Oo.o;rw[h1,MF.o];exact h2
   have Iz:Fr (XR9 R) w6 w7:=(Fr.below (Z4 _ _)).trans Z';have Ft:Hid (ConR W3.heap.size w7 (.slice x1 x.vars.length y1) (.slice x2 x.consts.length y2) (.slice x3 x.rows.length y3) (.slice x4 x.lits.length y4) x):=gj.o.fr Iz qB;have Vu:=hI ZZ;have TD:=hI (Pc.o.trans Iz);have xO:LCr W3.heap.size w7 (.slice ac cons.length cc) cons:=Kz.o.fr Iz qB;obtain⟨bx,WV⟩:∃bx,w6.heap.size=bx:=⟨_,rfl⟩;have X2:=hI WV;have K4:Hid (w7.heap[bx]? = some (.cells #[.int .i64 x.kind,.slice x1 x.vars.length y1,.slice x2 x.consts.length y2,.int .i64 x.n,.slice x3 x.rows.length y3,.slice x4 x.lits.length y4] 69)):=by
    rw[<-WV];exact (Z'.block _ (by simp) (by have h1:=Wr.o.lt;show ¬_=_;dsimp only at h1;omega)).trans (heap_alloc_new _ _)
   clear ZZ Z' Sw qB Iz UZ gj Wr Pc Kz KA Xt YB WV;rw[G9.o] at Yk W_;clear G9
   dsimp only at Yk W_
   obtain⟨cells,h1,h2⟩:=xO;have k5:w7.cell? ⟨R,5,none⟩=some (.slice ac cons.length cc):=by obtain⟨v,hb,_⟩:=Vu.o.blk;exact Z_ hb 5 _ rfl
   have b0:=Z_ K4.o 0 _ rfl;have b1:=Z_ K4.o 1 _ rfl;have b2:=Z_ K4.o 2 _ rfl;have b3:=Z_ K4.o 3 _ rfl;have b4:=Z_ K4.o 4 _ rfl;have b5:=Z_ K4.o 5 _ rfl;have hR7:R<w7.heap.size:=Vu.o.lt;have Xc:=h1.alloc (.cells #[.int .i64 x.kind,.slice x1 x.vars.length y1,.slice x2 x.consts.length y2,.int .i64 x.n,.slice x3 x.rows.length y3,.slice x4 x.lits.length y4] 69);have Y':W3.heap.size<=w7.heap.size:=TD.o.size;rw[X2.o];have zM:=hI h2;have qA:=hI h1;clear h1 h2 X2;go_wp2_with (at_builtin;refine wpList_append_own _ rfl _ _ 23 rfl W3.heap.size 69 iC _ 6 112 im rz FN FM FL rfl (by decide) _ _ _ rfl Xc ⟨w7.heap.size,0,none⟩ 1 1 (conC (.slice x1 x.vars.length y1) (.slice x2 x.consts.length y2) (.slice x3 x.rows.length y3) (.slice x4 x.lits.length y4) x) rfl rfl ?c1 ?c2 ?c3 ?c4 ?c5 ?_)
   case c1=>exact ik w7 _ _ _ _ x
   case c2=>exact ii Ft.o
   case c3=>unfold maxLen;omega
   case c4=>omega
   case c5=>simp;omega
   intro v9 w9 Zp Xg _;have ZS:∀k,(Value.slice ac cons.length cc).ownBlock=some k->W3.heap.size<=k:=λk hk=>(qA.o.lt k hk).1
   have AU:RSt ⟨R,NB,R,s.size,ts,names,.slice al acc.length cl,.slice ac cons.length cc,0,0⟩ p3 w9:=(Vu.o.below (Z4 _ _)).grown Xg (λk hk=>by have h1:=ZS k hk;have h2:=MF.o;have h3:=Oo.o;exact⟨by show k≠R;omega,by show R<=k;omega,by show NB<=k;omega⟩)
   have gi:Fr (XR9 R) W3 w9:=(TD.o.alloc _).grown Xg (λk hk=>Or.inr (ZS k hk))
   have gh:LCr W3.heap.size w9 v9 (cons++[x]):=LCr.push qA.o zM.o Ft.o Zp Xg;have k5':w9.cell? ⟨R,5,none⟩=some (.slice ac cons.length cc):=by obtain⟨v,hb,_⟩:=AU.blk;exact Z_ hb 5 _ rfl
   have z5':w9.frozen? ⟨R,5,none⟩=false:=by obtain⟨v,hb,_⟩:=AU.blk;exact Z0 hb 5
   have Ub:Hid (RSt ⟨R,NB,R,s.size,ts,names,.slice al acc.length cl,v9,0,0⟩ p3 (w9.setCell ⟨R,5,none⟩ v9)):=AU.setVc v9;have Sr:Hid (Fr (XR9 R) W3 (w9.setCell ⟨R,5,none⟩ v9)):=gi.setX (p:=⟨R,5,none⟩) rfl _;have Oj:Hid (LCr W3.heap.size (w9.setCell ⟨R,5,none⟩ v9) v9 (cons++[x])):=by obtain⟨v,hb,_⟩:=AU.blk;exact gh.setR hb 5 v9
   have Um:Hid ((cons++[x]).length=cons.length+1):=by show _=_;simp
   obtain⟨c9,xY⟩:∃c9,cons++[x]=c9:=⟨_,rfl⟩;rw[xY] at Yk Oj Um;obtain⟨a9,d9,Rk⟩:=Oj.o.form;subst Rk;clear Zp Xg ZS Xc xY b0 b1 b2 b3 b4 b5 Vu TD AU gi gh qA zM Ft K4 k5;have MB:Hid (PO (w9.setCell ⟨R,5,none⟩ (.slice a9 c9.length d9)) ⟨R,5,none⟩=c9.length):=by obtain⟨v,hb,_⟩:=Ub.o.blk;show _=_;unfold PO;rw[Z_ hb 5 _ rfl];rfl
   go_wp2
   go_roundw
   case rel=>exact⟨g,c9,p3,_,Yk,Ub,Sr,Oj,by have:=Um.o;omega,by have:=W_.o;omega⟩
   case measure=>have h1:=Um.o;have h2:=MB.o;have h3:=To.o;simp only[h2,h3];omega
  obtain⟨g,hg⟩:∃g,f=g+1:=⟨f - 1,by omega⟩
  subst hg;have Yk:Hid (rowR s.size ts [118,97,114] (Ol s.size ts) g (acc++[(Ol s.size ts p).1]) (Ol s.size ts p).2=V):=(gt _ _ _ _ _ _ _ hq).symm.trans HQ.o;have W_:Hid (p.k+1<=(Ol s.size ts p).2.k):=zVO _ _ _ hq;obtain⟨vr,OK⟩:∃vr,Ol s.size ts p=vr:=⟨_,rfl⟩;have A6:=hI OK;rw[OK] at Yk W_;clear HQ OK;go_wp2_with fail
  refine (Ou _ p varW rL _ Zq.o).mono ?_;rintro e w4 ⟨rfl,ZZ,Z'⟩
  dsimp only at ZZ Z'
  obtain⟨p1,Vh⟩:∃p1,Y5 s.size ts varW p=p1:=⟨_,rfl⟩;have Xt:=hI Vh;rw[Vh] at ZZ;have X9:=hI ZZ;have UX:=hI (Yw.o.trans Z');have S_:Hid (w4.ownsRow W2.heap.size 67 3 (.slice al acc.length cl) acc.length (acc.flatMap varC)):=TE WL.o Z' (λj hj=>by have h1:j=R:=hj;rw[h1,XF.o];omega)
  clear ZZ Z' Vh Zq Yw WL hq;go_wp2_with fail
  refine (My _ p1 _ X9.o).mono ?_;rintro e w5 ⟨rfl,nd,CR⟩;have Rm:=PU CR
  dsimp only
  have Bz:Hid ((txR s.size ts p1).size<=maxLen):=by have:=zWe s.size ts Vp.o.1 p1;unfold maxLen;show _<=_;omega
  have Pi:Hid (WZ (txR s.size ts p1)=true->p1.k+1<=ts.length/\p1.er=0):=zWf _ _ _;obtain⟨nm,Tq⟩:∃nm,txR s.size ts p1=nm:=⟨_,rfl⟩;have JP:=hI Tq;rw[Tq] at Bz Pi ⊢;have SB:Hid (VB ⟨R,R,R,s.size,ts,[],.slice none 0 0,.slice none 0 0,0,0⟩ W2 (w5.alloc (.cells #[.string nm,.int .i64 0,.int .i64 0] 67)) p1 w5.heap.size nm 0 0 (.slice al acc.length cl) acc):=by
   have WT:=XF.o;have RA:Fr (XR9 R) W2 w5:=UX.o.trans (Fr.below Rm);have ho5:=YZ S_.o Rm;refine⟨(X9.o.below Rm).below (Z4 _ _),RA.alloc _,heap_alloc_new _ _,RA.size,by show R<_;omega,by show R<=_;omega,by show R<=_;omega,ho5.alloc _,?_⟩
   intro e;have:=(ho5.lt _ e).2;omega
  clear Rm CR Tq X9 UX S_;go_wp2_with fail
  refine (sr nm Bz.o _).mono ?_;rintro e w6 ⟨rfl,Yz⟩;have Te:=SB.o.below Yz;obtain⟨bv,zQ⟩:∃bv,w5.heap.size=bv:=⟨_,rfl⟩;rw[zQ] at Te;have Wa:=hI zQ;have Te:=hI Te;clear Yz zQ SB;rw[Wa.o];clear Wa;cases hn:WZ nm
  rotate_left
  have X6:=(Pi.o hn).1;have a0:w6.cell? ⟨R,1,none⟩=some (.int .i64 p1.k):=by obtain⟨v,hb,_⟩:=Te.o.st.blk;exact Z_ hb 1 _ rfl
  have a1:w6.frozen? ⟨R,1,none⟩=false:=by obtain⟨v,hb,_⟩:=Te.o.st.blk;exact Z0 hb 1
  have Oi:Hid (VB ⟨R,R,R,s.size,ts,[],.slice none 0 0,.slice none 0 0,0,0⟩ W2 (w6.setCell ⟨R,1,none⟩ (.int .i64 ((p1.k:Int)+1))) (U7 p1) bv nm 0 0 (.slice al acc.length cl) acc):=by
   have h:=Te.o.step (by exact X6)
   rw[show ((p1.k+1:Nat):Int)=(p1.k:Int)+1 by omega] at h
   exact h
  have YB:Hid ((Lm s.size ts p1).2=U7 p1):=by show (if WZ (txR s.size ts p1) then U7 p1 else XY 1 p1)=_;rw[JP.o,hn,if_pos rfl]
  clear Te hn Pi;go_wp2_with fail
  obtain⟨w7,gf⟩:∃w7,w6.setCell ⟨R,1,none⟩ (.int .i64 ((p1.k:Int)+1))=w7:=⟨_,rfl⟩;rw[gf] at Oi ⊢;obtain⟨p2,PF⟩:∃p2,U7 p1=p2:=⟨_,rfl⟩;rw[PF] at Oi YB;clear gf PF a0 a1 X6
  rotate_left
  have YB:Hid ((Lm s.size ts p1).2=XY 1 p1):=by show (if WZ (txR s.size ts p1) then U7 p1 else XY 1 p1)=_;rw[JP.o,hn,if_neg (by simp)]
  clear Pi;go_wp2_with fail
  clear hn;refine (NL _ p1 1 _ Te.o.st).mono ?_;rintro e w7 ⟨rfl,ZZ,Z'⟩
  dsimp only at ZZ Z'
  obtain⟨p2,PF⟩:∃p2,XY 1 p1=p2:=⟨_,rfl⟩;rw[PF] at ZZ YB;have Oi:=hI (Te.o.call Z' ZZ);clear ZZ Z' PF Te;go_wp2_with fail
  all_goals
   refine (Ou _ p2 colW rK _ Oi.o.st).mono ?_;rintro e w8 ⟨rfl,ZZ,Z'⟩
   dsimp only at ZZ Z'
   obtain⟨p3,Sw⟩:∃p3,Y5 s.size ts colW p2=p3:=⟨_,rfl⟩;rw[Sw] at ZZ;have WG:=hI Sw;have Fs:=hI (Oi.o.call Z' ZZ);clear ZZ Z' Sw Oi;go_wp2_with fail
   refine (FI _ p3 _ Fs.o.st).mono ?_;rintro e w9 ⟨rfl,ZZ,Z'⟩
   dsimp only at ZZ Z' ⊢
   obtain⟨q4,hq4⟩:∃q4,kR s.size ts p3=q4:=⟨_,rfl⟩;rw[hq4] at ZZ ⊢;have J0:=hI hq4;obtain⟨lo,p4⟩:=q4
   dsimp only at ZZ ⊢
   have JO:=hI (Fs.o.call Z' ZZ);clear ZZ Z' hq4 Fs;have b1:w9.cell? ⟨bv,1,none⟩=some (.int .i64 0):=Z_ JO.o.box 1 _ rfl;have b2:=Z0 JO.o.box 1;have JN:Hid (VB ⟨R,R,R,s.size,ts,[],.slice none 0 0,.slice none 0 0,0,0⟩ W2 (w9.setCell ⟨bv,1,none⟩ (.int .i64 lo)) p4 bv nm lo 0 (.slice al acc.length cl) acc):=JO.o.setLo lo;clear JO;go_wp2_with fail
   obtain⟨wa,MJ⟩:∃wa,w9.setCell ⟨bv,1,none⟩ (.int .i64 lo)=wa:=⟨_,rfl⟩;rw[MJ] at JN ⊢;clear MJ b1 b2;refine (Ou _ p4 TR rJ _ JN.o.st).mono ?_;rintro e wb ⟨rfl,ZZ,Z'⟩
   dsimp only at ZZ Z'
   obtain⟨p5,Lk⟩:∃p5,Y5 s.size ts TR p4=p5:=⟨_,rfl⟩;rw[Lk] at ZZ;have Ec:=hI Lk;have Fq:=hI (JN.o.call Z' ZZ);clear ZZ Z' Lk JN;go_wp2_with fail
   refine (FI _ p5 _ Fq.o.st).mono ?_;rintro e wc ⟨rfl,ZZ,Z'⟩
   dsimp only at ZZ Z' ⊢
   obtain⟨q6,qy⟩:∃q6,kR s.size ts p5=q6:=⟨_,rfl⟩;rw[qy] at ZZ ⊢;have Eb:=hI qy;obtain⟨hi,p6⟩:=q6
   dsimp only at ZZ ⊢
   have JM:=hI (Fq.o.call Z' ZZ);clear ZZ Z' qy Fq;have b1:wc.cell? ⟨bv,2,none⟩=some (.int .i64 0):=Z_ JM.o.box 2 _ rfl;have b2:=Z0 JM.o.box 2;have JL:Hid (VB ⟨R,R,R,s.size,ts,[],.slice none 0 0,.slice none 0 0,0,0⟩ W2 (wc.setCell ⟨bv,2,none⟩ (.int .i64 hi)) p6 bv nm lo hi (.slice al acc.length cl) acc):=JM.o.setHi hi;clear JM;go_wp2_with fail
   obtain⟨wd,B1⟩:∃wd,wc.setCell ⟨bv,2,none⟩ (.int .i64 hi)=wd:=⟨_,rfl⟩;rw[B1] at JL ⊢;clear B1 b1 b2;refine (Ou _ p6 YV J1 _ JL.o.st).mono ?_;rintro e we ⟨rfl,ZZ,Z'⟩
   dsimp only at ZZ Z'
   obtain⟨p7,qx⟩:∃p7,Y5 s.size ts YV p6=p7:=⟨_,rfl⟩;rw[qx] at ZZ;have Sl:=hI (JL.o.call Z' ZZ);have G9:Hid (vr=(⟨nm,lo,hi⟩,p7)):=by
    show _=_;rw[<-A6.o];unfold Ol
    dsimp only
    rw[Xt.o,YB.o,WG.o,J0.o]
    dsimp only
    rw[Ec.o,Eb.o]
    dsimp only
    rw[qx];unfold Lm;rw[JP.o]
   clear ZZ Z' qx JL Xt YB WG J0 Ec Eb A6 JP;rw[G9.o] at Yk W_;clear G9
   dsimp only at Yk W_
   have b0:we.cell? ⟨bv,0,none⟩=some (.string nm):=Z_ Sl.o.box 0 _ rfl;have b1:we.cell? ⟨bv,1,none⟩=some (.int .i64 lo):=Z_ Sl.o.box 1 _ rfl;have b2:we.cell? ⟨bv,2,none⟩=some (.int .i64 hi):=Z_ Sl.o.box 2 _ rfl;have Xc:=Sl.o.own.alloc (.cells #[.string nm,.int .i64 lo,.int .i64 hi] 67);have Y':W2.heap.size<=we.heap.size:=Sl.o.fr.size;go_wp2_with (at_builtin;refine wpList_append_own _ rfl _ _ 22 rfl W2.heap.size 67 iV (.agg #[.string ⟨#[]⟩,.int .i64 0,.int .i64 0]) 3 32 ip rA FQ FP FO rfl (by decide) _ _ _ rfl Xc ⟨we.heap.size,0,none⟩ 1 1 (varC ⟨nm,lo,hi⟩) rfl rfl ?c1 ?c2 ?c3 ?c4 ?c5 ?_)
   case c1=>exact il we ⟨nm,lo,hi⟩
   case c2=>exact ij _
   case c3=>unfold maxLen;omega
   case c4=>omega
   case c5=>simp;omega
   intro v9 w9 Zp Xg _;have ZS:∀k,(Value.slice al acc.length cl).ownBlock=some k->W2.heap.size<=k:=λk hk=>(Sl.o.own.lt k hk).1
   have Ub:Hid (RSt ⟨R,R,R,s.size,ts,[],.slice none 0 0,.slice none 0 0,0,0⟩ p7 w9):=(Sl.o.st.below (Z4 _ _)).grown Xg (λk hk=>by have h1:=ZS k hk;have h2:=XF.o;exact⟨by show k≠R;omega,by show R<=k;omega,by show R<=k;omega⟩)
   have Sr:Hid (Fr (XR9 R) W2 w9):=(Sl.o.fr.alloc _).grown Xg (λk hk=>Or.inr (ZS k hk))
   have Q6:Hid (w9.ownsRow W2.heap.size 67 3 v9 (acc++[(⟨nm,lo,hi⟩:MVar)]).length ((acc++[(⟨nm,lo,hi⟩:MVar)]).flatMap varC)):=by
    show w9.ownsRow _ _ _ _ _ _;rw[ZC,ir];exact Zp
   have AR:Hid (∀x∈acc++[(⟨nm,lo,hi⟩:MVar)],x.name.size<=maxLen):=λx hx=>by
    rcases Xn.1 hx with hx | hx
    ·exact Gf.o x hx
    rw[Zh.1 hx];exact Bz.o
   have Oj:Hid ((acc++[(⟨nm,lo,hi⟩:MVar)]).length=acc.length+1):=by show _=_;simp
   have HK9:Hid (p.k+1<=p7.k):=W_.o;obtain⟨acc2,Uw⟩:∃acc2,acc++[(⟨nm,lo,hi⟩:MVar)]=acc2:=⟨_,rfl⟩;rw[Uw] at Yk Q6 AR Oj;obtain⟨a9,c9,Rk⟩:=ZJ Q6.o;subst Rk;clear Zp Xg ZS Xc Uw b0 b1 b2 Sl;go_wp2
   go_roundw
   case rel=>exact⟨g,acc2,p7,Yk,Ub,Sr,Q6,AR,by have:=Oj.o;omega,by have:=HK9.o;omega⟩
   case measure=>have h1:=Oj.o;simp[FF];omega
 have rn:(e1 != 0)=true:=by simpa using PS
 have HX:Hid (m0=TB/\x0=(at1:Int)/\e0=e1):=by
  have h:=HA.o;rw[zO4 TY.o PS] at h;cases h
  exact⟨rfl,rfl,rfl⟩
 have r0:=Z_ Xw.o 0 _ rfl;have r1:=Z_ Xw.o 1 _ rfl;have r2:=Z_ Xw.o 2 _ rfl;have r3:=Z_ Xw.o 3 _ rfl;have z0:=Z0 Xw.o 0;have z1:=Z0 Xw.o 1;have z2:=Z0 Xw.o 2;have z3:=Z0 Xw.o 3;clear PS;go_wp2
 refine bodyPost_ret (by simp[results,results13,go_sem, *];try rfl) rfl ?_
 obtain⟨k0,k1,k2⟩:=HX.o;subst k0 k1 k2;exact⟨_,_,rfl,FJ _ _,ret4 ZU.o _ _ _ _⟩
end Go.Proofs.YtndcpnlaadikoaaGreatDoor
