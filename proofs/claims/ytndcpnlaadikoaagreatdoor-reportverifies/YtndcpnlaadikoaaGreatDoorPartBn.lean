/- What the proof leans on, part 40. -/
import Derived.Test.YtndcpnlaadikoaaGreatDoorPartBm
import Derived.Test.YtndcpnlaadikoaaGreatDoorPartBd
set_option maxRecDepth 100000
set_option maxHeartbeats 1600000
open Go.Proofs.Tryz
namespace Go.Proofs.YtndcpnlaadikoaaGreatDoor
open Go.RowKit
theorem ib (s:ByteArray) (a b:Nat):(s.extract a b).data.toList=(s.data.toList.drop a).take (b - a):=by
 rw[ByteArray.data_extract,Array.toList_extract]
theorem ia (p:UInt8->Bool):∀(l:List UInt8),∀c∈l.take (l.takeWhile p).length,p c=true
 | [],c,h=>by simp at h
 | x :: l,c,h=>by
   by_cases hx:p x=true
   ·rw[List.takeWhile_cons_of_pos hx] at h
    simp only[Xe,Ld,YJ] at h;rcases h with rfl | h
    ·exact hx
    exact ia p l c h
   rw[List.takeWhile_cons_of_neg hx] at h;simp at h
theorem zW0 (s:ByteArray) (hs:s.size<=4000) (j:Nat) (hj:j<s.size) (he:XT (YT s j).kind (YT s j).text=0):Ly (YT s j):=by
 refine⟨ZT (pZ s j) hs,λhk=>?_⟩
 have P9:=D0 s j he;have T3:j<s.data.toList.length:=by rw[T7];exact hj
 have IK:=D1 _ _ T3 P9;have V4:=(Fh _ _ T3).2;rw[T7] at V4;have ht:YT s j=⟨XJ s.data.toList j,j,s.extract j (XZ s.data.toList j)⟩:=by unfold YT;rw[if_neg P9]
 rw[hk] at he;rw[ht] at he hk ⊢;simp only at he hk ⊢;have Y':(s.extract j (XZ s.data.toList j)).size=XZ s.data.toList j - j:=PK s _ _ V4;refine⟨⟨by omega,?_⟩,?_⟩
 ·unfold XT at he
  rw[if_neg (by decide),if_pos rfl] at he
  split at he
  ·cases he
  omega
 have WY:XJ s.data.toList j=2:=by omega
 have hL:¬isL (U5 s.data.toList j)=true:=by
  intro h;unfold XJ at WY;rw[if_pos h] at WY;cases WY
 have hD:isD (U5 s.data.toList j)=true:=by
  unfold XJ at WY;rw[if_neg hL] at WY;by_cases h:isD (U5 s.data.toList j)=true
  ·exact h
  rw[if_neg h] at WY;split at WY <;> cases WY
 have hend:XZ s.data.toList j=YH isD s.data.toList j:=by unfold XZ;rw[if_neg hL,if_pos hD]
 intro c hc;rw[ib,hend] at hc;unfold YH at hc;rw[QC] at hc;have:=ia isD _ c hc;unfold isD at this;simp at this;omega
theorem zRK (s:ByteArray) (hs:s.size<=4000):∀(f k:Nat) (acc:List Tok),(∀t∈acc,Ly t)->k<=s.size->acc.length<=k->(∀t∈(Ut f s k acc).1,Ly t)/\(Ut f s k acc).1.length<=s.size:=by
 intro f
 induction f with
 | zero=>intro k acc h1 h2 h3;exact⟨h1,by simp only[Ut];omega⟩
 | succ f ih =>
   intro k acc h1 h2 h3;have hk:=xC false s.data.toList k (by rw[T7];exact h2)
   by_cases h4:YG false s.data.toList k<s.size
   ·by_cases h5:XT (YT s (YG false s.data.toList k)).kind (YT s (YG false s.data.toList k)).text=0
    ·rw[Md f s k _ acc rfl h4 h5]
     have T3:YG false s.data.toList k<s.data.toList.length:=by rw[T7];exact h4
     have IK:=D1 _ _ T3 (D0 s _ h5);have V4:=(Fh _ _ T3).2;rw[T7] at V4;refine ih _ _ (λt ht=>?_) V4 (by simp;omega)
     rcases Xn.1 ht with ht | ht
     ·exact h1 t ht
     rw[Zh.1 ht];exact zW0 s hs _ h4 h5
    rw[K7 f s k _ acc rfl h4 h5];exact⟨λt ht=>(by cases ht),(by simp)⟩
   rw[Is _ s k acc h4];exact⟨h1,by simp only;omega⟩
theorem h_ (s:ByteArray):(∀t∈(YR s).1,Ly t)/\(YR s).1.length<=4000:=by
 unfold YR
 split
 ·exact⟨λt ht=>(by cases ht),(by simp)⟩
 obtain⟨h1,h2⟩:=zRK s (by omega) (s.size+1) 0 [] (λt ht=>(by cases ht)) (YI _) (Z2 _)
 exact⟨h1,by omega⟩
theorem hJ {w:World} {B:Nat} {v:Value} {l:List Tok} (h:w.ownsRow B 161 3 v l.length (T8 l)) (hl:l.length<=4000) (ht:∀t∈l,Ly t):TArg w.heap.size w v l:=by
 obtain⟨a,c,hv,hm,hr⟩:=FK h;refine⟨a,c,hv,hm,⟨hl,ht⟩,λi z hz=>?_⟩
 have hi:i<l.length:=(ZN.1 hz).1;obtain⟨g,ha,hg,hc⟩:=hr i hi;have hf:=A9 Td 3 (λ_=>rfl) l i
 exact⟨g,0,ha,hg,by rw[Zn,hc _ (by omega)];exact hf 0 z hz (by omega),by rw[Zn,hc _ (by omega)];exact hf 1 z hz (by omega),by rw[Zn,hc _ (by omega)];exact hf 2 z hz (by omega)⟩
def Xb (s:ByteArray):Mod×Int×Int :=
 if (YR s).2.2=0 then
  if (Sn s.size (YR s).1).2.2=0 then
   if Zs (Sn s.size (YR s).1).1=0 then ((Sn s.size (YR s).1).1,0,0) else (TB,0,Zs (Sn s.size (YR s).1).1)
  else (TB,(Sn s.size (YR s).1).2.1,(Sn s.size (YR s).1).2.2)
 else (TB,(YR s).2.1,(YR s).2.2)
theorem g_ {s:ByteArray} {ts:List Tok} {a:Nat} {m:Mod} {x:Int} (hs:YR s=(ts,a,0)) (hr:Sn s.size ts=(m,x,0)) (hc:Zs m=0):Xb s=(m,0,0):=by
 unfold Xb;simp[hs,hr,hc]
theorem g9 {s:ByteArray} {ts:List Tok} {a:Nat} {m:Mod} {x:Int} (hs:YR s=(ts,a,0)) (hr:Sn s.size ts=(m,x,0)) (hc:¬Zs m=0):Xb s=(TB,0,Zs m):=by
 unfold Xb;simp[hs,hr,hc]
theorem g8 {s:ByteArray} {ts:List Tok} {a:Nat} {m:Mod} {x e:Int} (hs:YR s=(ts,a,0)) (hr:Sn s.size ts=(m,x,e)) (he:¬e=0):Xb s=(TB,x,e):=by
 unfold Xb;simp[hs,hr,he]
theorem gZ {s:ByteArray} {ts:List Tok} {a:Nat} {e:Int} (hs:YR s=(ts,a,e)) (he:¬e=0):Xb s=(TB,(a:Int),e):=by
 unfold Xb;simp[hs,he]
theorem ret4 {w w1:World} (h:Bw w w1) (u0 u1 u2 u3:Value):Bw w ((((w1.setCell ⟨w.heap.size,0,none⟩ u0).setCell ⟨w.heap.size,1,none⟩ u1).setCell ⟨w.heap.size,2,none⟩ u2).setCell ⟨w.heap.size,3,none⟩ u3) :=
 Fr.toBelow (((((Fr.below (X:=λk=>w.heap.size<=k) h).setX (p:=⟨w.heap.size,0,none⟩) (Z2 _) u0).setX (p:=⟨w.heap.size,1,none⟩) (Z2 _) u1).setX (p:=⟨w.heap.size,2,none⟩) (Z2 _) u2).setX (p:=⟨w.heap.size,3,none⟩) (Z2 _) u3)
theorem gY {w w1:World} {B:Nat} {vs cs:Value} {m:Mod} (h:ModR B w1 vs cs m) (hB:w.heap.size<B) (u0 u1 u2 u3:Value):ModR w.heap.size ((((w1.setCell ⟨w.heap.size,0,none⟩ u0).setCell ⟨w.heap.size,1,none⟩ u1).setCell ⟨w.heap.size,2,none⟩ u2).setCell ⟨w.heap.size,3,none⟩ u3) vs cs m :=
 (h.fr (((((Fr.refl (λk=>k<B) w1).setX (p:=⟨w.heap.size,0,none⟩) hB u0).setX (p:=⟨w.heap.size,1,none⟩) hB u1).setX (p:=⟨w.heap.size,2,none⟩) hB u2).setX (p:=⟨w.heap.size,3,none⟩) hB u3) (λ_ hk=>hk)).mono (Vm hB)
theorem gX (s:ByteArray) (hs:s.size<=maxLen) (w:World) :
 Calls prog 29 #[.string s] w λe w'=>∃vs cs,e=.returned (.tuple #[modV vs cs (Xb s).1,.int .i64 (Xb s).2.1,.int .i64 (Xb s).2.2])/\ModR w.heap.size w' vs cs (Xb s).1/\Bw w w':=by
 obtain⟨m0,x0,e0,hA⟩:∃m0 x0 e0,Xb s=(m0,x0,e0):=⟨_,_,_,rfl⟩;have HA:=hI hA;rw[hA];simp only;clear hA;obtain⟨ts,at1,e1,XV⟩:∃ts at1 e1,YR s=(ts,at1,e1):=⟨_,_,_,rfl⟩;have TY:=hI XV;have Vp:Hid ((∀t∈ts,Ly t)/\ts.length<=4000):=by have h:=h_ s;rw[XV] at h;exact h
 have BM:=hI hs;clear XV;unfold maxLen at hs;go_enter func29,ntmps29
 go_wp2_with fail
 have Ws:=Z4 w (.cells #[.slice none 0 0,.slice none 0 0,.int .i64 0,.int .i64 0] 25);have S0:(w.alloc (.cells #[.slice none 0 0,.slice none 0 0,.int .i64 0,.int .i64 0] 25)).heap[w.heap.size]? = some (.cells #[.slice none 0 0,.slice none 0 0,.int .i64 0,.int .i64 0] 25):=heap_alloc_new _ _;refine (Ff s BM.o _).mono ?_;rw[TY.o];rintro e w1 ⟨v1,rfl,Vg,Z5⟩;have N8:Hid (TArg w1.heap.size w1 v1 ts):=hJ Vg Vp.o.2 Vp.o.1;have ZU:Hid (Bw w w1):=Ws.trans (Z5.mono (by simp))
 have Xw:Hid (w1.heap[w.heap.size]? = some (.cells #[.slice none 0 0,.slice none 0 0,.int .i64 0,.int .i64 0] 25)):=(Z5.block _ (by simp)).trans S0
 obtain⟨av,cv,hv1⟩:=ZJ Vg;subst hv1;clear Vg Z5 Ws S0;by_cases PS:e1=0
 ·subst PS
  go_wp2_with fail
  refine (zVG _ ts _ w1 N8.o).mono ?_;obtain⟨m2,x2,e2,hR⟩:∃m2 x2 e2,Sn s.size ts=(m2,x2,e2):=⟨_,_,_,rfl⟩;have HR:=hI hR;rw[hR];simp only;clear hR;rintro e w2 ⟨vs,cs,rfl,Y8,ZY⟩;have Y3:=hI Y8;have A8:Hid (w.heap.size<w1.heap.size):=(Z8.1 Xw.o).1;have ZI:=hI (ZU.o.trans (ZY.mono ZU.o.size));have YW:Hid (w2.heap[w.heap.size]? = some (.cells #[.slice none 0 0,.slice none 0 0,.int .i64 0,.int .i64 0] 25)):=(ZY.block _ (Z8.1 Xw.o).1).trans Xw.o;obtain⟨a1,c1,hv2⟩:=ZJ Y8.1;obtain⟨a2,c2,Gg⟩:=Y8.2.1.form;subst hv2 Gg;clear Y8;clear ZY;by_cases V3:e2=0
  ·subst V3
   obtain⟨ce,KN⟩:∃ce,Zs m2=ce:=⟨_,rfl⟩;have S5:=hI KN;clear KN;unfold modV;go_wp2_with fail
   have XX:w.heap.size<w2.heap.size:=(Z8.1 YW.o).1;have JU:Hid (ModR w1.heap.size (w2.alloc (.cells #[.slice a1 m2.vars.length c1,.slice a2 m2.cons.length c2,.int .i64 m2.goal,.int .i64 m2.var] 25)) (.slice a1 m2.vars.length c1) (.slice a2 m2.cons.length c2) m2):=Y3.o.below (Z4 _ _);have ZM:Hid (Bw w (w2.alloc (.cells #[.slice a1 m2.vars.length c1,.slice a2 m2.cons.length c2,.int .i64 m2.goal,.int .i64 m2.var] 25))):=ZI.o.trans ((Z4 _ _).mono ZI.o.size);have Yk:Hid ((w2.alloc (.cells #[.slice a1 m2.vars.length c1,.slice a2 m2.cons.length c2,.int .i64 m2.goal,.int .i64 m2.var] 25)).heap[w.heap.size]? = some (.cells #[.slice none 0 0,.slice none 0 0,.int .i64 0,.int .i64 0] 25)):=((Z4 _ _).block _ XX).trans YW.o;have Ht:Hid ((w2.alloc (.cells #[.slice a1 m2.vars.length c1,.slice a2 m2.cons.length c2,.int .i64 m2.goal,.int .i64 m2.var] 25)).heap[w2.heap.size]? = some (.cells #[.slice a1 m2.vars.length c1,.slice a2 m2.cons.length c2,.int .i64 m2.goal,.int .i64 m2.var] 25)):=heap_alloc_new _ _;refine (JE m2 _ _ _ JU.o.marg).mono ?_;rw[S5.o];rintro e w4 ⟨rfl,Zd⟩;have IE:=hI (JU.o.below Zd);have Yp:=hI (ZM.o.trans (Zd.mono ZM.o.size));have Vc:Hid (w4.heap[w.heap.size]? = some (.cells #[.slice none 0 0,.slice none 0 0,.int .i64 0,.int .i64 0] 25)):=(Zd.block _ (Z8.1 Yk.o).1).trans Yk.o;have J2:Hid (w4.heap[w2.heap.size]? = some (.cells #[.slice a1 m2.vars.length c1,.slice a2 m2.cons.length c2,.int .i64 m2.goal,.int .i64 m2.var] 25)):=(Zd.block _ (Z8.1 Ht.o).1).trans Ht.o;clear Zd JU ZM Yk Ht;have d0:=Z_ J2.o 0 _ rfl;have d1:=Z_ J2.o 1 _ rfl;have d2:=Z_ J2.o 2 _ rfl;have d3:=Z_ J2.o 3 _ rfl;have r0:=Z_ Vc.o 0 _ rfl;have r1:=Z_ Vc.o 1 _ rfl;have r2:=Z_ Vc.o 2 _ rfl;have r3:=Z_ Vc.o 3 _ rfl;have z0:=Z0 Vc.o 0;have z1:=Z0 Vc.o 1;have z2:=Z0 Vc.o 2;have z3:=Z0 Vc.o 3;by_cases hc:ce=0
   ·subst hc
    have HX:Hid (m0=m2/\x0=0/\e0=0):=by
     have h:=HA.o;rw[g_ TY.o HR.o S5.o] at h;cases h
     exact⟨rfl,rfl,rfl⟩
    go_wp2
    refine bodyPost_ret (by simp[results,results29,go_sem, *];try rfl) rfl ?_
    obtain⟨k0,k1,k2⟩:=HX.o;subst k0 k1 k2;exact⟨_,_,rfl,gY IE.o A8.o _ _ _ _,ret4 Yp.o _ _ _ _⟩
   have Fe:(ce != 0)=true:=by simpa using hc
   have HX:Hid (m0=TB/\x0=0/\e0=ce):=by
    have h:=HA.o;rw[g9 TY.o HR.o (by rw[S5.o];exact hc),S5.o] at h
    cases h
    exact⟨rfl,rfl,rfl⟩
   clear hc;go_wp2
   refine bodyPost_ret (by simp[results,results29,go_sem, *];try rfl) rfl ?_
   obtain⟨k0,k1,k2⟩:=HX.o;subst k0 k1 k2;exact⟨_,_,rfl,FJ _ _,ret4 Yp.o _ _ _ _⟩
  have he2b:(e2 != 0)=true:=by simpa using V3
  have HX:Hid (m0=TB/\x0=x2/\e0=e2):=by
   have h:=HA.o;rw[g8 TY.o HR.o V3] at h;cases h
   exact⟨rfl,rfl,rfl⟩
  have r0:=Z_ YW.o 0 _ rfl;have r1:=Z_ YW.o 1 _ rfl;have r2:=Z_ YW.o 2 _ rfl;have r3:=Z_ YW.o 3 _ rfl;have z0:=Z0 YW.o 0;have z1:=Z0 YW.o 1;have z2:=Z0 YW.o 2;have z3:=Z0 YW.o 3;have XX:w.heap.size<w2.heap.size:=(Z8.1 YW.o).1;have ZM:Hid (Bw w (w2.alloc (.cells #[.slice a1 m2.vars.length c1,.slice a2 m2.cons.length c2,.int .i64 m2.goal,.int .i64 m2.var] 25))):=ZI.o.trans ((Z4 _ _).mono ZI.o.size);clear V3;unfold modV;go_wp2
  refine bodyPost_ret (by simp[results,results29,go_sem, *];try rfl) rfl ?_
  obtain⟨k0,k1,k2⟩:=HX.o;subst k0 k1 k2;refine⟨_,_,rfl,FJ _ _,?_⟩;rw[<-World.setCell_alloc_past _ _ _ _ (by simpa using XX),<-World.setCell_alloc_past _ _ _ _ (by simpa using XX),<-World.setCell_alloc_past _ _ _ _ (by simpa using XX),<-World.setCell_alloc_past _ _ _ _ (by simpa using XX)]
  exact ret4 ZM.o _ _ _ _
 have rn:(e1 != 0)=true:=by simpa using PS
 have HX:Hid (m0=TB/\x0=(at1:Int)/\e0=e1):=by
  have h:=HA.o;rw[gZ TY.o PS] at h;cases h
  exact⟨rfl,rfl,rfl⟩
 have r0:=Z_ Xw.o 0 _ rfl;have r1:=Z_ Xw.o 1 _ rfl;have r2:=Z_ Xw.o 2 _ rfl;have r3:=Z_ Xw.o 3 _ rfl;have z0:=Z0 Xw.o 0;have z1:=Z0 Xw.o 1;have z2:=Z0 Xw.o 2;have z3:=Z0 Xw.o 3;clear PS;go_wp2
 refine bodyPost_ret (by simp[results,results29,go_sem, *];try rfl) rfl ?_
 obtain⟨k0,k1,k2⟩:=HX.o;subst k0 k1 k2;exact⟨_,_,rfl,FJ _ _,ret4 ZU.o _ _ _ _⟩
theorem zVH (m:Mod) (vals:List Int) (vs cs v:Value) (w:World) (hm:MArg w vs cs m) (hv:IArg w v vals) :
 Calls prog 44 #[modV vs cs m,v] w λe w'=>e=.returned (.tuple #[.bool (allA m vals).1,.int .i64 (allA m vals).2])/\Bw w w':=by
 have Y3:Hid (∀w':World,Bw w w'->MArg w' vs cs m):=λw' h=>MArg.below h hm
 have Ww:Hid (∀w':World,Bw w w'->IArg w' v vals):=λw' h=>IArg.below h hv
 obtain⟨⟨a1,c1,rfl,WS,VR⟩,⟨a2,c2,rfl,Yn,Yq⟩⟩:=hm;obtain⟨a3,c3,rfl,LX,hr3⟩:=hv;have R9:=hI VR
 have HC:=hI Yq
 have HV:=hI hr3;unfold maxLen at WS Yn LX;obtain⟨K5,WS⟩:=WS;obtain⟨Nq,Yn⟩:=Yn;obtain⟨hl31,LX⟩:=LX;obtain⟨R,hR⟩:∃R,allA m vals=R:=⟨_,rfl⟩;rw[hR];obtain⟨er,Yy⟩:∃er,Zs m=er:=⟨_,rfl⟩;have Xj:=hI Yy;have HE:Hid (R=if er=0 then
  (if vals.length=m.vars.length then ((m.vars.zip vals).all (λp=>Ul p.1 p.2)&&m.cons.all (λc=>YL c vals),0) else (false,1))
  else (false,er)):=by rw[<-hR,<-Yy];rfl
 clear hR Yy VR Yq hr3;unfold modV;go_enter func44,ntmps44
 go_wp2_with fail
 refine (JE m (.slice a1 m.vars.length c1) (.slice a2 m.cons.length c2) _ ?_).mono ?_
 ·exact Y3.o _ (Z4 _ _)
 rintro e w1 ⟨rfl,Z5⟩;rw[Xj.o];have d0:w1.cell? ⟨w.heap.size,0,none⟩=some (.slice a1 m.vars.length c1):=(Z5.cell (by simp)).trans (by simp)
 have d1:w1.cell? ⟨w.heap.size,1,none⟩=some (.slice a2 m.cons.length c2):=(Z5.cell (by simp)).trans (by simp)
 have J9:=hI d1;have Vt:w.heap.size+1<=w1.heap.size:=by simpa using Z5.size
 have ZU:Hid (Bw w w1):=(Z4 _ _).trans (Z5.mono (by simp))
 clear Z5;by_cases he:er=0
 ·subst he
  by_cases hl:vals.length=m.vars.length
  ·have g0:((vals.length:Int) != (m.vars.length:Int))=false:=by simp[hl]
   have HL:=hI hl;have WO:Hid (R=((m.vars.zip vals).all (λp=>Ul p.1 p.2)&&m.cons.all (λc=>YL c vals),0)):=by rw[HE.o,if_pos rfl,if_pos hl];rfl
   clear hl;go_wp2_with fail
   go_loopw [25] (λi wr=>∃k:Nat,k<=m.vars.length/\i=.int .i64 k/\Hid (((m.vars.zip vals).take k).all (λp=>Ul p.1 p.2)=true)/\Bw w1 wr) (λi _=>m.vars.length - (intOf i).toNat)
   case atStart=>exact⟨0,by omega,rfl,rfl,Z6 _ _⟩
   obtain⟨k,hk,rfl,hall,Z3⟩:=hrel;have ZW:Hid (Bw w wr):=ZU.o.trans (Z3.mono (by omega))
   have Su:=hI Z3;by_cases Z7:k<m.vars.length
   ·have UR:k<vals.length:=by rw[HL.o];exact Z7
    obtain⟨x,hx⟩:∃x,vals[k]? = some x:=⟨vals[k],by simp[UR]⟩
    obtain⟨t,ht⟩:∃t,m.vars[k]? = some t:=⟨m.vars[k],by simp[Z7]⟩
    have HG:Hid ((m.vars.zip vals)[k]? = some (t,x)):=by show _=_;rw[Lh];exact⟨ht,hx⟩
    obtain⟨b,off,rfl,hb,e0⟩:=HV.o k x hx;obtain⟨_,b',off',rfl,XI,f0,f1,f2⟩:=R9.o k t ht;have e1:=(ZW.o.cell (p:=⟨b,off+k,none⟩) hb).trans e0;have k0:=(ZW.o.cell (p:=⟨b',off'+k * 3,none⟩) XI).trans f0;have k1:=(ZW.o.cell (p:=⟨b',off'+k * 3+1,none⟩) XI).trans f1;have k2:=(ZW.o.cell (p:=⟨b',off'+k * 3+2,none⟩) XI).trans f2;have LS:b<wr.heap.size:=ZQ hb ZW.o.size;clear hx ht e0 f0 f1 f2 hb XI Z3;by_cases q1:x<t.lo
    ·have HN:Hid (R=(false,0)):=by
      have:=SJ (λp:MVar×Int=>Ul p.1 p.2) (m.vars.zip vals) k (t,x) HG.o (by simp[Ul,q1])
      rw[WO.o,this];rfl
     have q2:decide (x<t.lo)=true:=decide_eq_true q1;go_wp2
     go_quiet (fail)
     go_wp2
     go_ret2
     exact⟨by rw[HN.o];rfl,below_drewN (ZW.o.trans ((Z4 _ _).mono ZW.o.size)) _⟩
    have q2:decide (x<t.lo)=false:=decide_eq_false q1;by_cases q3:t.hi<x
    ·have HN:Hid (R=(false,0)):=by
      have:=SJ (λp:MVar×Int=>Ul p.1 p.2) (m.vars.zip vals) k (t,x) HG.o (by simp[Ul,q3])
      rw[WO.o,this];rfl
     clear q1;go_wp2
     go_quiet (fail)
     go_wp2
     go_ret2
     exact⟨by rw[HN.o];rfl,below_drewN (ZW.o.trans ((Z4 _ _).mono ZW.o.size)) _⟩
    have HN:Hid (((m.vars.zip vals).take (k+1)).all (λp=>Ul p.1 p.2)=true):=RF (λp:MVar×Int=>Ul p.1 p.2) (m.vars.zip vals) k (t,x) HG.o hall.o (by simp[Ul];omega)
    have q4:decide (t.hi<x)=false:=decide_eq_false q3;clear q1 q3;go_wp2
    go_quiet (fail)
    go_wp2
    go_roundw
    case rel=>exact⟨k+1,by omega,by go_num,HN,below_drewN (Su.o.alloc Su.o.size _) _⟩
    case measure=>simp[intOf];omega
   have HA:Hid ((m.vars.zip vals).all (λp=>Ul p.1 p.2)=true):=RB _ _ k (by rw[List.length_zip,HL.o];omega) hall.o
   have iOq:Hid (R=(m.cons.all (λc=>YL c vals),0)):=by rw[WO.o,HA.o,Qq];rfl
   have P6:Hid (∀x∈vals,-50<=x/\x<=50):=by
    intro x hx;obtain⟨i,hi⟩:=Wm.1 hx;have KK:i<m.vars.length:=by rw[<-HL.o];exact (ZN.1 hi).1
    have ht:m.vars[i]? = some m.vars[i]:=by simp[KK]
    have Rr:=Il m Xj.o i _ ht;have:=W8.1 HA.o (m.vars[i],x) (Zz (i:=i) (by rw[Lh];exact⟨ht,hi⟩))
    simp[Ul] at this;omega
   have e1:wr.cell? ⟨w.heap.size,1,none⟩=some (.slice a2 m.cons.length c2):=(Z3.cell (p:=⟨w.heap.size,1,none⟩) (by simp only;omega)).trans d1
   obtain⟨wo,rfl⟩:∃wo:World,wo=wr:=⟨_,rfl⟩;go_wp2
   clear hk hall Z3 Z7 e1;go_loopw [50] (λi wr=>∃k:Nat,k<=m.cons.length/\i=.int .i64 k/\Hid ((m.cons.take k).all (λc=>YL c vals)=true)/\Bw w wr) (λi _=>m.cons.length - (intOf i).toNat)
   case atStart=>exact⟨0,by omega,rfl,rfl,ZW.o⟩
   obtain⟨j,hj,rfl,hall,Z3⟩:=hrel;have Xu:=hI Z3;clear Z3;by_cases Z7:j<m.cons.length
   ·obtain⟨c,hc⟩:∃c,m.cons[j]? = some c:=⟨m.cons[j],by simp[Z7]⟩
    have O_:=hI hc;obtain⟨b,off,vv,vc,vr,vl,ha,hb,f0,f1,f2,f3,f4,f5,QV⟩:=HC.o j c hc;subst ha;have e0:=(Xu.o.cell (p:=⟨b,off+j * 6,none⟩) hb).trans f0;have e1:=(Xu.o.cell (p:=⟨b,off+j * 6+1,none⟩) hb).trans f1;have e2:=(Xu.o.cell (p:=⟨b,off+j * 6+2,none⟩) hb).trans f2;have e3:=(Xu.o.cell (p:=⟨b,off+j * 6+3,none⟩) hb).trans f3;have e4:=(Xu.o.cell (p:=⟨b,off+j * 6+4,none⟩) hb).trans f4;have e5:=(Xu.o.cell (p:=⟨b,off+j * 6+5,none⟩) hb).trans f5;have HK:Hid (KArg wr vv vc vr vl c):=KArg.below Xu.o QV;have S5:Hid (conE vals.length c=0):=by rw[HL.o];exact Ik m Xj.o j c hc
    obtain⟨⟨q1,r1,rfl,_,_⟩,⟨q2,r2,rfl,_,_⟩,⟨q3,r3,rfl,_,_⟩,⟨q4,r4,rfl,_,_⟩⟩:=QV;clear hc f0 f1 f2 f3 f4 f5 hb;cases hq:YL c vals
    ·have HN:Hid (R=(false,0)):=by rw[iOq.o,SJ (λc=>YL c vals) m.cons j c O_.o hq];rfl
     go_wp2_with fail
     refine (wO c vals _ _ _ _ _ _ (KArg.below (Z4 _ _) HK.o) (Ww.o _ (Xu.o.trans ((Z4 _ _).mono Xu.o.size))) S5.o P6.o).mono ?_;rintro e w2 ⟨rfl,ZY⟩;rw[hq];have ZG:Bw w w2:=(Xu.o.trans ((Z4 _ _).mono Xu.o.size)).trans (ZY.mono (by have:=Xu.o.size;simp;omega))
     clear ZY hq;go_wp2
     go_ret2
     exact⟨by rw[HN.o];rfl,ZG⟩
    have HN:Hid ((m.cons.take (j+1)).all (λc=>YL c vals)=true):=RF (λc=>YL c vals) m.cons j c O_.o hall.o hq
    go_wp2_with fail
    refine (wO c vals _ _ _ _ _ _ (KArg.below (Z4 _ _) HK.o) (Ww.o _ (Xu.o.trans ((Z4 _ _).mono Xu.o.size))) S5.o P6.o).mono ?_;rintro e w2 ⟨rfl,ZY⟩;rw[hq];have ZG:Bw w w2:=(Xu.o.trans ((Z4 _ _).mono Xu.o.size)).trans (ZY.mono (by have:=Xu.o.size;simp;omega))
    clear ZY hq;go_wp2
    go_roundw
    case rel=>exact⟨j+1,by omega,by go_num,HN,ZG⟩
    case measure=>simp[intOf];omega
   have HN:Hid (R=(true,0)):=by rw[iOq.o,RB _ m.cons j Z7 hall.o];rfl
   go_wp2
   go_ret2
   exact⟨by rw[HN.o];rfl,Xu.o⟩
  have g0:((vals.length:Int) != (m.vars.length:Int))=true:=by simp;omega
  have HN:Hid (R=(false,1)):=by rw[HE.o,if_pos rfl,if_neg hl];rfl
  clear hl;go_wp2
  go_ret2
  exact⟨by rw[HN.o];rfl,ZU.o⟩
 have HN:Hid (R=(false,er)):=by rw[HE.o,if_neg he];rfl
 have V3:(er != 0)=true:=by simpa using he
 clear he;go_wp2
 go_ret2
 exact⟨by rw[HN.o];rfl,ZU.o⟩
open Go.RowKit Go.Maps
def Lo (m:Mod) (vals:List Int):List Cla×Int:=if vals.length=0 then ([],0) else if (U9 m vals).2=0 then ([(U9 m vals).1],0) else ([],(U9 m vals).2)
theorem zTP (w:World) (x:Value) (cl:Cla) (B:Nat) (hB:B=w.heap.size) (h:LArg w x cl):WQ (w.alloc (.cells #[x] 28)) (.slice (some ⟨B,0,none⟩) 1 1) [cl]:=by
 subst hB;refine⟨_,1,rfl,⟨Z2 _,by unfold maxLen;omega⟩,λi c hc=>?_⟩
 match i,hc with
 | 0,hc =>
   cases hc
   exact⟨_,0,x,rfl,by simp,Zu _ _ _ 0 (by simp),LArg.below (Z4 _ _) h⟩
theorem x8 (w:World):WQ w (.slice none 0 0) []:=⟨none,0,rfl,⟨Z2 _,YI _⟩,λi z hz=>by simp at hz⟩
theorem zTQ (m:Mod) (vals:List Int) (vs cs v:Value) (w:World) (Y8:MArg w vs cs m) (hv:IArg w v vals) :
 Calls prog 43 #[modV vs cs m,v] w λe w'=>∃x,e=.returned (.tuple #[x,.int .i64 (Lo m vals).2])/\WQ w' x (Lo m vals).1/\Bw w w':=by
 have Y3:Hid (∀w',Bw w w'->MArg w' vs cs m):=λw' h=>MArg.below h Y8
 have HV:Hid (∀w',Bw w w'->IArg w' v vals):=λw' h=>IArg.below h hv
 obtain⟨⟨a1,c1,rfl,_,_⟩,⟨a2,c2,rfl,_,_⟩⟩:=Y8;obtain⟨av,cv,rfl,_,_⟩:=hv;obtain⟨R,hR⟩:∃R,Lo m vals=R:=⟨_,rfl⟩;rw[hR];unfold Lo at hR;unfold modV;by_cases h0:vals.length=0
 ·rw[if_pos h0] at hR
  have HN:Hid ((([]:List Cla),(0:Int))=R):=hR;have Lj:vals=[]:=Xo.1 h0;subst Lj;clear hR h0;go_enter func43,ntmps43
  go_wp2
  go_ret2
  rw[<-HN.o];exact⟨_,rfl,x8 _,Z4 _ _⟩
 rw[if_neg h0] at hR;have hv1:¬(vals.length:Int)=0:=by omega
 have hv2:¬vals=[]:=λh=>by rw[h] at h0;exact h0 rfl
 have Gg:((vals.length:Int)==0)=false:=by simpa using hv2
 have HR:=(show Hid _ from hR)
 obtain⟨⟨BC,BE⟩,hB⟩:∃B,U9 m vals=B:=⟨_,rfl⟩;have HB:Hid (U9 m vals=(BC,BE)):=hB;rw[hB] at HR;clear hR h0 hB;go_enter func43,ntmps43
 go_wp2_with fail
 have Yt:Bw w (w.alloc (.cells #[.slice a1 m.vars.length c1,.slice a2 m.cons.length c2,.int .i64 m.goal,.int .i64 m.var] 25)):=Z4 _ _;refine (zOU m vals (.slice a1 m.vars.length c1) (.slice a2 m.cons.length c2) _ _ (Y3.o _ Yt) (HV.o _ Yt)).mono ?_;rintro e w1 ⟨x,rfl,hx,Z5⟩;rw[HB.o] at hx ⊢
 dsimp only at hx ⊢
 have XE:Hid (Bw w w1):=Yt.trans (Z5.mono (by simp))
 have HX:Hid (LArg w1 x BC):=hx.arg;obtain⟨ax,cx,rfl⟩:=ZJ (show w1.ownsRow _ _ _ _ _ _ from hx)
 clear hx Z5 Yt;by_cases he:BE=0
 ·have hR:=HR.o
  rw[if_pos he] at hR;have HN:Hid (([BC],(0:Int))=R):=hR;subst he;clear hR HR;go_wp2
  go_ret2
  rw[<-HN.o];exact⟨_,rfl,zTP w1 _ BC _ rfl HX.o,XE.o.alloc XE.o.size _⟩
 have hR:=HR.o;rw[if_neg he] at hR;have HN:Hid ((([]:List Cla),BE)=R):=hR;have Qo:(BE != 0)=true:=by simpa using he
 clear hR HR he;go_wp2
 go_ret2
 rw[<-HN.o];exact⟨_,rfl,x8 _,XE.o⟩
def QE (s:ByteArray) (vals:List Int) (l:List MStep):Bool×Int:=if (Xb s).2.2=0 then Mq (Xb s).1 vals l else (false,(Xb s).2.2)
theorem zLp (m:Mod) (vals:List Int) (l:List MStep):Mq m vals l=if (Lo m vals).2=0 then (if (R0 m (Lo m vals).1 l).1=true/\vals.length≠0 then allA m vals else R0 m (Lo m vals).1 l) else (false,(Lo m vals).2):=by
 unfold Mq Lo;by_cases h0:vals.length=0
 ·rw[if_pos h0,if_pos h0,if_pos rfl,if_neg (λh=>h.2 h0)]
 rw[if_neg h0,if_neg h0];by_cases hb:(U9 m vals).2=0
 ·rw[if_pos hb,if_pos hb,if_pos rfl]
  simp only;cases hp:(R0 m [(U9 m vals).1] l).1
  ·rw[if_neg (by decide),if_neg (λh=>by cases h.1)]
  rw[if_pos rfl,if_pos ⟨rfl,h0⟩]
 rw[if_neg hb,if_neg hb,if_neg hb]
theorem gW (s:ByteArray) (hs:s.size<=maxLen) (vals:List Int) (l:List MStep) (v u:Value) (w:World) (hv:IArg w v vals) (hu:Uc w u l) (hT:TabT w) :
 Calls prog 12 #[.string s,v,u] w λe w'=>e=.returned (.tuple #[.bool (QE s vals l).1,.int .i64 (QE s vals l).2])/\Bw w w':=by
 have HV:Hid (∀w',Bw w w'->IArg w' v vals):=λw' h=>IArg.below h hv
 have HU:Hid (∀w',Bw w w'->Uc w' u l):=λw' h=>Uc.below h hu
 have HT:Hid (∀w',Bw w w'->TabT w'):=λw' h=>hT.below h
 have HS:=hI hs;obtain⟨av,cv,rfl,_,_⟩:=hv;obtain⟨au,cu,rfl,_,_⟩:=hu;obtain⟨R,hR⟩:∃R,QE s vals l=R:=⟨_,rfl⟩;rw[hR];unfold QE at hR;obtain⟨⟨m,at0,er⟩,hp⟩:∃P,Xb s=P:=⟨_,rfl⟩;have HP:Hid (Xb s=(m,at0,er)):=hp;rw[hp] at hR;have HR:Hid ((if er=0 then Mq m vals l else (false,er))=R):=hR
 clear hR hp hT hs;go_enter func12,ntmps12
 go_wp2_with fail
 refine (gX s HS.o _).mono ?_;rintro e w1 ⟨vs,cs,rfl,Y0,Z5⟩;rw[HP.o] at Y0 ⊢
 dsimp only at Y0 ⊢
 have Y3:Hid (∀w',Bw w1 w'->MArg w' vs cs m):=λw' h=>MArg.below h Y0.marg
 have ZU:=hI Z5;obtain⟨⟨a1,c1,rfl,_,_⟩,⟨a2,c2,rfl,_,_⟩⟩:=Y0.marg;unfold modV;clear Y0 Z5;by_cases he:er=0
 ·have hR:=HR.o
  rw[if_pos he,zLp] at hR;subst he;have Zy:=(show Hid _ from hR)
  clear hR HR;obtain⟨⟨GL,GE⟩,hG⟩:∃G,Lo m vals=G:=⟨_,rfl⟩;have HG:Hid (Lo m vals=(GL,GE)):=hG;rw[hG] at Zy;clear hG;go_wp2_with fail
  have Yt:Bw w1 (w1.alloc (.cells #[.slice a1 m.vars.length c1,.slice a2 m.cons.length c2,.int .i64 m.goal,.int .i64 m.var] 25)):=Z4 _ _;have Ml:=heap_alloc_new w1 (.cells #[.slice a1 m.vars.length c1,.slice a2 m.cons.length c2,.int .i64 m.goal,.int .i64 m.var] 25);refine (zTQ m vals (.slice a1 m.vars.length c1) (.slice a2 m.cons.length c2) _ _ (Y3.o _ Yt) (HV.o _ (ZU.o.trans (Yt.mono ZU.o.size)))).mono ?_;rintro e w2 ⟨x,rfl,hx,ZY⟩;rw[HG.o] at hx ⊢
  dsimp only at hx ⊢
  have YW:Hid (w2.heap[w1.heap.size]? = some (.cells #[.slice a1 m.vars.length c1,.slice a2 m.cons.length c2,.int .i64 m.goal,.int .i64 m.var] 25)):=(ZY.block _ (by simp)).trans Ml
  have PQ:Hid (Bw w1 w2):=Yt.trans (ZY.mono (by simp))
  have ZI:Hid (Bw w w2):=ZU.o.trans (PQ.o.mono ZU.o.size);have HX:=hI hx;obtain⟨ax,cx,rfl,_,_⟩:=hx;clear ZY Yt Ml;have k0:=Z_ YW.o 0 _ rfl;have k1:=Z_ YW.o 1 _ rfl;have k2:=Z_ YW.o 2 _ rfl;have k3:=Z_ YW.o 3 _ rfl;have kl:=(Z8.1 YW.o).1;by_cases Ej:GE=0
  ·have hR:=Zy.o
   rw[if_pos Ej] at hR;subst Ej;have Ys:=(show Hid _ from hR)
   clear hR Zy;obtain⟨⟨PB,PE⟩,rm⟩:∃P,R0 m GL l=P:=⟨_,rfl⟩;have HPC:Hid (R0 m GL l=(PB,PE)):=rm;rw[rm] at Ys;clear rm;go_wp2_with fail
   refine (zRB m GL l (.slice a1 m.vars.length c1) (.slice a2 m.cons.length c2) _ _ w2 (Y3.o _ PQ.o) HX.o (HU.o _ ZI.o) (HT.o _ ZI.o)).mono ?_;rintro e w3 ⟨rfl,ZG⟩;rw[HPC.o]
   dsimp only
   have Yk:Hid (w3.heap[w1.heap.size]? = some (.cells #[.slice a1 m.vars.length c1,.slice a2 m.cons.length c2,.int .i64 m.goal,.int .i64 m.var] 25)):=(ZG.block _ kl).trans YW.o;have A7:=hI (PQ.o.trans (ZG.mono PQ.o.size));have ZM:Hid (Bw w w3):=ZU.o.trans (A7.o.mono ZU.o.size);clear ZG k0 k1 k2 k3 kl;have k0:=Z_ Yk.o 0 _ rfl;have k1:=Z_ Yk.o 1 _ rfl;have k2:=Z_ Yk.o 2 _ rfl;have k3:=Z_ Yk.o 3 _ rfl;have kl:=(Z8.1 Yk.o).1;cases PB
   ·have hR:=Ys.o
    rw[if_neg (λh=>by cases h.1)] at hR
    have HN:Hid ((false,PE)=R):=hR;clear hR Ys;go_wp2
    go_ret2
    rw[<-HN.o];exact⟨rfl,ZM.o⟩
   by_cases h0:vals.length=0
   ·have hR:=Ys.o
    rw[if_neg (λh=>h.2 h0)] at hR
    have HN:Hid ((true,PE)=R):=hR;have Lj:vals=[]:=Xo.1 h0;subst Lj;clear hR Ys h0;go_wp2
    go_ret2
    rw[<-HN.o];exact⟨rfl,ZM.o⟩
   have hR:=Ys.o;rw[if_pos ⟨rfl,h0⟩] at hR;have HN:Hid (allA m vals=R):=hR;have hv1:¬(vals.length:Int)=0:=by omega
   have hv2:¬vals=[]:=λh=>by rw[h] at h0;exact h0 rfl
   have Gg:((vals.length:Int)==0)=false:=by simpa using hv2
   clear hR Ys h0;go_wp2_with fail
   refine (zVH m vals (.slice a1 m.vars.length c1) (.slice a2 m.cons.length c2) _ w3 (Y3.o _ A7.o) (HV.o _ ZM.o)).mono ?_;rintro e w4 ⟨rfl,Zd⟩;rw[HN.o];have Yp:=hI (ZM.o.trans (Zd.mono ZM.o.size));clear Zd;go_wp2
   go_ret2
   exact⟨rfl,Yp.o⟩
  have hR:=Zy.o;rw[if_neg Ej] at hR;have HN:Hid ((false,GE)=R):=hR;have Qo:(GE != 0)=true:=by simpa using Ej
  clear hR Zy Ej;go_wp2
  go_ret2
  rw[<-HN.o];exact⟨rfl,ZI.o⟩
 have hR:=HR.o;rw[if_neg he] at hR;have HN:Hid ((false,er)=R):=hR;have Qo:(er != 0)=true:=by simpa using he
 clear hR HR he;go_wp2
 go_ret2
 rw[<-HN.o];exact⟨rfl,ZU.o.alloc ZU.o.size _⟩
theorem rk (en:Int) (T:List Tok) (p:RP) (h:¬(p.er=0/\p.k<T.length)):txR en T p=ByteArray.empty:=by
 unfold txR;by_cases he:p.er=0
 ·rw[if_pos he,yD en T p.k (by omega)]
 rw[if_neg he]
theorem zWZ (en:Int) (T:List Tok) (p:RP) (h:WZ (txR en T p)=true):p.er=0/\p.k<T.length:=by
 apply Xz;intro hn;rw[rk en T p hn,F_] at h;cases h
theorem RSt.size {c:RC} {p:RP} {w:World} (h:RSt c p w):(txR c.en c.T p).size<=4000:=by
 by_cases hn:p.er=0/\p.k<c.T.length
 ·unfold txR
  rw[if_pos hn.1];obtain⟨v,_,a,c',_,_,ht,_⟩:=h.blk;have e:c.T[p.k]? = some c.T[p.k]:=ZA hn.2;rw[yE c.en c.T p.k _ e];exact (ht.2 _ (Zz e)).1
 rw[rk _ _ _ hn];show 0<=4000;omega
theorem zWa (s:ByteArray) (p:RP) (nm:List ByteArray) (m:Nat) (n:ByteArray) (hn:nm[m]? = some n) (h:(n.toList==s.toList)=true):vAtR s p (nm.drop m) m=((m:Int),U7 p):=by
 obtain⟨hm,rfl⟩:=ZN.1 hn;rw[Yc hm,vAtR,if_pos h]
theorem zVI (s:ByteArray) (p:RP) (nm:List ByteArray) (m:Nat) (n:ByteArray) (hn:nm[m]? = some n) (h:(n.toList==s.toList)=false):vAtR s p (nm.drop m) m=vAtR s p (nm.drop (m+1)) (m+1):=by
 obtain⟨hm,rfl⟩:=ZN.1 hn;rw[Yc hm,vAtR,if_neg (by rw[h];simp)]
theorem zWb (s:ByteArray) (p:RP) (nm:List ByteArray) (m:Nat) (hm:nm.length<=m):vAtR s p (nm.drop m) m=(0,XY 5 p):=by
 rw[SU hm,vAtR]
theorem Ln (c:RC) (p:RP) (w:World) (h:RSt c p w) :
 Calls prog 53 #[.pointer (some ⟨c.R,0,none⟩)] w λe w'=>e=.returned (.int .i64 (vR c.en c.T c.nm p).1)/\RSt c (vR c.en c.T c.nm p).2 w'/\Fr (XR9 c.R) w w':=by
 have HS:=hI h;have XF:Hid ((txR c.en c.T p).size<=maxLen):=ZT h.size (by unfold maxLen;omega)
 have Cu:Hid (WZ (txR c.en c.T p)=true->p.er=0/\p.k<c.T.length):=zWZ c.en c.T p;obtain⟨X,hX⟩:∃X,txR c.en c.T p=X:=⟨_,rfl⟩;have HX:=hI hX;obtain⟨Q,hQ⟩:∃Q,vR c.en c.T c.nm p=Q:=⟨_,rfl⟩;rw[hQ];have A6:Hid (Q=if WZ X then vAtR X p c.nm 0 else (0,XY 1 p)):=by show _=_;rw[<-hQ];unfold vR;rw[hX]
 clear hQ;rw[hX] at XF Cu;have F':c.T.length<=4000:=by obtain⟨v,_,a,c,_,_,ht,_⟩:=h.blk;exact ht.1
 have SK:=h.kT;clear hX h;go_enter func53,ntmps53
 go_wp2_with fail
 refine (My c p _ HS.o).mono ?_;rintro e w1 ⟨rfl,n1,h1⟩;rw[HX.o];have ZU:Hid (Bw w w1):=PU h1;clear h1;go_wp2_with fail
 refine (sr X XF.o _).mono ?_;rintro e w2 ⟨rfl,h2⟩;have ZI:=hI (ZU.o.trans (h2.mono ZU.o.size));have ZK:Hid (RSt c p w2):=HS.o.below ZI.o;have Zo:Hid (Fr (XR9 c.R) w w2):=Fr.below ZI.o;clear h2;cases hq:WZ X
 ·have HN:Hid (Q=(0,XY 1 p)):=by show _=_;rw[A6.o,hq];rfl
  go_wp2_with fail
  refine (NL c p 1 _ ZK.o).mono ?_;rintro e w3 ⟨rfl,h3,Yj⟩;have Zq:=hI h3;have Yw:=hI (Zo.o.trans Yj);clear h3 Yj;go_wp2
  go_ret
  exact⟨by rw[HN.o];rfl,by rw[HN.o];exact Zq.o,Yw.o⟩
 have HQ:Hid (vAtR X p (c.nm.drop 0) 0=Q):=by show _=_;rw[A6.o,hq,List.drop_zero];rfl
 obtain⟨he,hk⟩:=Cu.o hq;have X9:Hid (RSt c (U7 p) (w2.setCell ⟨c.R,1,none⟩ (.int .i64 ((p.k:Int)+1)))):=ZK.o.step hk;have UX:Hid (Fr (XR9 c.R) w (w2.setCell ⟨c.R,1,none⟩ (.int .i64 ((p.k:Int)+1)))):=Zo.o.trans (NO _ _ _ _);obtain⟨v,hR,_⟩:=ZK.o.blk;obtain⟨a,cc,yX,hm,hr⟩:=ZK.o.nms;rw[yX] at hR;have k1:w2.cell? ⟨c.R,1,none⟩=some (.int .i64 (p.k:Int)):=Z_ hR 1 _ rfl;have k4:w2.cell? ⟨c.R,4,none⟩=some (.slice a c.nm.length cc):=Z_ hR 4 _ rfl;have z1:=Z0 hR 1;have HV:=hI hr;unfold maxLen at hm;obtain⟨Y0,hm⟩:=hm;clear hR hr yX he;go_wp2_with fail
 go_loopw [4] (λi wr=>∃m:Nat,m<=c.nm.length/\i=.int .i64 m/\Hid (vAtR X p (c.nm.drop m) m=Q)/\wr=w2) (λi _=>c.nm.length - (intOf i).toNat)
 case atStart=>exact⟨0,by omega,rfl,HQ,rfl⟩
 obtain⟨m,Uo,rfl,Xy,rfl⟩:=hrel;by_cases XX:m<c.nm.length
 ·obtain⟨z,hz⟩:∃z,c.nm[m]? = some z:=⟨_,ZA XX⟩
  obtain⟨b,off,rfl,_,hb,hc⟩:=HV.o m z hz;cases YA:(z.toList==X.toList)
  ·have YE:Hid (vAtR X p (c.nm.drop (m+1)) (m+1)=Q):=(zVI X p c.nm m z hz YA).symm.trans Xy.o
   clear hz;go_wp2
   go_roundw
   case rel=>exact⟨m+1,by omega,by go_num,YE,by first | rfl | trivial⟩
   case measure=>simp[intOf];omega
  have YE:Hid (Q=((m:Int),U7 p)):=Xy.o.symm.trans (zWa X p c.nm m z hz YA);clear hz;go_wp2
  go_ret
  exact⟨by rw[YE.o];rfl,by rw[YE.o];exact X9.o,UX.o⟩
 have YE:Hid (Q=(0,XY 5 p)):=Xy.o.symm.trans (zWb X p c.nm m (by omega))
 go_wp2_with fail
 refine (NL c p 5 _ ZK.o).mono ?_;rintro e w3 ⟨rfl,h3,Yj⟩;have Zq:=hI h3;have Yw:=hI (Zo.o.trans Yj);clear h3 Yj k1 k4 z1;go_wp2
 go_ret
 exact⟨by rw[YE.o];rfl,by rw[YE.o];exact Zq.o,Yw.o⟩
theorem A5 (b:UInt8):We ⟨#[b]⟩:=by
 unfold We;rw[ByteArray.toList_eq,ByteArray.toList_eq];rfl
theorem x7 (c:RC) (p:RP) (w:World) (h:RSt c p w) :
 Calls prog 105 #[.pointer (some ⟨c.R,0,none⟩),.bool true] w λe w'=>e=.returned (.bool (PV c.en c.T p).1)/\RSt c (PV c.en c.T p).2 w'/\Fr (XR9 c.R) w w':=by
 have HS:=hI h;obtain⟨Q,hQ⟩:∃Q,PV c.en c.T p=Q:=⟨_,rfl⟩;rw[hQ];obtain⟨p1,Vh⟩:∃p1,Y5 c.en c.T ⟨#[91]⟩ p=p1:=⟨_,rfl⟩;have Xt:=hI Vh;have HQ:Hid (Q=if ((txR c.en c.T p1).toList==[93])=true then (false,Y5 c.en c.T ⟨#[93]⟩ p1) else (decide (p1.er=0),p1)):=by
  show _=_;rw[<-hQ];unfold PV;rw[Vh]
 clear h hQ Vh;go_enter func105,ntmps105
 go_wp2_with fail
 refine (Ou c p ⟨#[91]⟩ (A5 _) _ HS.o).mono ?_;rintro e w1 ⟨rfl,h1,W9⟩;rw[Xt.o] at h1;have Za:=hI h1;have Xh:=hI W9;clear h1 W9;go_wp2_with fail
 refine (My c p1 _ Za.o).mono ?_;rintro e w2 ⟨rfl,n2,h2⟩;have ZI:Hid (Bw w1 w2):=PU h2;have ZK:Hid (RSt c p1 w2):=Za.o.below ZI.o;have Zo:Hid (Fr (XR9 c.R) w w2):=Xh.o.trans (Fr.below ZI.o);clear h2;obtain⟨X,hX⟩:∃X,txR c.en c.T p1=X:=⟨_,rfl⟩;rw[hX] at HQ ⊢;clear hX;cases hq:(X.toList==[93])
 ·have HN:Hid (Q=(decide (p1.er=0),p1)):=by show _=_;rw[HQ.o,hq];rfl
  obtain⟨v,hR,_⟩:=ZK.o.blk;have k3:w2.cell? ⟨c.R,3,none⟩=some (.int .i64 p1.er):=Z_ hR 3 _ rfl;clear hR;go_wp2
  go_ret
  exact⟨by rw[HN.o];exact ZD (by rw[Yg];simp),by rw[HN.o];exact ZK.o,Zo.o⟩
 have HN:Hid (Q=(false,Y5 c.en c.T ⟨#[93]⟩ p1)):=by show _=_;rw[HQ.o,hq];rfl
 go_wp2_with fail
 refine (Ou c p1 ⟨#[93]⟩ (A5 _) _ ZK.o).mono ?_;rintro e w3 ⟨rfl,h3,Yj⟩;have Zq:=hI h3;have Yw:=hI (Zo.o.trans Yj);clear h3 Yj;go_wp2
 go_ret
 exact⟨by rw[HN.o];rfl,by rw[HN.o];exact Zq.o,Yw.o⟩
theorem xZ (c:RC) (p:RP) (w:World) (h:RSt c p w) :
 Calls prog 105 #[.pointer (some ⟨c.R,0,none⟩),.bool false] w λe w'=>e=.returned (.bool (VT c.en c.T p).1)/\RSt c (VT c.en c.T p).2 w'/\Fr (XR9 c.R) w w':=by
 have HS:=hI h;obtain⟨Q,hQ⟩:∃Q,VT c.en c.T p=Q:=⟨_,rfl⟩;rw[hQ];have HQ:Hid (Q=if ((txR c.en c.T p).toList==[44])=true then (true,Y5 c.en c.T ⟨#[44]⟩ p) else (false,Y5 c.en c.T ⟨#[93]⟩ p)):=by
  show _=_;rw[<-hQ];rfl
 clear h hQ;go_enter func105,ntmps105
 go_wp2_with fail
 refine (My c p _ HS.o).mono ?_;rintro e w2 ⟨rfl,n2,h2⟩;have ZI:Hid (Bw w w2):=PU h2;have ZK:Hid (RSt c p w2):=HS.o.below ZI.o;have Zo:Hid (Fr (XR9 c.R) w w2):=Fr.below ZI.o;clear h2;obtain⟨X,hX⟩:∃X,txR c.en c.T p=X:=⟨_,rfl⟩;rw[hX] at HQ ⊢;clear hX;cases hq:(X.toList==[44])
 ·have HN:Hid (Q=(false,Y5 c.en c.T ⟨#[93]⟩ p)):=by show _=_;rw[HQ.o,hq];rfl
  go_wp2_with fail
  refine (Ou c p ⟨#[93]⟩ (A5 _) _ ZK.o).mono ?_;rintro e w3 ⟨rfl,h3,Yj⟩;have Zq:=hI h3;have Yw:=hI (Zo.o.trans Yj);clear h3 Yj;go_wp2
  go_ret
  exact⟨by rw[HN.o];rfl,by rw[HN.o];exact Zq.o,Yw.o⟩
 have HN:Hid (Q=(true,Y5 c.en c.T ⟨#[44]⟩ p)):=by show _=_;rw[HQ.o,hq];rfl
 go_wp2_with fail
 refine (Ou c p ⟨#[44]⟩ (A5 _) _ ZK.o).mono ?_;rintro e w3 ⟨rfl,h3,Yj⟩;have Zq:=hI h3;have Yw:=hI (Zo.o.trans Yj);clear h3 Yj;go_wp2
 go_ret
 exact⟨by rw[HN.o];rfl,by rw[HN.o];exact Zq.o,Yw.o⟩
end Go.Proofs.YtndcpnlaadikoaaGreatDoor
