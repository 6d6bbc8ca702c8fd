/- What the proof leans on, part 39. -/
import Derived.Test.YtdjbejlbmaiocagGreatDoorPartBk
import Derived.Test.YtdjbejlbmaiocagGreatDoorPartBl
import Derived.Test.YtdjbejlbmaiocagGreatDoorPartBc
import Derived.Deep.CutBlock
import Derived.Deep.DeepCutAuto
set_option maxRecDepth 100000
set_option maxHeartbeats 3200000
namespace Go.Proofs.YtdjbejlbmaiocagGreatDoor
open Go.RowKit
def zDT:List ByteArray:=[⟨#[118,97,114]⟩,⟨#[99,111,110]⟩,⟨#[115,111,108,118,101]⟩,⟨#[108,101]⟩,⟨#[101,113]⟩,⟨#[110,101]⟩,⟨#[100,105,102,102,101,114]⟩,⟨#[101,108,101,109,101,110,116]⟩,⟨#[116,97,98,108,101]⟩,⟨#[116,105,109,101,115]⟩,⟨#[109,97,120]⟩,⟨#[99,108,97,117,115,101]⟩,⟨#[105,102,102]⟩,⟨#[97,110,121]⟩,⟨#[108,101,97,115,116]⟩,⟨#[109,111,115,116]⟩]
theorem zSq (w:World) (l:List ByteArray) (B:Nat) (hB:B=w.heap.size) (hl:l.length≤100):SArg (w.alloc (.cells (l.map Value.string).toArray 9)) (.slice (some ⟨B,0,none⟩) l.length l.length) l:=by
 subst hB;refine⟨_,l.length,rfl,⟨Nat.le_refl _,by unfold maxLen;omega⟩,fun i z hz=>⟨_,0,rfl,by simp,?_⟩⟩
 rw[World.cell?_alloc_at _ _ _ (0+i) (by simp)]
 simp[hz]
theorem zRH (f:ByteArray→Bool) (l:List ByteArray) (m:Nat) (s:ByteArray) (hs:l[m]? = some s) (h:(l.take m).any f=false) (hf:f s=false):(l.take (m+1)).any f=false:=by
 rw[List.take_add_one,hs,List.any_append,h];show (false || (f s || false))=false
 rw[hf];rfl
theorem zSr (f:ByteArray→Bool) (l:List ByteArray) (m:Nat) (s:ByteArray) (hs:l[m]? = some s) (hf:f s=true):l.any f=true :=
 List.any_eq_true.2 ⟨s,List.mem_of_getElem? hs,hf⟩
theorem zRI (s:ByteArray):zDT.any (fun z=>z.toList==s.toList)=zD1 s:=by
 have h:∀z:ByteArray,(z.toList==s.toList)=(s.toList==z.toList):=fun z=>Bool.eq_iff_iff.2 ⟨fun h=>beq_iff_eq.2 (beq_iff_eq.1 h).symm,fun h=>beq_iff_eq.2 (beq_iff_eq.1 h).symm⟩
 simp only[h];unfold zDT zD1;simp only[List.any_cons,List.any_nil,Bool.or_false,ByteArray.toList_eq]
theorem zPK (s:ByteArray) (w:World) :
 Calls Tryz.prog 91 #[.string s] w fun e w'=>e=.returned (.bool (zD1 s))∧Below w.heap.size w w':=by
 obtain⟨R,hR⟩:∃R,zD1 s=R:=⟨_,rfl⟩;have HR:Hid (zDT.any (fun z=>z.toList==s.toList)=R):=(zRI s).trans hR
 rw[hR];clear hR;have HB:Hid (Below w.heap.size w (w.alloc (.cells (zDT.map Value.string).toArray 9))):=zAA _ _;have HV:Hid (SArg (w.alloc (.cells (zDT.map Value.string).toArray 9)) (.slice (some ⟨w.heap.size,0,none⟩) 16 16) zDT):=zSq w zDT _ rfl (by decide)
 have HL:Hid (zDT.length=16):=rfl;obtain⟨W,hW⟩:∃W,w.alloc (.cells (zDT.map Value.string).toArray 9)=W:=⟨_,rfl⟩;have HW:Hid (w.alloc (.cells (zDT.map Value.string).toArray 9)=W):=hW;rw[hW] at HB HV;clear hW;go_enter Tryz.func91,Tryz.ntmps91
 go_wp2_with fail
 rw[show w.alloc (.cells #[.string ⟨#[118,97,114]⟩,.string ⟨#[99,111,110]⟩,.string ⟨#[115,111,108,118,101]⟩,.string ⟨#[108,101]⟩,.string ⟨#[101,113]⟩,.string ⟨#[110,101]⟩,.string ⟨#[100,105,102,102,101,114]⟩,.string ⟨#[101,108,101,109,101,110,116]⟩,.string ⟨#[116,97,98,108,101]⟩,.string ⟨#[116,105,109,101,115]⟩,.string ⟨#[109,97,120]⟩,.string ⟨#[99,108,97,117,115,101]⟩,.string ⟨#[105,102,102]⟩,.string ⟨#[97,110,121]⟩,.string ⟨#[108,101,97,115,116]⟩,.string ⟨#[109,111,115,116]⟩] 9)=W from HW.out]
 go_loopw [4] (fun i wr=>∃m:Nat,m≤16∧i=.int .i64 m∧Hid ((zDT.take m).any (fun z=>z.toList==s.toList)=false)∧wr=W) (fun i _=>16 - (intOf i).toNat)
 case atStart=>exact⟨0,by omega,rfl,rfl,rfl⟩
 case round =>
  obtain⟨m,hm,rfl,hno,rfl⟩:=hrel;by_cases hlt:m<16
  ·obtain⟨z,hz⟩:∃z,zDT[m]? = some z:=⟨_,List.getElem?_eq_getElem (by rw[HL.out];exact hlt)⟩
   obtain⟨a,c,hva,_,hr⟩:=HV.out;obtain⟨b,off,ha,hb,hc⟩:=hr m z hz;cases hva
   cases ha
   rw[Nat.zero_add] at hc;clear hr;cases hq:(z.toList==s.toList)
   ·have HN:Hid ((zDT.take (m+1)).any (fun z=>z.toList==s.toList)=false):=zRH _ _ m z hz hno.out hq
    clear hz;go_wp2
    go_roundw
    case rel=>exact⟨m+1,by omega,by go_num,HN,by first | rfl | trivial⟩
    case measure=>simp[intOf];omega
   ·have HN:Hid (R=true):=HR.out.symm.trans (zSr _ _ m z hz hq)
    clear hz;go_wp2
    go_ret
    exact⟨zAC HN.out.symm,HB.out⟩
  ·obtain rfl:m=16:=by omega
   have HN:Hid (R=false):=HR.out.symm.trans hno.out;go_wp2
   go_ret
   exact⟨zAC HN.out.symm,HB.out⟩
theorem zHA (s:ByteArray) (hs:s.size≤maxLen) (w:World) :
 Calls Tryz.prog 43 #[.string s] w fun e w'=>e=.returned (.bool (zAb s))∧Below w.heap.size w w':=by
 have HS:Hid (s.size≤maxLen):=hs;obtain⟨A,hA⟩:∃A,zE7 1 s=A:=⟨_,rfl⟩;obtain⟨C,hC⟩:∃C,zD1 s=C:=⟨_,rfl⟩;have HC:Hid (zD1 s=C):=hC;have HA:Hid (zE7 1 s=A):=hA;unfold zAb;rw[hA,hC];clear hA hC hs;go_enter Tryz.func43,Tryz.ntmps43
 go_wp2_with fail
 refine (zRG 1 s HS.out _).mono ?_;rintro e w ⟨rfl,rfl⟩;rw[HA.out];cases A
 ·go_wp2
  go_ret
  exact⟨rfl,Below.refl _ _⟩
 ·go_wp2_with fail
  refine (zPK s _).mono ?_;rintro e w1 ⟨rfl,hb⟩;rw[HC.out];go_wp2
  go_ret
  exact⟨zAC (by simp),hb⟩
theorem zSs (en:Int) (T:List Tok) (p:RP) (ws:List ByteArray) (m:Nat) (s:ByteArray) (hs:ws[m]? = some s) (he:p.er=0) (h:((txR en T p).toList==s.toList)=true):zAn en T p (ws.drop m) m=((m:Int),zCm p):=by
 obtain⟨hm,rfl⟩:=List.getElem?_eq_some_iff.1 hs;rw[List.drop_eq_getElem_cons hm,zAn,if_pos ⟨he,h⟩]
theorem zL1 (en:Int) (T:List Tok) (p:RP) (ws:List ByteArray) (m:Nat) (s:ByteArray) (hs:ws[m]? = some s) (h:¬(p.er=0∧((txR en T p).toList==s.toList)=true)):zAn en T p (ws.drop m) m=zAn en T p (ws.drop (m+1)) (m+1):=by
 obtain⟨hm,rfl⟩:=List.getElem?_eq_some_iff.1 hs;rw[List.drop_eq_getElem_cons hm,zAn,if_neg h]
theorem zSt (en:Int) (T:List Tok) (p:RP) (ws:List ByteArray) (m:Nat) (hm:ws.length≤m):zAn en T p (ws.drop m) m=(0,zAT 1 p):=by
 rw[List.drop_eq_nil_of_le hm,zAn]
theorem zIw (c:RC) (p:RP) (ws:List ByteArray) (hs:∀s∈ws,zBz s) (v:Value) (w:World) (h:RSt c p w) (hv:SArg w v ws) :
 Calls Tryz.prog 63 #[.pointer (some ⟨c.R,0,none⟩),v] w fun e w'=>e=.returned (.int .i64 (zAn c.en c.T p ws 0).1)∧RSt c (zAn c.en c.T p ws 0).2 w'∧Fr (XR9 c.R) w w':=by
 have HS:Hid (RSt c p w):=h;have HSO:Hid (∀s∈ws,zBz s):=hs;obtain⟨Q,hQ⟩:∃Q,zAn c.en c.T p ws 0=Q:=⟨_,rfl⟩;have HQ:Hid (zAn c.en c.T p (ws.drop 0) 0=Q):=by rw[List.drop_zero];exact hQ
 rw[hQ];obtain⟨X,hX⟩:∃X,txR c.en c.T p=X:=⟨_,rfl⟩;have HX:Hid (txR c.en c.T p=X):=hX;have HCT:Hid (∀p' q:Nat,Calls Tryz.prog 58 #[.pointer (some ⟨c.R,0,none⟩)] (w.drewN (p'+q)) fun e w'=>e=.returned (.string X)∧∃n,w'=w.drewN (p'+n)):=by
  intro p' q;refine (zCK c p _ (HS.out.below (zA2 rfl))).mono ?_;rintro e w' ⟨rfl,n,rfl⟩;rw[hX];exact⟨rfl,q+n,by rw[zD0,Nat.add_assoc]⟩
 have hk3:=h.kT;obtain⟨v',hR,hT⟩:=h.blk;have hT4:c.T.length≤4000:=by obtain⟨a,c,_,_,ht,_⟩:=hT;exact ht.1
 have k3:w.cell? ⟨c.R,3,none⟩=some (.int .i64 p.er):=blk9 hR 3 _ rfl;have k1:w.cell? ⟨c.R,1,none⟩=some (.int .i64 (p.k:Int)):=blk9 hR 1 _ rfl;have z1:=frz9 hR 1;have hlt:=h.lt;obtain⟨a,cc,rfl,hm,hr⟩:=hv;have HV:Hid (∀(i:Nat) (z:ByteArray),ws[i]? = some z→∃b off,a=some ⟨b,off,none⟩∧b<w.heap.size∧w.cell? ⟨b,off+i,none⟩=some (.string z)):=hr;unfold maxLen at hm;obtain⟨hm1,hm⟩:=hm;clear hR hT h hs hQ hX hr;go_enter Tryz.func63,Tryz.ntmps63
 go_wp2_with fail
 go_loopw [5] (fun i wr=>∃m:Nat,m≤ws.length∧i=.int .i64 m∧Hid (zAn c.en c.T p (ws.drop m) m=Q)∧∃n,wr=w.drewN n) (fun i _=>ws.length - (intOf i).toNat)
 case atStart=>exact⟨0,by omega,rfl,HQ,0,rfl⟩
 case round =>
  obtain⟨m,hml,rfl,hno,nq,rfl⟩:=hrel;have HS1:Hid (RSt c p (w.drewN nq)):=HS.out.below (zA2 rfl);have HF1:Hid (Fr (XR9 c.R) w (w.drewN nq)):=Fr.below (zA2 rfl);by_cases hlt2:m<ws.length
  ·obtain⟨z,hz⟩:∃z,ws[m]? = some z:=⟨_,List.getElem?_eq_getElem hlt2⟩
   obtain⟨b,off,rfl,hb,hc⟩:=HV.out m z hz;by_cases he:p.er=0
   ·cases hq:(X.toList==z.toList)
    ·have HN:Hid (zAn c.en c.T p (ws.drop (m+1)) (m+1)=Q):=(zL1 c.en c.T p ws m z hz (by rw[HX.out,hq];simp)).symm.trans hno.out
     rw[he] at k3;clear hz he;go_wp2
     go_quiet ((go_at_call 58;exact HCT.out _ _))
     go_wp2
     go_roundw
     case rel=>exact⟨m+1,by omega,by go_num,HN,_,rfl⟩
     case measure=>simp[intOf];omega
    ·have HN:Hid (Q=((m:Int),zCm p)):=hno.out.symm.trans (zSs c.en c.T p ws m z hz he (by rw[HX.out];exact hq))
     have hk:p.k<c.T.length:=(zRC c.en c.T p (by have h1:=HSO.out z (List.mem_of_getElem? hz);unfold zBz at h1;rw[HX.out,beq_iff_eq.1 hq];exact h1)).2
     have HS2:Hid (∀n,RSt c (zCm p) ((w.drewN n).setCell ⟨c.R,1,none⟩ (.int .i64 ((p.k:Int)+1)))):=fun n=>(HS.out.below (zA2 rfl)).step hk
     have HF2:Hid (∀n,Fr (XR9 c.R) w ((w.drewN n).setCell ⟨c.R,1,none⟩ (.int .i64 ((p.k:Int)+1)))):=fun n=>(Fr.below (zA2 rfl)).trans (zE5 _ _ _ _)
     rw[he] at k3;clear hz he;go_wp2
     go_quiet ((go_at_call 58;exact HCT.out _ _))
     go_wp2
     go_ret
     exact⟨by rw[HN.out];rfl,by rw[HN.out];exact HS2.out _,HF2.out _⟩
   ·have HN:Hid (zAn c.en c.T p (ws.drop (m+1)) (m+1)=Q):=(zL1 c.en c.T p ws m z hz (fun hq=>he hq.1)).symm.trans hno.out
    have q0:(p.er==0)=false:=by simpa using he
    clear hz he;go_wp2
    go_quiet (fail)
    go_wp2
    go_roundw
    case rel=>exact⟨m+1,by omega,by go_num,HN,_,rfl⟩
    case measure=>simp[intOf];omega
  ·have HN:Hid (Q=(0,zAT 1 p)):=hno.out.symm.trans (zSt c.en c.T p ws m (by omega))
   go_wp2_with fail
   refine (zBX c p 1 _ HS1.out).mono ?_;rintro e w2 ⟨rfl,h2,hf2⟩;have HS2:Hid (RSt c (zAT 1 p) w2):=h2;have HF2:Hid (Fr (XR9 c.R) w w2):=HF1.out.trans hf2;clear h2 hf2 k1 k3 z1;go_wp2
   go_ret
   exact⟨by rw[HN.out];rfl,by rw[HN.out];exact HS2.out,HF2.out⟩
theorem zHB (en:Int) (T:List Tok) (p:RP) (h:¬(p.er=0∧p.k<T.length)):txR en T p=ByteArray.empty:=by
 unfold txR;by_cases he:p.er=0
 ·rw[if_pos he,zHj en T p.k (by omega)]
 ·rw[if_neg he]
theorem zTq (en:Int) (T:List Tok) (p:RP) (h:zAb (txR en T p)=true):p.er=0∧p.k<T.length:=by
 apply Classical.byContradiction;intro hn;rw[zHB en T p hn,zCn] at h;cases h
theorem RSt.size {c:RC} {p:RP} {w:World} (h:RSt c p w):(txR c.en c.T p).size≤4000:=by
 by_cases hn:p.er=0∧p.k<c.T.length
 ·unfold txR
  rw[if_pos hn.1];obtain⟨v,_,a,c',_,_,ht,_⟩:=h.blk;have e:c.T[p.k]? = some c.T[p.k]:=List.getElem?_eq_getElem hn.2;rw[zGm c.en c.T p.k _ e];exact (ht.2 _ (List.mem_of_getElem? e)).1
 ·rw[zHB _ _ _ hn]
  show 0≤4000;omega
theorem zTr (s:ByteArray) (p:RP) (nm:List ByteArray) (m:Nat) (n:ByteArray) (hn:nm[m]? = some n) (h:(n.toList==s.toList)=true):vAtR s p (nm.drop m) m=((m:Int),zCm p):=by
 obtain⟨hm,rfl⟩:=List.getElem?_eq_some_iff.1 hn;rw[List.drop_eq_getElem_cons hm,vAtR,if_pos h]
theorem zSu (s:ByteArray) (p:RP) (nm:List ByteArray) (m:Nat) (n:ByteArray) (hn:nm[m]? = some n) (h:(n.toList==s.toList)=false):vAtR s p (nm.drop m) m=vAtR s p (nm.drop (m+1)) (m+1):=by
 obtain⟨hm,rfl⟩:=List.getElem?_eq_some_iff.1 hn;rw[List.drop_eq_getElem_cons hm,vAtR,if_neg (by rw[h];simp)]
theorem zTs (s:ByteArray) (p:RP) (nm:List ByteArray) (m:Nat) (hm:nm.length≤m):vAtR s p (nm.drop m) m=(0,zAT 5 p):=by
 rw[List.drop_eq_nil_of_le hm,vAtR]
theorem zFv (c:RC) (p:RP) (w:World) (h:RSt c p w) :
 Calls Tryz.prog 64 #[.pointer (some ⟨c.R,0,none⟩)] w fun e w'=>e=.returned (.int .i64 (vR c.en c.T c.nm p).1)∧RSt c (vR c.en c.T c.nm p).2 w'∧Fr (XR9 c.R) w w':=by
 have HS:Hid (RSt c p w):=h;have HSZ:Hid ((txR c.en c.T p).size≤maxLen):=Nat.le_trans h.size (by unfold maxLen;omega)
 have HTN:Hid (zAb (txR c.en c.T p)=true→p.er=0∧p.k<c.T.length):=zTq c.en c.T p;obtain⟨X,hX⟩:∃X,txR c.en c.T p=X:=⟨_,rfl⟩;have HX:Hid (txR c.en c.T p=X):=hX;obtain⟨Q,hQ⟩:∃Q,vR c.en c.T c.nm p=Q:=⟨_,rfl⟩;rw[hQ];have HVR:Hid (Q=if zAb X then vAtR X p c.nm 0 else (0,zAT 1 p)):=by show _=_;rw[←hQ];unfold vR;rw[hX]
 clear hQ;rw[hX] at HSZ HTN;have hT4:c.T.length≤4000:=by obtain⟨v,_,a,c,_,_,ht,_⟩:=h.blk;exact ht.1
 have hk3:=h.kT;clear hX h;go_enter Tryz.func64,Tryz.ntmps64
 go_wp2_with fail
 refine (zCK c p _ HS.out).mono ?_;rintro e w1 ⟨rfl,n1,h1⟩;rw[HX.out];have HB1:Hid (Below w.heap.size w w1):=zA2 h1;clear h1;go_wp2_with fail
 refine (zHA X HSZ.out _).mono ?_;rintro e w2 ⟨rfl,h2⟩;have HB2:Hid (Below w.heap.size w w2):=HB1.out.trans (h2.mono HB1.out.size);have HS2:Hid (RSt c p w2):=HS.out.below HB2.out;have HF2:Hid (Fr (XR9 c.R) w w2):=Fr.below HB2.out;clear h2;cases hq:zAb X
 ·have HN:Hid (Q=(0,zAT 1 p)):=by show _=_;rw[HVR.out,hq];rfl
  go_wp2_with fail
  refine (zBX c p 1 _ HS2.out).mono ?_;rintro e w3 ⟨rfl,h3,hf3⟩;have HS3:Hid (RSt c (zAT 1 p) w3):=h3;have HF3:Hid (Fr (XR9 c.R) w w3):=HF2.out.trans hf3;clear h3 hf3;go_wp2
  go_ret
  exact⟨by rw[HN.out];rfl,by rw[HN.out];exact HS3.out,HF3.out⟩
 ·have HQ:Hid (vAtR X p (c.nm.drop 0) 0=Q):=by show _=_;rw[HVR.out,hq,List.drop_zero];rfl
  obtain⟨he,hk⟩:=HTN.out hq;have HS4:Hid (RSt c (zCm p) (w2.setCell ⟨c.R,1,none⟩ (.int .i64 ((p.k:Int)+1)))):=HS2.out.step hk;have HF4:Hid (Fr (XR9 c.R) w (w2.setCell ⟨c.R,1,none⟩ (.int .i64 ((p.k:Int)+1)))):=HF2.out.trans (zE5 _ _ _ _);obtain⟨v,hR,_⟩:=HS2.out.blk;obtain⟨a,cc,hvv,hm,hr⟩:=HS2.out.nms;rw[hvv] at hR;have k1:w2.cell? ⟨c.R,1,none⟩=some (.int .i64 (p.k:Int)):=blk9 hR 1 _ rfl;have k4:w2.cell? ⟨c.R,4,none⟩=some (.slice a c.nm.length cc):=blk9 hR 4 _ rfl;have z1:=frz9 hR 1;have HV:Hid (∀(i:Nat) (t:ByteArray),c.nm[i]? = some t→∃b off,a=some ⟨b,off,none⟩∧b≠c.R∧b<c.NB∧w2.cell? ⟨b,off+i * 3,none⟩=some (.string t)):=hr;unfold maxLen at hm;obtain⟨hm1,hm⟩:=hm;clear hR hr hvv he;go_wp2_with fail
  go_loopw [4] (fun i wr=>∃m:Nat,m≤c.nm.length∧i=.int .i64 m∧Hid (vAtR X p (c.nm.drop m) m=Q)∧wr=w2) (fun i _=>c.nm.length - (intOf i).toNat)
  case atStart=>exact⟨0,by omega,rfl,HQ,rfl⟩
  case round =>
   obtain⟨m,hml,rfl,hno,rfl⟩:=hrel;by_cases hlt2:m<c.nm.length
   ·obtain⟨z,hz⟩:∃z,c.nm[m]? = some z:=⟨_,List.getElem?_eq_getElem hlt2⟩
    obtain⟨b,off,rfl,_,hb,hc⟩:=HV.out m z hz;cases hq2:(z.toList==X.toList)
    ·have HN2:Hid (vAtR X p (c.nm.drop (m+1)) (m+1)=Q):=(zSu X p c.nm m z hz hq2).symm.trans hno.out
     clear hz;go_wp2
     go_roundw
     case rel=>exact⟨m+1,by omega,by go_num,HN2,by first | rfl | trivial⟩
     case measure=>simp[intOf];omega
    ·have HN2:Hid (Q=((m:Int),zCm p)):=hno.out.symm.trans (zTr X p c.nm m z hz hq2)
     clear hz;go_wp2
     go_ret
     exact⟨by rw[HN2.out];rfl,by rw[HN2.out];exact HS4.out,HF4.out⟩
   ·have HN2:Hid (Q=(0,zAT 5 p)):=hno.out.symm.trans (zTs X p c.nm m (by omega))
    go_wp2_with fail
    refine (zBX c p 5 _ HS2.out).mono ?_;rintro e w3 ⟨rfl,h3,hf3⟩;have HS3:Hid (RSt c (zAT 5 p) w3):=h3;have HF3:Hid (Fr (XR9 c.R) w w3):=HF2.out.trans hf3;clear h3 hf3 k1 k4 z1;go_wp2
    go_ret
    exact⟨by rw[HN2.out];rfl,by rw[HN2.out];exact HS3.out,HF3.out⟩
theorem zL2 (b:UInt8):zBz ⟨#[b]⟩:=by
 unfold zBz;rw[ByteArray.toList_eq,ByteArray.toList_eq];rfl
theorem zFk (c:RC) (p:RP) (w:World) (h:RSt c p w) :
 Calls Tryz.prog 117 #[.pointer (some ⟨c.R,0,none⟩),.bool true] w fun e w'=>e=.returned (.bool (zDA c.en c.T p).1)∧RSt c (zDA c.en c.T p).2 w'∧Fr (XR9 c.R) w w':=by
 have HS:Hid (RSt c p w):=h;obtain⟨Q,hQ⟩:∃Q,zDA c.en c.T p=Q:=⟨_,rfl⟩;rw[hQ];obtain⟨p1,hp1⟩:∃p1,zAU c.en c.T ⟨#[91]⟩ p=p1:=⟨_,rfl⟩;have HP1:Hid (zAU c.en c.T ⟨#[91]⟩ p=p1):=hp1;have HQ:Hid (Q=if ((txR c.en c.T p1).toList==[93])=true then (false,zAU c.en c.T ⟨#[93]⟩ p1) else (decide (p1.er=0),p1)):=by
  show _=_;rw[←hQ];unfold zDA;rw[hp1]
 clear h hQ hp1;go_enter Tryz.func117,Tryz.ntmps117
 go_wp2_with fail
 refine (zBo c p ⟨#[91]⟩ (zL2 _) _ HS.out).mono ?_;rintro e w1 ⟨rfl,h1,hf1⟩;rw[HP1.out] at h1;have HS1:Hid (RSt c p1 w1):=h1;have HF1:Hid (Fr (XR9 c.R) w w1):=hf1;clear h1 hf1;go_wp2_with fail
 refine (zCK c p1 _ HS1.out).mono ?_;rintro e w2 ⟨rfl,n2,h2⟩;have HB2:Hid (Below w1.heap.size w1 w2):=zA2 h2;have HS2:Hid (RSt c p1 w2):=HS1.out.below HB2.out;have HF2:Hid (Fr (XR9 c.R) w w2):=HF1.out.trans (Fr.below HB2.out);clear h2;obtain⟨X,hX⟩:∃X,txR c.en c.T p1=X:=⟨_,rfl⟩;rw[hX] at HQ ⊢;clear hX;cases hq:(X.toList==[93])
 ·have HN:Hid (Q=(decide (p1.er=0),p1)):=by show _=_;rw[HQ.out,hq];rfl
  obtain⟨v,hR,_⟩:=HS2.out.blk;have k3:w2.cell? ⟨c.R,3,none⟩=some (.int .i64 p1.er):=blk9 hR 3 _ rfl;clear hR;go_wp2
  go_ret
  exact⟨by rw[HN.out];exact zAC (by rw[Bool.eq_iff_iff];simp),by rw[HN.out];exact HS2.out,HF2.out⟩
 ·have HN:Hid (Q=(false,zAU c.en c.T ⟨#[93]⟩ p1)):=by show _=_;rw[HQ.out,hq];rfl
  go_wp2_with fail
  refine (zBo c p1 ⟨#[93]⟩ (zL2 _) _ HS2.out).mono ?_;rintro e w3 ⟨rfl,h3,hf3⟩;have HS3:Hid (RSt c (zAU c.en c.T ⟨#[93]⟩ p1) w3):=h3;have HF3:Hid (Fr (XR9 c.R) w w3):=HF2.out.trans hf3;clear h3 hf3;go_wp2
  go_ret
  exact⟨by rw[HN.out];rfl,by rw[HN.out];exact HS3.out,HF3.out⟩
theorem zFl (c:RC) (p:RP) (w:World) (h:RSt c p w) :
 Calls Tryz.prog 117 #[.pointer (some ⟨c.R,0,none⟩),.bool false] w fun e w'=>e=.returned (.bool (zBK c.en c.T p).1)∧RSt c (zBK c.en c.T p).2 w'∧Fr (XR9 c.R) w w':=by
 have HS:Hid (RSt c p w):=h;obtain⟨Q,hQ⟩:∃Q,zBK c.en c.T p=Q:=⟨_,rfl⟩;rw[hQ];have HQ:Hid (Q=if ((txR c.en c.T p).toList==[44])=true then (true,zAU c.en c.T ⟨#[44]⟩ p) else (false,zAU c.en c.T ⟨#[93]⟩ p)):=by
  show _=_;rw[←hQ];rfl
 clear h hQ;go_enter Tryz.func117,Tryz.ntmps117
 go_wp2_with fail
 refine (zCK c p _ HS.out).mono ?_;rintro e w2 ⟨rfl,n2,h2⟩;have HB2:Hid (Below w.heap.size w w2):=zA2 h2;have HS2:Hid (RSt c p w2):=HS.out.below HB2.out;have HF2:Hid (Fr (XR9 c.R) w w2):=Fr.below HB2.out;clear h2;obtain⟨X,hX⟩:∃X,txR c.en c.T p=X:=⟨_,rfl⟩;rw[hX] at HQ ⊢;clear hX;cases hq:(X.toList==[44])
 ·have HN:Hid (Q=(false,zAU c.en c.T ⟨#[93]⟩ p)):=by show _=_;rw[HQ.out,hq];rfl
  go_wp2_with fail
  refine (zBo c p ⟨#[93]⟩ (zL2 _) _ HS2.out).mono ?_;rintro e w3 ⟨rfl,h3,hf3⟩;have HS3:Hid (RSt c (zAU c.en c.T ⟨#[93]⟩ p) w3):=h3;have HF3:Hid (Fr (XR9 c.R) w w3):=HF2.out.trans hf3;clear h3 hf3;go_wp2
  go_ret
  exact⟨by rw[HN.out];rfl,by rw[HN.out];exact HS3.out,HF3.out⟩
 ·have HN:Hid (Q=(true,zAU c.en c.T ⟨#[44]⟩ p)):=by show _=_;rw[HQ.out,hq];rfl
  go_wp2_with fail
  refine (zBo c p ⟨#[44]⟩ (zL2 _) _ HS2.out).mono ?_;rintro e w3 ⟨rfl,h3,hf3⟩;have HS3:Hid (RSt c (zAU c.en c.T ⟨#[44]⟩ p) w3):=h3;have HF3:Hid (Fr (XR9 c.R) w w3):=HF2.out.trans hf3;clear h3 hf3;go_wp2
  go_ret
  exact⟨by rw[HN.out];rfl,by rw[HN.out];exact HS3.out,HF3.out⟩
theorem zOC (l:List UInt8) (m:Nat) (a:UInt8) (h:l[m]? = some a):digV (l.take (m+1))=digV (l.take m) * 10+((a.toNat:Int) - 48):=by
 rw[List.take_add_one,h];simp[digV]
theorem RSt.num {c:RC} {p:RP} {w:World} (h:RSt c p w) (hd:dig0 (txR c.en c.T p)=true):p.k<c.T.length∧(1≤(txR c.en c.T p).size∧(txR c.en c.T p).size≤4)∧∀b∈(txR c.en c.T p).data.toList,48≤b.toNat∧b.toNat≤57:=by
 by_cases hn:p.er=0∧p.k<c.T.length
 ·obtain⟨v,_,a,c',_,_,ht,_⟩:=h.blk
  have e:c.T[p.k]? = some c.T[p.k]:=List.getElem?_eq_getElem hn.2;have e2:txR c.en c.T p=(c.T[p.k]).text:=by unfold txR;rw[if_pos hn.1,zGm c.en c.T p.k _ e]
  have hm:=List.mem_of_getElem? e;rw[e2] at hd ⊢;have:=(ht.2 _ hm).2 (h.dg _ hm hd);exact⟨hn.2,this.1,this.2⟩
 ·rw[zHB _ _ _ hn] at hd
  cases hd
theorem zRJ (X:ByteArray) (h:0<X.size):dig0 X=isD X[0]:=by
 have hl:0<X.data.toList.length:=by rw[zA5];exact h
 have e:=zBT X 0 h hl;unfold dig0
 match hq:X.data.toList with
 | []=>rw[hq] at hl;simp at hl
 | a :: r =>
   have:X[0]=a:=by rw[←e];simp[hq]
   rw[this]
theorem zIx (c:RC) (p:RP) (w:World) (h:RSt c p w) :
 Calls Tryz.prog 61 #[.pointer (some ⟨c.R,0,none⟩)] w fun e w'=>e=.returned (.int .i64 (kR c.en c.T p).1)∧RSt c (kR c.en c.T p).2 w'∧Fr (XR9 c.R) w w':=by
 have HS:Hid (RSt c p w):=h;obtain⟨Q,hQ⟩:∃Q,kR c.en c.T p=Q:=⟨_,rfl⟩;rw[hQ];have HQ:Hid (Q=if ((txR c.en c.T p).toList==[45])=true then zG9 c.en c.T true (zAU c.en c.T ⟨#[45]⟩ p) else zG9 c.en c.T false p):=by
  show _=_;rw[←hQ];rfl
 have hT4:c.T.length≤4000:=by obtain⟨v,_,a,c,_,_,ht,_⟩:=h.blk;exact ht.1
 clear h hQ;go_enter Tryz.func61,Tryz.ntmps61
 go_wp2_with fail
 refine (zCK c p _ HS.out).mono ?_;rintro e w2 ⟨rfl,n2,h2⟩;have HB2:Hid (Below w.heap.size w w2):=zA2 h2;have HS2:Hid (RSt c p w2):=HS.out.below HB2.out;have HF2:Hid (Fr (XR9 c.R) w w2):=Fr.below HB2.out;clear h2;obtain⟨X0,hX0⟩:∃X,txR c.en c.T p=X:=⟨_,rfl⟩;have HX0:Hid (txR c.en c.T p=X0):=hX0;rw[hX0] at HQ ⊢;clear hX0;cases hq0:(X0.toList==[45])
 ·have HQ1:Hid (Q=zG9 c.en c.T false p):=by show _=_;rw[HQ.out,hq0];rfl
  obtain⟨p1,hp1⟩:∃p1,p=p1:=⟨_,rfl⟩;rw[hp1] at HS2 HQ1;have HS1:=HS2;have HF1:=HF2;clear HQ HS2 HF2 HB2 hp1 HX0;go_wp2_with fail
  refine (zCK c p1 _ HS1.out).mono ?_;rintro e w2 ⟨rfl,n2,h2⟩;have HB2:=zA2 h2;have HS2:Hid (RSt c p1 w2):=HS1.out.below HB2;have HF2:Hid (Fr (XR9 c.R) w w2):=HF1.out.trans (Fr.below HB2);clear h2 HB2;have HNUM:Hid (dig0 (txR c.en c.T p1)=true→p1.k<c.T.length∧(1≤(txR c.en c.T p1).size∧(txR c.en c.T p1).size≤4)∧∀b∈(txR c.en c.T p1).data.toList,48≤b.toNat∧b.toNat≤57):=HS2.out.num;have HQ2:Hid (Q=if zE4 false (txR c.en c.T p1)=true then (0,zAT 1 p1) else ((if false then -1 else 1) * digV (txR c.en c.T p1).data.toList,zCm p1)):=HQ1.out
  have hszm:=HS2.out.size;obtain⟨X,hX⟩:∃X,txR c.en c.T p1=X:=⟨_,rfl⟩;rw[hX] at HNUM HQ2 hszm ⊢;clear hX HQ1;by_cases hz:0<X.size
  ·have hem:X.toList.isEmpty=false:=by
    rw[ByteArray.toList_eq];cases h:X.data.toList with
    | nil=>have:=zA5 X;rw[h] at this;simp at this;omega
    | cons a r=>rfl
   have hne:¬X.toList=[]:=by intro h;rw[h] at hem;cases hem
   have hne2:(X.toList==[])=false:=by simpa using hne
   have HDA:Hid (dig0 X=isD X[0]):=zRJ X hz;cases hd:isD X[0]
   ·have HN:Hid (Q=(0,zAT 1 p1)):=by show _=_;rw[HQ2.out,if_pos (by unfold zE4;rw[HDA.out,hd];rfl)]
    go_wp2_with fail
    refine (zBY _ _).mono ?_;rintro e w2 ⟨rfl,rfl⟩;rw[hd];go_wp2_with fail
    refine (zBX c p1 1 _ HS2.out).mono ?_;rintro e w3 ⟨rfl,h3,hf3⟩;have HS3:Hid (RSt c (zAT 1 p1) w3):=h3;have HF3:Hid (Fr (XR9 c.R) w w3):=HF2.out.trans hf3;clear h3 hf3;go_wp2
    go_ret
    exact⟨by rw[HN.out];rfl,by rw[HN.out];exact HS3.out,HF3.out⟩
   ·obtain⟨hk,hsz,hdig⟩:=HNUM.out (HDA.out.trans hd)
    obtain⟨v,hR,_⟩:=HS2.out.blk;have k1:w2.cell? ⟨c.R,1,none⟩=some (.int .i64 (p1.k:Int)):=blk9 hR 1 _ rfl;have z1:=frz9 hR 1;have HS3:Hid (RSt c (zCm p1) (w2.setCell ⟨c.R,1,none⟩ (.int .i64 ((p1.k:Int)+1)))):=HS2.out.step hk;have HF3:Hid (Fr (XR9 c.R) w (w2.setCell ⟨c.R,1,none⟩ (.int .i64 ((p1.k:Int)+1)))):=HF2.out.trans (zE5 _ _ _ _);have HGET:Hid (∀m (h:m<X.size),X[m].toNat<256):=fun m h=>X[m].toNat_lt
    have HDG:Hid (∀m (h:m<X.size),∃D,digV (X.data.toList.take m)=D∧0≤D∧D≤999∧digV (X.data.toList.take (m+1))=D * 10+((X[m].toNat:Int) - 48)∧48≤X[m].toNat∧X[m].toNat≤57):=by
     intro m h;have hl:m<X.data.toList.length:=by rw[zA5];exact h
     have e:=zBT X m h hl;have e2:X.data.toList[m]? = some X[m]:=by rw[List.getElem?_eq_getElem hl,e]
     have hb:=hdig X[m] (List.mem_of_getElem? e2);have b1:=(zCw (X.data.toList.take m) (by rw[List.length_take];omega) (fun b hb=>hdig b (List.mem_of_mem_take hb))).1
     have b2:=(zCw (X.data.toList.take (m+1)) (by rw[List.length_take];omega) (fun b hb=>hdig b (List.mem_of_mem_take hb))).2
     have b3:=zOC _ m _ e2;exact⟨_,rfl,b1,by omega,b3,hb.1,hb.2⟩
    have HDE:Hid (∃D,digV (X.data.toList.take X.size)=D∧0≤D∧D≤9999):=by
     obtain⟨b1,b2⟩:=zCw (X.data.toList.take X.size) (by rw[List.length_take];omega) (fun b hb=>hdig b (List.mem_of_mem_take hb))
     exact⟨_,rfl,b1,b2⟩
    have HTK:Hid (X.data.toList.take X.size=X.data.toList):=List.take_of_length_le (by rw[zA5];exact Nat.le_refl _)
    clear hR hdig
    ·have HQN:Hid (Q=((1:Int) * digV (X.data.toList.take X.size),zCm p1)):=by show _=_;rw[HQ2.out,if_neg (by unfold zE4;rw[HDA.out,hd];simp),HTK.out];rfl
     dsimp only
     go_wp2_with fail
     refine (zBY _ _).mono ?_;rintro e w2 ⟨rfl,rfl⟩;rw[hd];go_wp2_with fail
     go_loopw [5,6] (fun n i wr=>∃m:Nat,m≤X.size∧i=.int .i64 m∧n=.int .i64 (digV (X.data.toList.take m))∧wr=w2) (fun _ i _=>X.size - (intOf i).toNat)
     case atStart=>exact⟨0,by omega,rfl,rfl,rfl⟩
     case round =>
      obtain⟨m,hml,rfl,rfl,rfl⟩:=hrel;by_cases hlt2:m<X.size
      ·obtain⟨D,hD,hD0,hD9,hDn,hc0,hc9⟩:=HDG.out m hlt2
       rw[hD];have hget:=HGET.out m hlt2;clear hD;go_wp2
       go_roundw
       case rel=>exact⟨m+1,by omega,by go_num,by rw[hDn];go_num,by first | rfl | trivial⟩
       case measure=>simp[intOf];omega
      ·obtain rfl:m=X.size:=by omega
       obtain⟨D,hD,hD0,hD9⟩:=HDE.out;rw[hD];have HN:Hid (Q=((1:Int) * D,zCm p1)):=by show _=_;rw[HQN.out,←hD]
       clear hD;go_wp2
       go_ret
       exact⟨by rw[HN.out];first | rfl | (congr 2;simp),by rw[HN.out];exact HS3.out,HF3.out⟩
  ·have hx:X=ByteArray.empty:=by
    have h0:X.data.toList=[]:=List.eq_nil_of_length_eq_zero (by rw[zA5];omega)
    cases X with
    | mk d =>
      have:d=#[]:=by simpa using h0
      subst this;rfl
   have HN:Hid (Q=(0,zAT 1 p1)):=by show _=_;rw[HQ2.out,hx,if_pos (by unfold zE4;rfl)]
   have hem:X.toList.isEmpty=true:=by rw[hx];decide +kernel
   have hne:X.toList=[]:=by rw[hx];decide +kernel
   have hne2:(X.toList==[])=true:=by rw[hne];rfl
   clear hx;go_wp2_with fail
   refine (zBX c p1 1 _ HS2.out).mono ?_;rintro e w3 ⟨rfl,h3,hf3⟩;have HS3:Hid (RSt c (zAT 1 p1) w3):=h3;have HF3:Hid (Fr (XR9 c.R) w w3):=HF2.out.trans hf3;clear h3 hf3;go_wp2
   go_ret
   exact⟨by rw[HN.out];rfl,by rw[HN.out];exact HS3.out,HF3.out⟩
 ·have HQ1:Hid (Q=zG9 c.en c.T true (zAU c.en c.T ⟨#[45]⟩ p)):=by show _=_;rw[HQ.out,hq0];rfl
  go_wp2_with fail
  refine (zBo c p ⟨#[45]⟩ (zL2 _) _ HS2.out).mono ?_;rintro e w1 ⟨rfl,h3,hf3⟩;have HF1:Hid (Fr (XR9 c.R) w w1):=HF2.out.trans hf3;obtain⟨p1,hp1⟩:∃p1,zAU c.en c.T ⟨#[45]⟩ p=p1:=⟨_,rfl⟩;rw[hp1] at h3 HQ1;have HS1:Hid (RSt c p1 w1):=h3;clear h3 hf3 HQ HS2 HF2 HB2 hp1;go_wp2_with fail
  refine (zCK c p1 _ HS1.out).mono ?_;rintro e w2 ⟨rfl,n2,h2⟩;have HB2:=zA2 h2;have HS2:Hid (RSt c p1 w2):=HS1.out.below HB2;have HF2:Hid (Fr (XR9 c.R) w w2):=HF1.out.trans (Fr.below HB2);clear h2 HB2;have HNUM:Hid (dig0 (txR c.en c.T p1)=true→p1.k<c.T.length∧(1≤(txR c.en c.T p1).size∧(txR c.en c.T p1).size≤4)∧∀b∈(txR c.en c.T p1).data.toList,48≤b.toNat∧b.toNat≤57):=HS2.out.num;have HQ2:Hid (Q=if zE4 true (txR c.en c.T p1)=true then (0,zAT 1 p1) else ((if true then -1 else 1) * digV (txR c.en c.T p1).data.toList,zCm p1)):=HQ1.out
  have hszm:=HS2.out.size;obtain⟨X,hX⟩:∃X,txR c.en c.T p1=X:=⟨_,rfl⟩;rw[hX] at HNUM HQ2 hszm ⊢;clear hX HQ1;by_cases hz:0<X.size
  ·have hem:X.toList.isEmpty=false:=by
    rw[ByteArray.toList_eq];cases h:X.data.toList with
    | nil=>have:=zA5 X;rw[h] at this;simp at this;omega
    | cons a r=>rfl
   have hne:¬X.toList=[]:=by intro h;rw[h] at hem;cases hem
   have hne2:(X.toList==[])=false:=by simpa using hne
   have HDA:Hid (dig0 X=isD X[0]):=zRJ X hz;cases hd:isD X[0]
   ·have HN:Hid (Q=(0,zAT 1 p1)):=by show _=_;rw[HQ2.out,if_pos (by unfold zE4;rw[HDA.out,hd];rfl)]
    go_wp2_with fail
    refine (zBY _ _).mono ?_;rintro e w2 ⟨rfl,rfl⟩;rw[hd];go_wp2_with fail
    refine (zBX c p1 1 _ HS2.out).mono ?_;rintro e w3 ⟨rfl,h3,hf3⟩;have HS3:Hid (RSt c (zAT 1 p1) w3):=h3;have HF3:Hid (Fr (XR9 c.R) w w3):=HF2.out.trans hf3;clear h3 hf3;go_wp2
    go_ret
    exact⟨by rw[HN.out];rfl,by rw[HN.out];exact HS3.out,HF3.out⟩
   ·obtain⟨hk,hsz,hdig⟩:=HNUM.out (HDA.out.trans hd)
    obtain⟨v,hR,_⟩:=HS2.out.blk;have k1:w2.cell? ⟨c.R,1,none⟩=some (.int .i64 (p1.k:Int)):=blk9 hR 1 _ rfl;have z1:=frz9 hR 1;have HS3:Hid (RSt c (zCm p1) (w2.setCell ⟨c.R,1,none⟩ (.int .i64 ((p1.k:Int)+1)))):=HS2.out.step hk;have HF3:Hid (Fr (XR9 c.R) w (w2.setCell ⟨c.R,1,none⟩ (.int .i64 ((p1.k:Int)+1)))):=HF2.out.trans (zE5 _ _ _ _);have HGET:Hid (∀m (h:m<X.size),X[m].toNat<256):=fun m h=>X[m].toNat_lt
    have HDG:Hid (∀m (h:m<X.size),∃D,digV (X.data.toList.take m)=D∧0≤D∧D≤999∧digV (X.data.toList.take (m+1))=D * 10+((X[m].toNat:Int) - 48)∧48≤X[m].toNat∧X[m].toNat≤57):=by
     intro m h;have hl:m<X.data.toList.length:=by rw[zA5];exact h
     have e:=zBT X m h hl;have e2:X.data.toList[m]? = some X[m]:=by rw[List.getElem?_eq_getElem hl,e]
     have hb:=hdig X[m] (List.mem_of_getElem? e2);have b1:=(zCw (X.data.toList.take m) (by rw[List.length_take];omega) (fun b hb=>hdig b (List.mem_of_mem_take hb))).1
     have b2:=(zCw (X.data.toList.take (m+1)) (by rw[List.length_take];omega) (fun b hb=>hdig b (List.mem_of_mem_take hb))).2
     have b3:=zOC _ m _ e2;exact⟨_,rfl,b1,by omega,b3,hb.1,hb.2⟩
    have HDE:Hid (∃D,digV (X.data.toList.take X.size)=D∧0≤D∧D≤9999):=by
     obtain⟨b1,b2⟩:=zCw (X.data.toList.take X.size) (by rw[List.length_take];omega) (fun b hb=>hdig b (List.mem_of_mem_take hb))
     exact⟨_,rfl,b1,b2⟩
    have HTK:Hid (X.data.toList.take X.size=X.data.toList):=List.take_of_length_le (by rw[zA5];exact Nat.le_refl _)
    clear hR hdig
    ·cases hq:(X.toList==[48])
     ·have HQN:Hid (Q=((-1:Int) * digV (X.data.toList.take X.size),zCm p1)):=by show _=_;rw[HQ2.out,if_neg (by unfold zE4;rw[HDA.out,hd,hq];simp),HTK.out];rfl
      go_wp2_with fail
      refine (zBY _ _).mono ?_;rintro e w2 ⟨rfl,rfl⟩;rw[hd];go_wp2_with fail
      go_loopw [5,6] (fun n i wr=>∃m:Nat,m≤X.size∧i=.int .i64 m∧n=.int .i64 (digV (X.data.toList.take m))∧wr=w2) (fun _ i _=>X.size - (intOf i).toNat)
      case atStart=>exact⟨0,by omega,rfl,rfl,rfl⟩
      case round =>
       obtain⟨m,hml,rfl,rfl,rfl⟩:=hrel;by_cases hlt2:m<X.size
       ·obtain⟨D,hD,hD0,hD9,hDn,hc0,hc9⟩:=HDG.out m hlt2
        rw[hD];have hget:=HGET.out m hlt2;clear hD;go_wp2
        go_roundw
        case rel=>exact⟨m+1,by omega,by go_num,by rw[hDn];go_num,by first | rfl | trivial⟩
        case measure=>simp[intOf];omega
       ·obtain rfl:m=X.size:=by omega
        obtain⟨D,hD,hD0,hD9⟩:=HDE.out;rw[hD];have HN:Hid (Q=((-1:Int) * D,zCm p1)):=by show _=_;rw[HQN.out,←hD]
        clear hD;go_wp2
        go_ret
        exact⟨by rw[HN.out];first | rfl | (congr 2;simp),by rw[HN.out];exact HS3.out,HF3.out⟩
     ·have HN:Hid (Q=(0,zAT 1 p1)):=by show _=_;rw[HQ2.out,if_pos (by unfold zE4;rw[HDA.out,hd,hq];rfl)]
      clear k1 z1;go_wp2_with fail
      refine (zBY _ _).mono ?_;rintro e w2 ⟨rfl,rfl⟩;rw[hd];go_wp2_with fail
      refine (zBX c p1 1 _ HS2.out).mono ?_;rintro e w3 ⟨rfl,h3,hf3⟩;have HS3:Hid (RSt c (zAT 1 p1) w3):=h3;have HF3:Hid (Fr (XR9 c.R) w w3):=HF2.out.trans hf3;clear h3 hf3;go_wp2
      go_ret
      exact⟨by rw[HN.out];rfl,by rw[HN.out];exact HS3.out,HF3.out⟩
  ·have hx:X=ByteArray.empty:=by
    have h0:X.data.toList=[]:=List.eq_nil_of_length_eq_zero (by rw[zA5];omega)
    cases X with
    | mk d =>
      have:d=#[]:=by simpa using h0
      subst this;rfl
   have HN:Hid (Q=(0,zAT 1 p1)):=by show _=_;rw[HQ2.out,hx,if_pos (by unfold zE4;rfl)]
   have hem:X.toList.isEmpty=true:=by rw[hx];decide +kernel
   have hne:X.toList=[]:=by rw[hx];decide +kernel
   have hne2:(X.toList==[])=true:=by rw[hne];rfl
   clear hx;go_wp2_with fail
   refine (zBX c p1 1 _ HS2.out).mono ?_;rintro e w3 ⟨rfl,h3,hf3⟩;have HS3:Hid (RSt c (zAT 1 p1) w3):=h3;have HF3:Hid (Fr (XR9 c.R) w w3):=HF2.out.trans hf3;clear h3 hf3;go_wp2
   go_ret
   exact⟨by rw[HN.out];rfl,by rw[HN.out];exact HS3.out,HF3.out⟩
end Go.Proofs.YtdjbejlbmaiocagGreatDoor
