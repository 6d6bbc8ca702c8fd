/- What the proof leans on, part 29. -/
import Derived.Test.YtndcpnlaadikoaaGreatDoorPartBb
set_option maxRecDepth 100000
set_option maxHeartbeats 1600000
open Go.Proofs.Tryz
namespace Go.Proofs.YtndcpnlaadikoaaGreatDoor
open Go.RowKit
structure RC where
 N:Nat
 NB:Nat
 R:Nat
 en:Int
 T:List Tok
 nm:List ByteArray
 vv:Value
 vc:Value
 g:Int
 x:Int
def NArg (R NB:Nat) (w:World) (v:Value) (l:List ByteArray):Prop :=
 ∃a c,v=.slice a l.length c/\(l.length<=c/\c<=maxLen)/\∀(i:Nat) (t:ByteArray),l[i]? = some t->∃b off,a=some ⟨b,off,none⟩/\b≠R/\b<NB/\w.cell? ⟨b,off+i * 3,none⟩=some (.string t)
abbrev XR9 (R:Nat):Nat->Prop:=λk=>k=R
theorem NArg.fr {R NB:Nat} {w w':World} {v:Value} {l:List ByteArray} (h:NArg R NB w v l) (hn:NB<=w.heap.size) (hf:Fr (XR9 R) w w'):NArg R NB w' v l:=by
 obtain⟨a,c,hv,hm,hr⟩:=h;refine⟨a,c,hv,hm,λi t ht=>?_⟩
 obtain⟨b,off,ha,hb,Z7,hc⟩:=hr i t ht;exact⟨b,off,ha,hb,Z7,(hf.cell (p:=⟨b,off+i * 3,none⟩) (ZQ Z7 hn) hb).trans hc⟩
structure RSt (c:RC) (p:RP) (w:World):Prop where
 le:c.N<=c.R
 Nw:c.N<=w.heap.size
 nb:c.NB<=w.heap.size
 kT:p.k<=c.T.length
 dg:∀t∈c.T,dig0 t.text=true->t.kind=2
 nms:NArg c.R c.NB w c.vv c.nm
 blk:∃v,w.heap[c.R]? = some (.cells #[v,.int .i64 p.k,.int .i64 c.en,.int .i64 p.er,c.vv,c.vc,.int .i64 c.g,.int .i64 c.x] 90)/\TArg c.N w v c.T
theorem RSt.lt {c:RC} {p:RP} {w:World} (h:RSt c p w):c.R<w.heap.size:=by
 obtain⟨v,hb,_⟩:=h.blk;exact (Z8.1 hb).1
theorem RSt.below {c:RC} {p:RP} {w w':World} (h:RSt c p w) (hb:Bw w w'):RSt c p w':=by
 have Z7:=h.lt;obtain⟨h1,h2,hn,h3,hd,h4,v,hR,hT⟩:=h;exact⟨h1,ZT h2 hb.size,ZT hn hb.size,h3,hd,h4.fr hn (Fr.below hb),v,(hb.block _ Z7).trans hR,hT.old λq hq=>hb.cell (ZQ hq h2)⟩
theorem RSt.grown {c:RC} {p:RP} {w w':World} {row:Option Nat} (h:RSt c p w) (hg:w.grownBy w' row) (hr:∀k,row=some k->k≠c.R/\c.N<=k/\c.NB<=k):RSt c p w':=by
 have Z7:=h.lt;obtain⟨h1,h2,hn,h3,hd,h4,v,hR,hT⟩:=h;refine⟨h1,ZT h2 hg.size,ZT hn hg.size,h3,hd,?_,v,(hg.block c.R Z7 (λe=>(hr _ e.symm).1 rfl)).trans hR,hT.old λq hq=>WD (hg.block _ (by omega) (λe=>by have:=(hr _ e.symm).2.1;omega))⟩
 obtain⟨a,cc,hv,hm,Uz⟩:=h4;refine⟨a,cc,hv,hm,λi t ht=>?_⟩
 obtain⟨b,off,ha,hb,Z7,hc⟩:=Uz i t ht;exact⟨b,off,ha,hb,Z7,(WD (hg.block _ (by show b<_;omega) (λe=>by have:=(hr _ e.symm).2.2;simp only at this;omega))).trans hc⟩
theorem NO (R i:Nat) (w:World) (u:Value):Fr (XR9 R) w (w.setCell ⟨R,i,none⟩ u):=Fr.setX (X:=XR9 R) (Fr.refl (XR9 R) w) (p:=⟨R,i,none⟩) rfl _
theorem RSt.setAt {c:RC} {p:RP} {w:World} (h:RSt c p w) (k':Nat) (hk:k'<=c.T.length):RSt c ⟨k',p.er⟩ (w.setCell ⟨c.R,1,none⟩ (.int .i64 (k':Int))):=by
 obtain⟨h1,h2,hn,h3,hd,h4,v,hb,hT⟩:=h;refine⟨h1,by simpa using h2,by simpa using hn,hk,hd,h4.fr hn (NO _ _ _ _),v,?_,hT.old λq hq=>WD (Below.heap_setCell _ _ _ _ (by simp only;omega))⟩
 rw[heap_setCell_same w c.R 1 _ _ _ hb];rfl
theorem RSt.setE {c:RC} {p:RP} {w:World} (h:RSt c p w) (e':Int):RSt c ⟨p.k,e'⟩ (w.setCell ⟨c.R,3,none⟩ (.int .i64 e')):=by
 obtain⟨h1,h2,hn,h3,hd,h4,v,hb,hT⟩:=h;refine⟨h1,by simpa using h2,by simpa using hn,h3,hd,h4.fr hn (NO _ _ _ _),v,?_,hT.old λq hq=>WD (Below.heap_setCell _ _ _ _ (by simp only;omega))⟩
 rw[heap_setCell_same w c.R 3 _ _ _ hb];rfl
theorem PU {w w':World} {n:Nat} (h:w'=w.drewN n):Bw w w':=by rw[h];exact below_drewN (Z6 _ _) _
theorem yE (en:Int) (T:List Tok) (k:Nat) (t:Tok) (h:T[k]? = some t):ZL en (T.drop k)=t:=by
 obtain⟨hk,rfl⟩:=ZN.1 h;rw[Yc hk];rfl
theorem yD (en:Int) (T:List Tok) (k:Nat) (h:T.length<=k):ZL en (T.drop k)=⟨0,en,ByteArray.empty⟩:=by
 rw[SU h];rfl
theorem My (c:RC) (p:RP) (w:World) (h:RSt c p w) :
 Calls prog 46 #[.pointer (some ⟨c.R,0,none⟩)] w λe w'=>e=.returned (.string (txR c.en c.T p))/\∃n,w'=w.drewN n:=by
 obtain⟨N,NB,R,en,T,nm,vv,vc,g,x⟩:=c;obtain⟨k,er⟩:=p;obtain⟨h1,h2,hn,h3,hd,h4,v,hR,hT⟩:=h
 dsimp only at *
 obtain⟨a,c,rfl,hm,ht,hr⟩:=hT;have k0:w.cell? ⟨R,0,none⟩=some (.slice a T.length c):=Z_ hR 0 _ rfl;have k1:w.cell? ⟨R,1,none⟩=some (.int .i64 (k:Int)):=Z_ hR 1 _ rfl;have k3:w.cell? ⟨R,3,none⟩=some (.int .i64 er):=Z_ hR 3 _ rfl;unfold maxLen at hm;clear hR hd h4;by_cases he:er=0
 ·subst he
  by_cases hk:k<T.length
  ·obtain⟨t,Od⟩:∃t,T[k]? = some t:=⟨T[k],ZA hk⟩
   obtain⟨b,off,rfl,hb,c0,c1,c2⟩:=hr k t Od;have HE:Hid (txR en T ⟨k,0⟩=t.text):=by
    show _=_;unfold txR;rw[if_pos rfl,yE en T k t Od]
   rw[HE.o];have q1:decide ((T.length:Int)<=(k:Int))=false:=by simp;omega
   have q2:¬((T.length:Int)<=(k:Int)):=by omega
   have q3:(k:Int)<(T.length:Int):=by omega
   have q4:decide (T.length<=k)=false:=by simp;omega
   clear hr Od;go_enter func46,ntmps46
   go_wp2
   go_quiet (fail)
   go_wp2
   go_quiet (fail)
   go_wp2
   go_ret
   exact⟨rfl,_,Iq _ _ _⟩
  have HE:Hid (txR en T ⟨k,0⟩=ByteArray.empty):=by
   show _=_;unfold txR;rw[if_pos rfl,yD en T k (by omega)]
  rw[HE.o];have q1:decide ((T.length:Int)<=(k:Int))=true:=by simp;omega
  have q2:(T.length:Int)<=(k:Int):=by omega
  have q4:decide (T.length<=k)=true:=by simp;omega
  clear hr;go_enter func46,ntmps46
  go_wp2
  go_quiet (fail)
  go_wp2
  go_ret
  exact⟨rfl,_,rfl⟩
 have HE:Hid (txR en T ⟨k,er⟩=ByteArray.empty):=by show _=_;unfold txR;rw[if_neg he]
 rw[HE.o];have q0:(er != 0)=true:=by simpa using he
 clear hr he;go_enter func46,ntmps46
 go_wp2
 go_quiet (fail)
 go_wp2
 go_ret
 exact⟨rfl,_,rfl⟩
theorem zSx (c:RC) (p:RP) (w:World) (h:RSt c p w) :
 Calls prog 54 #[.pointer (some ⟨c.R,0,none⟩)] w λe w'=>e=.returned (.int .i64 (ZL c.en (c.T.drop p.k)).place)/\∃n,w'=w.drewN n:=by
 obtain⟨N,NB,R,en,T,nm,vv,vc,g,x⟩:=c;obtain⟨k,er⟩:=p;obtain⟨h1,h2,hn,h3,hd,h4,v,hR,hT⟩:=h
 dsimp only at *
 obtain⟨a,c,rfl,hm,ht,hr⟩:=hT;have k0:w.cell? ⟨R,0,none⟩=some (.slice a T.length c):=Z_ hR 0 _ rfl;have k1:w.cell? ⟨R,1,none⟩=some (.int .i64 (k:Int)):=Z_ hR 1 _ rfl;have k2:w.cell? ⟨R,2,none⟩=some (.int .i64 en):=Z_ hR 2 _ rfl;unfold maxLen at hm;clear hR hd h4;by_cases hk:k<T.length
 ·obtain⟨t,Od⟩:∃t,T[k]? = some t:=⟨T[k],ZA hk⟩
  obtain⟨b,off,rfl,hb,c0,c1,c2⟩:=hr k t Od;rw[yE en T k t Od];have q3:(k:Int)<(T.length:Int):=by omega
  have q4:decide (k<T.length)=true:=by simp;omega
  have q5:decide ((k:Int)<(T.length:Int))=true:=by simp;omega
  clear hr Od;go_enter func54,ntmps54
  go_wp2
  go_quiet (fail)
  go_wp2
  go_quiet (fail)
  go_wp2
  go_ret
  exact⟨rfl,_,Iq _ _ _⟩
 rw[yD en T k (by omega)]
 have q2:¬(k:Int)<(T.length:Int):=by omega
 have q4:decide (k<T.length)=false:=by simp;omega
 have q5:decide ((k:Int)<(T.length:Int))=false:=by simp;omega
 clear hr;go_enter func54,ntmps54
 go_wp2
 go_quiet (fail)
 go_wp2
 go_ret
 exact⟨rfl,_,rfl⟩
theorem NL (c:RC) (p:RP) (e':Int) (w:World) (h:RSt c p w) :
 Calls prog 49 #[.pointer (some ⟨c.R,0,none⟩),.int .i64 e'] w λe w'=>e=.returned (.tuple #[])/\RSt c (XY e' p) w'/\Fr (XR9 c.R) w w':=by
 have HS:=hI h;obtain⟨N,NB,R,en,T,nm,vv,vc,g,x⟩:=c;obtain⟨k,er⟩:=p;obtain⟨h1,h2,hn,h3,hd,h4,v,hR,hT⟩:=h
 dsimp only at *
 have k3:w.cell? ⟨R,3,none⟩=some (.int .i64 er):=Z_ hR 3 _ rfl;have z3:=Z0 hR 3;clear hR hT hd h4;by_cases he:er=0
 ·subst he
  have HE:Hid (RSt ⟨N,NB,R,en,T,nm,vv,vc,g,x⟩ (XY e' ⟨k,0⟩) (w.setCell ⟨R,3,none⟩ (.int .i64 e'))):=by
   have h:=HS.o.setE e';unfold XY;rw[if_pos rfl];exact h
  have HF:Hid (Fr (XR9 R) w (w.setCell ⟨R,3,none⟩ (.int .i64 e'))):=NO _ _ _ _;go_enter func49,ntmps49
  go_wp2
  go_end0
  exact⟨rfl,HE.o,HF.o⟩
 have HE:Hid (RSt ⟨N,NB,R,en,T,nm,vv,vc,g,x⟩ (XY e' ⟨k,er⟩) w):=by rw[J6 _ _ he];exact HS.o
 have q0:(er==0)=false:=by simpa using he
 clear he;go_enter func49,ntmps49
 go_wp2
 go_end0
 exact⟨rfl,HE.o,Fr.refl _ _⟩
theorem jV (en:Int) (T:List Tok) (p:RP) (h:(ByteArray.empty.toList==(txR en T p).toList)=false):p.er=0/\p.k<T.length:=by
 unfold txR at h;by_cases he:p.er=0
 ·rw[if_pos he] at h
  refine⟨he,?_⟩;apply Xz;intro hk;rw[yD en T p.k (by omega)] at h
  simp at h
 rw[if_neg he] at h;simp at h
theorem RSt.step {c:RC} {p:RP} {w:World} (h:RSt c p w) (hk:p.k<c.T.length):RSt c (U7 p) (w.setCell ⟨c.R,1,none⟩ (.int .i64 ((p.k:Int)+1))):=by
 have:=h.setAt (p.k+1) (by omega)
 rw[Int.natCast_add] at this;exact this
theorem Ou (c:RC) (p:RP) (s:ByteArray) (hs:We s) (w:World) (h:RSt c p w) :
 Calls prog 47 #[.pointer (some ⟨c.R,0,none⟩),.string s] w λe w'=>e=.returned (.tuple #[])/\RSt c (Y5 c.en c.T s p) w'/\Fr (XR9 c.R) w w':=by
 have HS:=hI h;obtain⟨B,hB⟩:∃B,((txR c.en c.T p).toList==s.toList)=B:=⟨_,rfl⟩;have Th:=hI hB;have SK:=h.kT;obtain⟨v,hR,hT⟩:=h.blk;have F':c.T.length<=4000:=by obtain⟨a,c,_,_,ht,_⟩:=hT;exact ht.1
 have k3:w.cell? ⟨c.R,3,none⟩=some (.int .i64 p.er):=Z_ hR 3 _ rfl;have k1:w.cell? ⟨c.R,1,none⟩=some (.int .i64 (p.k:Int)):=Z_ hR 1 _ rfl;have z1:=Z0 hR 1;have Z7:=h.lt;have M2:=hI hs;clear hR hT h hs hB;by_cases he:p.er=0
 ·have jU:=hI he
  rw[he] at k3;clear he;go_enter func47,ntmps47
  go_wp2_with fail
  refine (My c p _ HS.o).mono ?_;rintro e w1 ⟨rfl,n1,h1⟩;have hb:=PU h1;have Za:=hI (HS.o.below hb);have Xh:Hid (Fr (XR9 c.R) w w1):=Fr.below hb;have j1:=(hb.cell (p:=⟨c.R,1,none⟩) Z7).trans k1;obtain⟨v,hR,_⟩:=Za.o.blk;have y1:=Z0 hR 1;clear hR h1 hb k1 k3 z1 Z7;cases B
  ·have HN:Hid (Y5 c.en c.T s p=XY 1 p):=by show _=_;unfold Y5;rw[if_pos jU.o,Th.o,if_neg (by simp)]
   have hq:=Th.o;go_wp2_with fail
   refine (NL c p 1 _ Za.o).mono ?_;rintro e w2 ⟨rfl,h2,Ye⟩;have ZK:=hI h2;have Zo:=hI (Xh.o.trans Ye);clear h2 Ye j1 y1;go_wp2
   go_end0
   exact⟨rfl,by rw[HN.o];exact ZK.o,Zo.o⟩
  have HN:Hid (Y5 c.en c.T s p=U7 p):=by show _=_;unfold Y5;rw[if_pos jU.o,Th.o,if_pos rfl]
  have hk:p.k<c.T.length:=(jV c.en c.T p (by have h1:=M2.o;unfold We at h1;have h2:=Th.o;rw[beq_iff_eq] at h2;rw[h2];exact h1)).2
  have ZK:Hid (RSt c (U7 p) (w1.setCell ⟨c.R,1,none⟩ (.int .i64 ((p.k:Int)+1)))):=Za.o.step hk;have Zo:Hid (Fr (XR9 c.R) w (w1.setCell ⟨c.R,1,none⟩ (.int .i64 ((p.k:Int)+1)))):=Xh.o.trans (NO _ _ _ _);have hq:=Th.o;go_wp2
  go_end0
  exact⟨rfl,by rw[HN.o];exact ZK.o,Zo.o⟩
 have HN:Hid (Y5 c.en c.T s p=p):=MA _ _ _ _ he;have HW:Hid (XY 1 p=p):=J6 _ _ he;have q0:(p.er==0)=false:=by simpa using he
 clear he;go_enter func47,ntmps47
 go_wp2_with fail
 refine (NL c p 1 _ HS.o).mono ?_;rintro e w2 ⟨rfl,h2,Ye⟩;have ZK:Hid (RSt c p w2):=by rw[HW.o] at h2;exact h2
 have Zo:=hI Ye;clear h2 Ye k1 k3 z1;go_wp2
 go_end0
 exact⟨rfl,by rw[HN.o];exact ZK.o,Zo.o⟩
theorem yC {v:Value} {k:IntKind} {a b:Int} (h:a=b):Ending.returned (.tuple #[v,.int k a])=.returned (.tuple #[v,.int k b]):=by rw[h]
theorem F9 (c:UInt8) (w:World) :
 Calls prog 173 #[.int .u8 c.toNat] w λe w'=>e=.returned (.bool (isL c))/\w'=w:=by
 have hc:c.toNat<256:=c.toNat_lt;unfold isL;go_enter func173,ntmps173
 go_wp2_with fail
 refine (Rb _ _ _ _).mono ?_;rintro e w ⟨rfl,rfl⟩;go_wp2
 go_ret
 exact⟨ZD (by simp),rfl⟩
theorem NK (c:UInt8) (w:World) :
 Calls prog 102 #[.int .u8 c.toNat] w λe w'=>e=.returned (.bool (isD c))/\w'=w:=by
 have hc:c.toNat<256:=c.toNat_lt;unfold isD;go_enter func102,ntmps102
 go_wp2_with fail
 refine (Rb _ _ _ _).mono ?_;rintro e w ⟨rfl,rfl⟩;go_wp2
 go_ret
 exact⟨ZD (by simp),rfl⟩
theorem zSz (s:ByteArray) (k:Nat) (hk:k<s.size) (hs:s.size<=maxLen) (w:World) (hL:isL s[k]=true) :
 Calls prog 99 #[.string s,.int .i64 k] w λe w'=>e=.returned (.tuple #[.int .i64 1,.int .i64 (YH isW s.data.toList k - k:Nat)])/\w'=w:=by
 unfold maxLen at hs;have hl:k<s.data.toList.length:=by simpa using hk
 have yB:Hid (YH isW s.data.toList (k+1)=YH isW s.data.toList k):=(Me isW _ k hl (by rw[Si s k hk hl];simp[isW,hL])).symm
 have HL:=hI hL;clear hL;go_enter func99,ntmps99
 go_wp2_with fail
 refine (F9 _ _).mono ?_;rintro e w ⟨rfl,rfl⟩;rw[HL.o];go_wp2_with fail
 go_loop [7] (λi=>∃m:Nat,1<=m/\k+m<=s.size/\i=.int .i64 m/\Hid (YH isW s.data.toList (k+m)=YH isW s.data.toList k)) (λi=>s.size - k - (intOf i).toNat)
 case atStart=>exact⟨1,by omega,by omega,rfl,yB⟩
 obtain⟨m,Y0,hm,rfl,hr⟩:=hrel;have hto:((k:Int)+(m:Int)).toNat=k+m:=by omega
 by_cases Z7:k+m<s.size
 ·have Yn:k+m<s.data.toList.length:=by simpa using Z7
  have Y9:=Si s (k+m) Z7 Yn;cases hp:isL s[k+m]
  ·cases hq:isD s[k+m]
   ·have HE:Hid (YH isW s.data.toList (k+m)=k+m):=Mf isW _ _ (λh=>by rw[Y9];simp[isW,hp,hq])
    have HP:=hI hp;have HQ:=hI hq;clear hp hq Y9;go_wp2_with fail
    refine (F9 _ _).mono ?_;rintro e w ⟨rfl,rfl⟩;rw[HP.o];go_wp2_with fail
    refine (NK _ _).mono ?_;rintro e w ⟨rfl,rfl⟩;rw[HQ.o];go_wp2
    go_ret2
    exact⟨yC (by rw[<-hr.o,HE.o,QC]),rfl⟩
   have HE:Hid (YH isW s.data.toList (k+m)=YH isW s.data.toList (k+m+1)):=Me isW _ _ Yn (by rw[Y9];simp[isW,hq])
   have HP:=hI hp;have HQ:=hI hq;clear hp hq Y9;go_wp2_with fail
   refine (F9 _ _).mono ?_;rintro e w ⟨rfl,rfl⟩;rw[HP.o];go_wp2_with fail
   refine (NK _ _).mono ?_;rintro e w ⟨rfl,rfl⟩;rw[HQ.o];go_wp2
   go_round
   case rel=>exact⟨m+1,by omega,by omega,by go_num,HE.o▸hr.o⟩
   case measure=>simp[intOf];omega
  have HE:Hid (YH isW s.data.toList (k+m)=YH isW s.data.toList (k+m+1)):=Me isW _ _ Yn (by rw[Y9];simp[isW,hp])
  have HP:=hI hp;clear hp Y9;go_wp2_with fail
  refine (F9 _ _).mono ?_;rintro e w ⟨rfl,rfl⟩;rw[HP.o];go_wp2
  go_round
  case rel=>exact⟨m+1,by omega,by omega,by go_num,HE.o▸hr.o⟩
  case measure=>simp[intOf];omega
 have HE:Hid (YH isW s.data.toList (k+m)=k+m):=Mf isW _ _ (λh=>by simp at h;omega)
 go_wp2
 go_ret2
 exact⟨yC (by rw[<-hr.o,HE.o,QC]),rfl⟩
theorem zUq (s:ByteArray) (k:Nat) (hk:k<s.size) (hs:s.size<=maxLen) (w:World) (hL:isL s[k]=false) (hD:isD s[k]=true) :
 Calls prog 99 #[.string s,.int .i64 k] w λe w'=>e=.returned (.tuple #[.int .i64 2,.int .i64 (YH isD s.data.toList k - k:Nat)])/\w'=w:=by
 unfold maxLen at hs;have hl:k<s.data.toList.length:=by simpa using hk
 have yB:Hid (YH isD s.data.toList (k+1)=YH isD s.data.toList k):=(Me isD _ k hl (by rw[Si s k hk hl];exact hD)).symm
 have HL:=hI hL;have HD:=hI hD;clear hL hD;go_enter func99,ntmps99
 go_wp2_with fail
 refine (F9 _ _).mono ?_;rintro e w ⟨rfl,rfl⟩;rw[HL.o];go_wp2_with fail
 refine (NK _ _).mono ?_;rintro e w ⟨rfl,rfl⟩;rw[HD.o];go_wp2_with fail
 go_loop [7] (λi=>∃m:Nat,1<=m/\k+m<=s.size/\i=.int .i64 m/\Hid (YH isD s.data.toList (k+m)=YH isD s.data.toList k)) (λi=>s.size - k - (intOf i).toNat)
 case atStart=>exact⟨1,by omega,by omega,rfl,yB⟩
 obtain⟨m,Y0,hm,rfl,hr⟩:=hrel;have hto:((k:Int)+(m:Int)).toNat=k+m:=by omega
 by_cases Z7:k+m<s.size
 ·have Yn:k+m<s.data.toList.length:=by simpa using Z7
  have Y9:=Si s (k+m) Z7 Yn;cases hp:isD s[k+m]
  ·have HE:Hid (YH isD s.data.toList (k+m)=k+m):=Mf isD _ _ (λh=>by rw[Y9];exact hp)
   have HP:=hI hp;clear hp Y9;go_wp2_with fail
   refine (NK _ _).mono ?_;rintro e w ⟨rfl,rfl⟩;rw[HP.o];go_wp2
   go_ret2
   exact⟨yC (by rw[<-hr.o,HE.o,QC]),rfl⟩
  have HE:Hid (YH isD s.data.toList (k+m)=YH isD s.data.toList (k+m+1)):=Me isD _ _ Yn (by rw[Y9];exact hp)
  have HP:=hI hp;clear hp Y9;go_wp2_with fail
  refine (NK _ _).mono ?_;rintro e w ⟨rfl,rfl⟩;rw[HP.o];go_wp2
  go_round
  case rel=>exact⟨m+1,by omega,by omega,by go_num,HE.o▸hr.o⟩
  case measure=>simp[intOf];omega
 have HE:Hid (YH isD s.data.toList (k+m)=k+m):=Mf isD _ _ (λh=>by simp at h;omega)
 go_wp2
 go_ret2
 exact⟨yC (by rw[<-hr.o,HE.o,QC]),rfl⟩
theorem jT (s:ByteArray) (k:Nat):(s.extract k (k+2)).toList=(s.data.toList.drop k).take 2:=by
 rw[ByteArray.toList_eq,ByteArray.data_extract,Array.toList_extract,List.extract_eq_take_drop,QC]
theorem zUr (s:ByteArray) (k:Nat) (hk:k<s.size) (hs:s.size<=maxLen) (w:World) (hL:isL s[k]=false) (hD:isD s[k]=false) (h2:Of (s.data.toList.drop k)=true) :
 Calls prog 99 #[.string s,.int .i64 k] w λe w'=>e=.returned (.tuple #[.int .i64 3,.int .i64 2])/\w'=w:=by
 unfold maxLen at hs;have WY:k+2<=s.size:=by have:=xx _ h2;simp at this;omega
 have hx:=jT s k;have HL:=hI hL;have HD:=hI hD;have HX:Hid (((s.extract k (k+2)).toList==[46,46])=true∨((s.extract k (k+2)).toList==[60,61])=true∨((s.extract k (k+2)).toList==[62,61])=true∨((s.extract k (k+2)).toList==[61,61])=true∨((s.extract k (k+2)).toList==[33,61])=true):=by
  rw[hx];show _∨_;simpa only[Of,T'] using h2
 clear hL hD h2 hx;go_enter func99,ntmps99
 go_wp2_with fail
 refine (F9 _ _).mono ?_;rintro e w ⟨rfl,rfl⟩;rw[HL.o];go_wp2_with fail
 refine (NK _ _).mono ?_;rintro e w ⟨rfl,rfl⟩;rw[HD.o];rcases HX.o with h | h | h | h | h
 all_goals
  go_wp2
  all_goals (go_ret2;exact⟨rfl,rfl⟩)
theorem Ef (c:UInt8) (n:Int) (h:(n==(c.toNat:Int))=true) (hn:n=91∨n=93∨n=59∨n=58∨n=44∨n=45):Sj c=true:=by
 have h':n=(c.toNat:Int):=by simpa using h
 unfold Sj;rw[<-h'];rcases hn with rfl | rfl | rfl | rfl | rfl | rfl <;> decide
def Pa (m:Nat) (c:UInt8):Prop :=
 (0<m->((c.toNat:Int)==91)=false)/\(1<m->((c.toNat:Int)==93)=false)/\(2<m->((c.toNat:Int)==59)=false)/\(3<m->((c.toNat:Int)==58)=false)/\(4<m->((c.toNat:Int)==44)=false)/\(5<m->((c.toNat:Int)==45)=false)
theorem zWI (c:UInt8) (_h:Pa 0 c) (hq:((c.toNat:Int)==91)=false):Pa 1 c:=⟨λ_=>hq,λh'=>by omega,λh'=>by omega,λh'=>by omega,λh'=>by omega,λh'=>by omega⟩
theorem zWJ (c:UInt8) (h:Pa 1 c) (hq:((c.toNat:Int)==93)=false):Pa 2 c:=⟨λ_=>h.1 (by omega),λ_=>hq,λh'=>by omega,λh'=>by omega,λh'=>by omega,λh'=>by omega⟩
theorem zWK (c:UInt8) (h:Pa 2 c) (hq:((c.toNat:Int)==59)=false):Pa 3 c:=⟨λ_=>h.1 (by omega),λ_=>h.2.1 (by omega),λ_=>hq,λh'=>by omega,λh'=>by omega,λh'=>by omega⟩
theorem zWL (c:UInt8) (h:Pa 3 c) (hq:((c.toNat:Int)==58)=false):Pa 4 c:=⟨λ_=>h.1 (by omega),λ_=>h.2.1 (by omega),λ_=>h.2.2.1 (by omega),λ_=>hq,λh'=>by omega,λh'=>by omega⟩
theorem zWM (c:UInt8) (h:Pa 4 c) (hq:((c.toNat:Int)==44)=false):Pa 5 c:=⟨λ_=>h.1 (by omega),λ_=>h.2.1 (by omega),λ_=>h.2.2.1 (by omega),λ_=>h.2.2.2.1 (by omega),λ_=>hq,λh'=>by omega⟩
theorem zWN (c:UInt8) (h:Pa 5 c) (hq:((c.toNat:Int)==45)=false):Pa 6 c:=⟨λ_=>h.1 (by omega),λ_=>h.2.1 (by omega),λ_=>h.2.2.1 (by omega),λ_=>h.2.2.2.1 (by omega),λ_=>h.2.2.2.2.1 (by omega),λ_=>hq⟩
theorem zS0 (c:UInt8) (h:Pa 6 c):Sj c=false:=by
 obtain⟨g1,g2,g3,g4,g5,g6⟩:=h;unfold Sj;rw[g1 (by omega),g2 (by omega),g3 (by omega),g4 (by omega),g5 (by omega),g6 (by omega)];rfl
theorem zUs (s:ByteArray) (k:Nat) (hk:k<s.size) (hs:s.size<=maxLen) (w:World) (hL:isL s[k]=false) (hD:isD s[k]=false) (h2:Of (s.data.toList.drop k)=false) :
 Calls prog 99 #[.string s,.int .i64 k] w λe w'=>e=.returned (.tuple #[.int .i64 (if Sj s[k] then 3 else 0),.int .i64 (if Sj s[k] then 1 else 0)])/\w'=w:=by
 unfold maxLen at hs;have hx:=jT s k;have HL:=hI hL;have HD:=hI hD;have LU:((s.extract k (k+2)).toList==[46,46])=false/\((s.extract k (k+2)).toList==[60,61])=false/\((s.extract k (k+2)).toList==[62,61])=false/\((s.extract k (k+2)).toList==[61,61])=false/\((s.extract k (k+2)).toList==[33,61])=false:=by
  rw[hx];simpa only[Of,O5] using h2
 obtain⟨x1,x2,x3,x4,x5⟩:=LU;clear hL hD h2 hx;obtain⟨r1,VR⟩:∃r:Int,(if Sj s[k] then 3 else 0)=r:=⟨_,rfl⟩
 obtain⟨r2,Yq⟩:∃r:Int,(if Sj s[k] then 1 else 0)=r:=⟨_,rfl⟩
 have Yl:Hid (((if Sj s[k] then 3 else 0):Int)=r1/\((if Sj s[k] then 1 else 0):Int)=r2):=⟨VR,Yq⟩
 rw[VR,Yq];clear VR Yq;go_enter func99,ntmps99
 go_wp2_with fail
 refine (F9 _ _).mono ?_;rintro e w ⟨rfl,rfl⟩;rw[HL.o];go_wp2_with fail
 refine (NK _ _).mono ?_;rintro e w ⟨rfl,rfl⟩;rw[HD.o];by_cases WY:k+2<=s.size
 all_goals
  go_wp2_with fail
  clear x1 x2 x3 x4 x5;go_loop [10] (λi=>∃(m:Nat) (z:Int),m<=6/\z=m/\i=.int .i64 z/\Pa m s[k]) (λi=>6 - (intOf i).toNat)
  case atStart=>exact⟨0,0,by omega,rfl,rfl,by refine⟨?_,?_,?_,?_,?_,?_⟩ <;> (intro h;omega)⟩
  obtain⟨m,z,hm,hz,rfl,J5⟩:=hrel;rcases (show m=0∨m=1∨m=2∨m=3∨m=4∨m=5∨m=6 by omega) with rfl | rfl | rfl | rfl | rfl | rfl | rfl
  ·obtain rfl:z=0:=by omega
   clear hz hm;cases VN:((((⟨#[91,93,59,58,44,45]⟩:ByteArray)[0]'(by decide)).toNat:Int)==(s[k].toNat:Int))
   ·have hq:((91:Int)==(s[k].toNat:Int))=false:=VN
    go_wp2
    go_round
    case rel=>exact⟨1,1,by omega,rfl,by go_num,zWI _ J5 (by rw[<-hq];exact BEq.comm)⟩
    case measure=>simp[intOf]
   have hq:((91:Int)==(s[k].toNat:Int))=true:=VN;have HY:Hid (r1=3/\r2=1):=by rw[<-Yl.o.1,<-Yl.o.2];rw[Ef _ _ hq (by omega)];exact⟨rfl,rfl⟩
   obtain⟨rfl,rfl⟩:=HY.o;go_wp2
   go_ret2
   exact⟨rfl,rfl⟩
  ·obtain rfl:z=1:=by omega
   clear hz hm;cases VN:((((⟨#[91,93,59,58,44,45]⟩:ByteArray)[1]'(by decide)).toNat:Int)==(s[k].toNat:Int))
   ·have hq:((93:Int)==(s[k].toNat:Int))=false:=VN
    go_wp2
    go_round
    case rel=>exact⟨2,2,by omega,rfl,by go_num,zWJ _ J5 (by rw[<-hq];exact BEq.comm)⟩
    case measure=>simp[intOf]
   have hq:((93:Int)==(s[k].toNat:Int))=true:=VN;have HY:Hid (r1=3/\r2=1):=by rw[<-Yl.o.1,<-Yl.o.2];rw[Ef _ _ hq (by omega)];exact⟨rfl,rfl⟩
   obtain⟨rfl,rfl⟩:=HY.o;go_wp2
   go_ret2
   exact⟨rfl,rfl⟩
  ·obtain rfl:z=2:=by omega
   clear hz hm;cases VN:((((⟨#[91,93,59,58,44,45]⟩:ByteArray)[2]'(by decide)).toNat:Int)==(s[k].toNat:Int))
   ·have hq:((59:Int)==(s[k].toNat:Int))=false:=VN
    go_wp2
    go_round
    case rel=>exact⟨3,3,by omega,rfl,by go_num,zWK _ J5 (by rw[<-hq];exact BEq.comm)⟩
    case measure=>simp[intOf]
   have hq:((59:Int)==(s[k].toNat:Int))=true:=VN;have HY:Hid (r1=3/\r2=1):=by rw[<-Yl.o.1,<-Yl.o.2];rw[Ef _ _ hq (by omega)];exact⟨rfl,rfl⟩
   obtain⟨rfl,rfl⟩:=HY.o;go_wp2
   go_ret2
   exact⟨rfl,rfl⟩
  ·obtain rfl:z=3:=by omega
   clear hz hm;cases VN:((((⟨#[91,93,59,58,44,45]⟩:ByteArray)[3]'(by decide)).toNat:Int)==(s[k].toNat:Int))
   ·have hq:((58:Int)==(s[k].toNat:Int))=false:=VN
    go_wp2
    go_round
    case rel=>exact⟨4,4,by omega,rfl,by go_num,zWL _ J5 (by rw[<-hq];exact BEq.comm)⟩
    case measure=>simp[intOf]
   have hq:((58:Int)==(s[k].toNat:Int))=true:=VN;have HY:Hid (r1=3/\r2=1):=by rw[<-Yl.o.1,<-Yl.o.2];rw[Ef _ _ hq (by omega)];exact⟨rfl,rfl⟩
   obtain⟨rfl,rfl⟩:=HY.o;go_wp2
   go_ret2
   exact⟨rfl,rfl⟩
  ·obtain rfl:z=4:=by omega
   clear hz hm;cases VN:((((⟨#[91,93,59,58,44,45]⟩:ByteArray)[4]'(by decide)).toNat:Int)==(s[k].toNat:Int))
   ·have hq:((44:Int)==(s[k].toNat:Int))=false:=VN
    go_wp2
    go_round
    case rel=>exact⟨5,5,by omega,rfl,by go_num,zWM _ J5 (by rw[<-hq];exact BEq.comm)⟩
    case measure=>simp[intOf]
   have hq:((44:Int)==(s[k].toNat:Int))=true:=VN;have HY:Hid (r1=3/\r2=1):=by rw[<-Yl.o.1,<-Yl.o.2];rw[Ef _ _ hq (by omega)];exact⟨rfl,rfl⟩
   obtain⟨rfl,rfl⟩:=HY.o;go_wp2
   go_ret2
   exact⟨rfl,rfl⟩
  ·obtain rfl:z=5:=by omega
   clear hz hm;cases VN:((((⟨#[91,93,59,58,44,45]⟩:ByteArray)[5]'(by decide)).toNat:Int)==(s[k].toNat:Int))
   ·have hq:((45:Int)==(s[k].toNat:Int))=false:=VN
    go_wp2
    go_round
    case rel=>exact⟨6,6,by omega,rfl,by go_num,zWN _ J5 (by rw[<-hq];exact BEq.comm)⟩
    case measure=>simp[intOf]
   have hq:((45:Int)==(s[k].toNat:Int))=true:=VN;have HY:Hid (r1=3/\r2=1):=by rw[<-Yl.o.1,<-Yl.o.2];rw[Ef _ _ hq (by omega)];exact⟨rfl,rfl⟩
   obtain⟨rfl,rfl⟩:=HY.o;go_wp2
   go_ret2
   exact⟨rfl,rfl⟩
  obtain rfl:z=6:=by omega
  clear hz hm;have HY:Hid (r1=0/\r2=0):=by rw[<-Yl.o.1,<-Yl.o.2];rw[zS0 _ J5];exact⟨rfl,rfl⟩
  obtain⟨rfl,rfl⟩:=HY.o;go_wp2
  go_ret2
  exact⟨rfl,rfl⟩
theorem Q5 (s:ByteArray) (k:Nat) (hk:k<s.size) (hs:s.size<=maxLen) (w:World) :
 Calls prog 99 #[.string s,.int .i64 k] w λe w'=>e=.returned (.tuple #[.int .i64 (XJ s.data.toList k),.int .i64 (XZ s.data.toList k - k:Nat)])/\w'=w:=by
 have hl:k<s.data.toList.length:=by simpa using hk
 have hb:U5 s.data.toList k=s[k]:=by rw[K8 _ _ hl];exact Si s k hk _
 have WB:U5 (s.data.toList.drop k) 0=s[k]:=by rw[<-hb];unfold U5;simp
 cases hL:isL s[k]
 ·cases hD:isD s[k]
  ·cases h2:Of (s.data.toList.drop k)
   ·have e1:((XJ s.data.toList k:Nat):Int)=(if Sj s[k] then 3 else 0):=by unfold XJ SL;rw[hb,WB,hL,hD,h2];cases Sj s[k] <;> rfl
    have e2:((XZ s.data.toList k - k:Nat):Int)=(if Sj s[k] then 1 else 0):=by unfold XZ SL;rw[hb,WB,hL,hD,h2];cases Sj s[k] <;> simp
    rw[e1,e2];exact zUs s k hk hs w hL hD h2
   have e1:((XJ s.data.toList k:Nat):Int)=3:=by unfold XJ SL;rw[hb,hL,hD,h2];rfl
   have e2:((XZ s.data.toList k - k:Nat):Int)=2:=by unfold XZ SL;rw[hb,hL,hD,h2];simp
   rw[e1,e2];exact zUr s k hk hs w hL hD h2
  have e1:((XJ s.data.toList k:Nat):Int)=2:=by unfold XJ;rw[hb,hL,hD];rfl
  have e2:XZ s.data.toList k=YH isD s.data.toList k:=by unfold XZ;rw[hb,hL,hD];rfl
  rw[e1,e2];exact zUq s k hk hs w hL hD
 have e1:((XJ s.data.toList k:Nat):Int)=1:=by unfold XJ;rw[hb,hL];rfl
 have e2:XZ s.data.toList k=YH isW s.data.toList k:=by unfold XZ;rw[hb,hL];rfl
 rw[e1,e2];exact zSz s k hk hs w hL
theorem zS1 (s:ByteArray) (hs:s.size<=4000) (w:World) :
 Calls prog 45 #[.string s] w λe w'=>∃v,e=.returned (.tuple #[v,.int .i64 (YR s).2.1,.int .i64 (YR s).2.2]) /\
  w'.ownsRow w.heap.size 161 3 v (YR s).1.length (T8 (YR s).1)/\Bw w w':=by
 have HS:Hid (s.size<=maxLen):=by show s.size<=maxLen;unfold maxLen;omega
 obtain⟨i0,hi,Ze,Y_,Zb⟩:=info_parts p8;obtain⟨R,hR⟩:∃R,R=YR s:=⟨_,rfl⟩;rw[<-hR];have HR:Hid (R=Ut (s.size+1) s 0 []):=by rw[hR];unfold YR;rw[if_neg (by omega)];rfl
 clear hR;go_enter func45,ntmps45
 go_wp2_with fail
 go_loopw [5,6,7] (λv b i wr=>∃(k f j:Nat) (note:Bool) (acc:List Tok),b=.bool note/\i=.int .i64 j/\Hid (YG note s.data.toList j=YG false s.data.toList k)/\Hid (R=Ut f s k acc)/\s.size<k+f/\k<=s.size/\j<=s.size/\k<=j/\acc.length<=k /\
  wr.ownsRow w.heap.size 161 3 v acc.length (T8 acc)/\Bw w wr) (λ_ _ i _=>s.size - (intOf i).toNat)
 case atStart=>exact⟨0,s.size+1,0,false,[],rfl,rfl,rfl,HR,by omega,by omega,by omega,by omega,Z2 _,ZH _ _ _ _,Z6 _ _⟩
 obtain⟨k,f,j,note,acc,rfl,rfl,hj,hR,hf,hk,Mc,xu,YX,Z9,Z3⟩:=hrel;by_cases Z7:j<s.size
 ·have hl:j<s.data.toList.length:=by simpa using Z7
  have Y9:=Si s j Z7 hl;have HG:=hI Y9;clear Y9;cases note
  ·cases h4:((s[j].toNat:Int)==37)
   ·cases hb:isB s[j]
    ·have h1:((s[j].toNat:Int)==32)=false:=by unfold isB at hb;simp only[O5] at hb;exact hb.1
     have h2:((s[j].toNat:Int)==9)=false:=by unfold isB at hb;simp only[O5] at hb;exact hb.2.1
     have h3:((s[j].toNat:Int)==10)=false:=by unfold isB at hb;simp only[O5] at hb;exact hb.2.2
     have HJ:Hid (YG false s.data.toList k=j):=by rw[<-hj.o];exact xy _ j hl (by rw[HG.o];exact hb) (by rw[HG.o];exact h4)
     clear hb hj;obtain⟨f,rfl⟩:∃f',f=f'+1:=⟨f - 1,by omega⟩
     have V4:=Fh _ j hl;have su:XZ s.data.toList j<=s.size:=by simpa using V4.2
     obtain⟨n,hn⟩:∃n,XZ s.data.toList j=j+n:=⟨XZ s.data.toList j - j,by omega⟩
     have HN:Hid (((XZ s.data.toList j - j:Nat):Int)=(n:Int)):=by show ((XZ s.data.toList j - j:Nat):Int)=(n:Int);rw[hn,QC]
     have Mx:=hI hn;have SW:j+n<=s.size:=by omega
     have VW:XJ s.data.toList j≠0->0<n:=λh=>by have:=D1 _ j hl h;omega
     clear V4 hn su;rcases pS s.data.toList j with Yr | Yr | Yr | Yr
     ·have Zy:Hid (R=([],j,1)):=by
       rw[hR.o];have ht:YT s j=⟨0,0,ByteArray.empty⟩:=by unfold YT;rw[if_pos Yr]
       have he:XT (YT s j).kind (YT s j).text=1:=by rw[ht];rfl
       rw[<-he];exact K7 f s k j acc HJ.o Z7 (by rw[he];decide)
      have HK:Hid (((XJ s.data.toList j:Nat):Int)=0):=by rw[Yr];rfl
      clear Yr VW;go_wp2_with fail
      refine (Q5 s j Z7 HS.o _).mono ?_;rintro e wr ⟨rfl,rfl⟩;rw[HK.o,HN.o];go_wp2
      go_ret3
      rw[Zy.o];exact⟨_,rfl,ZH _ _ _ _,Z3⟩
     ·have US:0<n:=VW (by omega)
      clear VW;by_cases Nr:12<n
      ·have Zy:Hid (R=([],j,2)):=by
        rw[hR.o];have ht:=Ir s j n 1 Yr (by omega) Mx.o
        have he:XT (YT s j).kind (YT s j).text=2:=by rw[ht];exact pX _ (by rw[PK _ _ _ SW];omega)
        rw[<-he];exact K7 f s k j acc HJ.o Z7 (by rw[he];decide)
       have HK:Hid (((XJ s.data.toList j:Nat):Int)=1):=by rw[Yr];rfl
       clear Yr;go_wp2_with fail
       refine (Q5 s j Z7 HS.o _).mono ?_;rintro e wr ⟨rfl,rfl⟩;rw[HK.o,HN.o];go_wp2
       go_ret3
       rw[Zy.o];exact⟨_,rfl,ZH _ _ _ _,Z3⟩
      have ht:=Ir s j n 1 Yr (by omega) Mx.o
      have he:XT (YT s j).kind (YT s j).text=0:=by rw[ht];exact pW _ (by rw[PK _ _ _ SW];omega)
      have Zy:Hid (R=Ut f s (j+n) (acc++[⟨1,j,s.extract j (j+n)⟩])):=by
       rw[hR.o,Md f s k j acc HJ.o Z7 he,Mx.o,ht];rfl
      have HK:Hid (((XJ s.data.toList j:Nat):Int)=1):=by rw[Yr];rfl
      clear Yr ht he;go_wp2_with fail
      refine (Q5 s j Z7 HS.o _).mono ?_;rintro e wr ⟨rfl,rfl⟩;rw[HK.o,HN.o];go_wp2_with (at_builtin;refine wpList_append_own _ rfl _ _ 86 rfl w.heap.size 161 i0 (.agg #[.int .i64 0,.int .i64 0,.string ByteArray.empty]) 3 32 underlying86 hi Ze Y_ Zb rfl (by decide) _ _ _ rfl (Z9.alloc _) ⟨wr.heap.size,0,none⟩ 1 1 (Td ⟨1,j,s.extract j (j+n)⟩) rfl rfl ?c1 ?c2 ?c3 ?c4 ?c5 ?_)
      case c1=>first | exact DY wr ⟨1,j,s.extract j (j+n)⟩ | exact λ_ _ h=>h
      case c2=>exact DX _
      case c3=>unfold maxLen;omega
      case c4=>omega
      case c5=>have:=Z3.size;simp;omega
      intro v3 w3 ZX Z1 _;have ZG:Bw w w3:=(Z3.alloc (by have:=Z3.size;omega) _).grown Z1 (by have:=Z3.size;simp;omega) (λb h=>(Z9.lt _ h).1)
      have Zw:w3.ownsRow w.heap.size 161 3 v3 (acc++([⟨1,j,s.extract j (j+n)⟩]:List Tok)).length (T8 (acc++[⟨1,j,s.extract j (j+n)⟩])):=by
       rw[AK,ZC];exact ZX
      clear ZX Z1 Z9 Z3;go_wp2
      go_roundw
      case rel=>exact⟨j+n,f,j+n,false,_,rfl,by go_num,rfl,Zy,by omega,SW,SW,Z2 _,by simp;omega,Zw,ZG⟩
      case measure=>simp[intOf];omega
     ·have US:0<n:=VW (by omega)
      clear VW;by_cases h4n:4<n
      ·have Zy:Hid (R=([],j,2)):=by
        rw[hR.o];have ht:=Ir s j n 2 Yr (by omega) Mx.o
        have he:XT (YT s j).kind (YT s j).text=2:=by rw[ht];exact pV _ (by rw[PK _ _ _ SW];omega)
        rw[<-he];exact K7 f s k j acc HJ.o Z7 (by rw[he];decide)
       have HK:Hid (((XJ s.data.toList j:Nat):Int)=2):=by rw[Yr];rfl
       clear Yr;go_wp2_with fail
       refine (Q5 s j Z7 HS.o _).mono ?_;rintro e wr ⟨rfl,rfl⟩;rw[HK.o,HN.o];go_wp2
       go_ret3
       rw[Zy.o];exact⟨_,rfl,ZH _ _ _ _,Z3⟩
      by_cases h1n:1<n
      ·have TK:0<(s.extract j (j+n)).size:=by rw[PK _ _ _ SW];omega
       have WV:U5 (s.extract j (j+n)).data.toList 0=(s.extract j (j+n))[0]:=by rw[K8 _ _ (show 0<(s.extract j (j+n)).data.toList.length by rw[K_];exact TK)];exact Si _ 0 TK _
       cases jS:(((s.extract j (j+n))[0].toNat:Int)==48)
       ·have ht:=Ir s j n 2 Yr (by omega) Mx.o
        have he:XT (YT s j).kind (YT s j).text=0:=by rw[ht];exact AJ _ (by rw[PK _ _ _ SW];omega) (λh=>by rw[WV];simpa using jS)
        have Zy:Hid (R=Ut f s (j+n) (acc++[⟨2,j,s.extract j (j+n)⟩])):=by
         rw[hR.o,Md f s k j acc HJ.o Z7 he,Mx.o,ht];rfl
        have HK:Hid (((XJ s.data.toList j:Nat):Int)=2):=by rw[Yr];rfl
        clear Yr ht he WV;go_wp2_with fail
        refine (Q5 s j Z7 HS.o _).mono ?_;rintro e wr ⟨rfl,rfl⟩;rw[HK.o,HN.o];go_wp2_with (at_builtin;refine wpList_append_own _ rfl _ _ 86 rfl w.heap.size 161 i0 (.agg #[.int .i64 0,.int .i64 0,.string ByteArray.empty]) 3 32 underlying86 hi Ze Y_ Zb rfl (by decide) _ _ _ rfl (Z9.alloc _) ⟨wr.heap.size,0,none⟩ 1 1 (Td ⟨2,j,s.extract j (j+n)⟩) rfl rfl ?c1 ?c2 ?c3 ?c4 ?c5 ?_)
        case c1=>first | exact DY wr ⟨2,j,s.extract j (j+n)⟩ | exact λ_ _ h=>h
        case c2=>exact DX _
        case c3=>unfold maxLen;omega
        case c4=>omega
        case c5=>have:=Z3.size;simp;omega
        intro v3 w3 ZX Z1 _;have ZG:Bw w w3:=(Z3.alloc (by have:=Z3.size;omega) _).grown Z1 (by have:=Z3.size;simp;omega) (λb h=>(Z9.lt _ h).1)
        have Zw:w3.ownsRow w.heap.size 161 3 v3 (acc++([⟨2,j,s.extract j (j+n)⟩]:List Tok)).length (T8 (acc++[⟨2,j,s.extract j (j+n)⟩])):=by
         rw[AK,ZC];exact ZX
        clear ZX Z1 Z9 Z3;go_wp2
        go_roundw
        case rel=>exact⟨j+n,f,j+n,false,_,rfl,by go_num,rfl,Zy,by omega,SW,SW,Z2 _,by simp;omega,Zw,ZG⟩
        case measure=>simp[intOf];omega
       have Zy:Hid (R=([],j,1)):=by
        rw[hR.o];have ht:=Ir s j n 2 Yr (by omega) Mx.o
        have he:XT (YT s j).kind (YT s j).text=1:=by rw[ht];exact pU _ (by rw[PK _ _ _ SW];omega) (by rw[PK _ _ _ SW];omega) (by rw[WV];simpa using jS)
        rw[<-he];exact K7 f s k j acc HJ.o Z7 (by rw[he];decide)
       have HK:Hid (((XJ s.data.toList j:Nat):Int)=2):=by rw[Yr];rfl
       clear Yr WV;go_wp2_with fail
       refine (Q5 s j Z7 HS.o _).mono ?_;rintro e wr ⟨rfl,rfl⟩;rw[HK.o,HN.o];go_wp2
       go_ret3
       rw[Zy.o];exact⟨_,rfl,ZH _ _ _ _,Z3⟩
      have ht:=Ir s j n 2 Yr (by omega) Mx.o
      have he:XT (YT s j).kind (YT s j).text=0:=by rw[ht];exact AJ _ (by rw[PK _ _ _ SW];omega) (λh=>by rw[PK _ _ _ SW] at h;omega)
      have Zy:Hid (R=Ut f s (j+n) (acc++[⟨2,j,s.extract j (j+n)⟩])):=by
       rw[hR.o,Md f s k j acc HJ.o Z7 he,Mx.o,ht];rfl
      have HK:Hid (((XJ s.data.toList j:Nat):Int)=2):=by rw[Yr];rfl
      clear Yr ht he;go_wp2_with fail
      refine (Q5 s j Z7 HS.o _).mono ?_;rintro e wr ⟨rfl,rfl⟩;rw[HK.o,HN.o];go_wp2_with (at_builtin;refine wpList_append_own _ rfl _ _ 86 rfl w.heap.size 161 i0 (.agg #[.int .i64 0,.int .i64 0,.string ByteArray.empty]) 3 32 underlying86 hi Ze Y_ Zb rfl (by decide) _ _ _ rfl (Z9.alloc _) ⟨wr.heap.size,0,none⟩ 1 1 (Td ⟨2,j,s.extract j (j+n)⟩) rfl rfl ?c1 ?c2 ?c3 ?c4 ?c5 ?_)
      case c1=>first | exact DY wr ⟨2,j,s.extract j (j+n)⟩ | exact λ_ _ h=>h
      case c2=>exact DX _
      case c3=>unfold maxLen;omega
      case c4=>omega
      case c5=>have:=Z3.size;simp;omega
      intro v3 w3 ZX Z1 _;have ZG:Bw w w3:=(Z3.alloc (by have:=Z3.size;omega) _).grown Z1 (by have:=Z3.size;simp;omega) (λb h=>(Z9.lt _ h).1)
      have Zw:w3.ownsRow w.heap.size 161 3 v3 (acc++([⟨2,j,s.extract j (j+n)⟩]:List Tok)).length (T8 (acc++[⟨2,j,s.extract j (j+n)⟩])):=by
       rw[AK,ZC];exact ZX
      clear ZX Z1 Z9 Z3;go_wp2
      go_roundw
      case rel=>exact⟨j+n,f,j+n,false,_,rfl,by go_num,rfl,Zy,by omega,SW,SW,Z2 _,by simp;omega,Zw,ZG⟩
      case measure=>simp[intOf];omega
     have US:0<n:=VW (by omega)
     clear VW;have ht:=Ir s j n 3 Yr (by omega) Mx.o
     have he:XT (YT s j).kind (YT s j).text=0:=by rw[ht];exact pT _
     have Zy:Hid (R=Ut f s (j+n) (acc++[⟨3,j,s.extract j (j+n)⟩])):=by
      rw[hR.o,Md f s k j acc HJ.o Z7 he,Mx.o,ht];rfl
     have HK:Hid (((XJ s.data.toList j:Nat):Int)=3):=by rw[Yr];rfl
     clear Yr ht he;go_wp2_with fail
     refine (Q5 s j Z7 HS.o _).mono ?_;rintro e wr ⟨rfl,rfl⟩;rw[HK.o,HN.o];go_wp2_with (at_builtin;refine wpList_append_own _ rfl _ _ 86 rfl w.heap.size 161 i0 (.agg #[.int .i64 0,.int .i64 0,.string ByteArray.empty]) 3 32 underlying86 hi Ze Y_ Zb rfl (by decide) _ _ _ rfl (Z9.alloc _) ⟨wr.heap.size,0,none⟩ 1 1 (Td ⟨3,j,s.extract j (j+n)⟩) rfl rfl ?c1 ?c2 ?c3 ?c4 ?c5 ?_)
     case c1=>first | exact DY wr ⟨3,j,s.extract j (j+n)⟩ | exact λ_ _ h=>h
     case c2=>exact DX _
     case c3=>unfold maxLen;omega
     case c4=>omega
     case c5=>have:=Z3.size;simp;omega
     intro v3 w3 ZX Z1 _;have ZG:Bw w w3:=(Z3.alloc (by have:=Z3.size;omega) _).grown Z1 (by have:=Z3.size;simp;omega) (λb h=>(Z9.lt _ h).1)
     have Zw:w3.ownsRow w.heap.size 161 3 v3 (acc++([⟨3,j,s.extract j (j+n)⟩]:List Tok)).length (T8 (acc++[⟨3,j,s.extract j (j+n)⟩])):=by
      rw[AK,ZC];exact ZX
     clear ZX Z1 Z9 Z3;go_wp2
     go_roundw
     case rel=>exact⟨j+n,f,j+n,false,_,rfl,by go_num,rfl,Zy,by omega,SW,SW,Z2 _,by simp;omega,Zw,ZG⟩
     case measure=>simp[intOf];omega
    have HE:Hid (YG false s.data.toList (j+1)=YG false s.data.toList k):=by rw[<-hj.o];exact (AN _ j hl (by rw[HG.o];exact hb)).symm
    simp only[isB,T'] at hb;rcases hb with hb | hb | hb
    all_goals
     go_wp2
    all_goals
     go_roundw
     case rel=>exact⟨k,f,j+1,false,acc,rfl,by go_num,HE,hR,hf,hk,by omega,by omega,YX,Z9,Z3⟩
     case measure=>simp[intOf];omega
   have HE:Hid (YG (V5 s[j]) s.data.toList (j+1)=YG false s.data.toList k):=by rw[<-hj.o,<-HG.o];exact (xz _ _ j hl (by rw[HG.o,h4];rfl)).symm
   go_wp2
   go_roundw
   case rel=>exact⟨k,f,j+1,V5 s[j],acc,rfl,by go_num,HE,hR,hf,hk,by omega,by omega,YX,Z9,Z3⟩
   case measure=>simp[intOf];omega
  have HE:Hid (YG (V5 s[j]) s.data.toList (j+1)=YG false s.data.toList k):=by rw[<-hj.o,<-HG.o];exact (xz _ _ j hl rfl).symm
  go_wp2
  go_roundw
  case rel=>exact⟨k,f,j+1,V5 s[j],acc,rfl,by go_num,HE,hR,hf,hk,by omega,by omega,YX,Z9,Z3⟩
  case measure=>simp[intOf];omega
 have Zy:Hid (R=(acc,0,0)):=by rw[hR.o];exact Is f s k acc (by rw[<-hj.o,xB _ _ _ (by simpa using Z7)];exact Z7)
 go_wp2
 go_ret3
 rw[Zy.o];exact⟨_,rfl,Z9,Z3⟩
end Go.Proofs.YtndcpnlaadikoaaGreatDoor
