/- What the proof leans on, part 41. -/
import Derived.Test.YtndcpnlaadikoaaGreatDoorPartBn
set_option maxRecDepth 100000
set_option maxHeartbeats 3200000
open Go.Proofs.Tryz
namespace Go.Proofs.YtndcpnlaadikoaaGreatDoor
open Go.RowKit
theorem gV (l:List UInt8) (m:Nat) (a:UInt8) (h:l[m]? = some a):digV (l.take (m+1))=digV (l.take m) * 10+((a.toNat:Int) - 48):=by
 rw[Y1,h];simp[digV]
theorem RSt.num {c:RC} {p:RP} {w:World} (h:RSt c p w) (hd:dig0 (txR c.en c.T p)=true):p.k<c.T.length/\(1<=(txR c.en c.T p).size/\(txR c.en c.T p).size<=4)/\∀b∈(txR c.en c.T p).data.toList,48<=b.toNat/\b.toNat<=57:=by
 by_cases hn:p.er=0/\p.k<c.T.length
 ·obtain⟨v,_,a,c',_,_,ht,_⟩:=h.blk
  have e:c.T[p.k]? = some c.T[p.k]:=ZA hn.2;have e2:txR c.en c.T p=(c.T[p.k]).text:=by unfold txR;rw[if_pos hn.1,yE c.en c.T p.k _ e]
  have hm:=Zz e;rw[e2] at hd ⊢;have:=(ht.2 _ hm).2 (h.dg _ hm hd);exact⟨hn.2,this.1,this.2⟩
 rw[rk _ _ _ hn] at hd;cases hd
theorem gU (X:ByteArray) (h:0<X.size):dig0 X=isD X[0]:=by
 have hl:0<X.data.toList.length:=by rw[T7];exact h
 have e:=Si X 0 h hl;unfold dig0
 match hq:X.data.toList with
 | []=>rw[hq] at hl;simp at hl
 | a :: r =>
   have:X[0]=a:=by rw[<-e];simp[hq]
   rw[this]
theorem FI (c:RC) (p:RP) (w:World) (h:RSt c p w) :
 Calls prog 50 #[.pointer (some ⟨c.R,0,none⟩)] w λe w'=>e=.returned (.int .i64 (kR c.en c.T p).1)/\RSt c (kR c.en c.T p).2 w'/\Fr (XR9 c.R) w w':=by
 have HS:=hI h;obtain⟨Q,hQ⟩:∃Q,kR c.en c.T p=Q:=⟨_,rfl⟩;rw[hQ];have HQ:Hid (Q=if ((txR c.en c.T p).toList==[45])=true then Ov c.en c.T true (Y5 c.en c.T ⟨#[45]⟩ p) else Ov c.en c.T false p):=by
  show _=_;rw[<-hQ];rfl
 have F':c.T.length<=4000:=by obtain⟨v,_,a,c,_,_,ht,_⟩:=h.blk;exact ht.1
 clear h hQ;go_enter func50,ntmps50
 go_wp2_with fail
 refine (My c p _ HS.o).mono ?_;rintro e w2 ⟨rfl,n2,h2⟩;have ZI:Hid (Bw w w2):=PU h2;have ZK:Hid (RSt c p w2):=HS.o.below ZI.o;have Zo:Hid (Fr (XR9 c.R) w w2):=Fr.below ZI.o;clear h2;obtain⟨X0,rj⟩:∃X,txR c.en c.T p=X:=⟨_,rfl⟩;have jc:Hid (txR c.en c.T p=X0):=rj;rw[rj] at HQ ⊢;clear rj;cases VN:(X0.toList==[45])
 ·have Xw:Hid (Q=Ov c.en c.T false p):=by show _=_;rw[HQ.o,VN];rfl
  obtain⟨p1,Vh⟩:∃p1,p=p1:=⟨_,rfl⟩;rw[Vh] at ZK Xw;have Za:=ZK;have Xh:=Zo;clear HQ ZK Zo ZI Vh jc;go_wp2_with fail
  refine (My c p1 _ Za.o).mono ?_;rintro e w2 ⟨rfl,n2,h2⟩;have ZI:=PU h2;have ZK:=hI (Za.o.below ZI);have Zo:Hid (Fr (XR9 c.R) w w2):=Xh.o.trans (Fr.below ZI);clear h2 ZI;have Mk:Hid (dig0 (txR c.en c.T p1)=true->p1.k<c.T.length/\(1<=(txR c.en c.T p1).size/\(txR c.en c.T p1).size<=4)/\∀b∈(txR c.en c.T p1).data.toList,48<=b.toNat/\b.toNat<=57):=ZK.o.num;have YW:Hid (Q=if Lt false (txR c.en c.T p1)=true then (0,XY 1 p1) else ((if false then -1 else 1) * digV (txR c.en c.T p1).data.toList,U7 p1)):=Xw.o
  have FH:=ZK.o.size;obtain⟨X,hX⟩:∃X,txR c.en c.T p1=X:=⟨_,rfl⟩;rw[hX] at Mk YW FH ⊢;clear hX Xw;by_cases hz:0<X.size
  ·have Mv:X.toList.isEmpty=false:=by
    rw[ByteArray.toList_eq];cases h:X.data.toList with
    | nil=>have:=T7 X;rw[h] at this;simp at this;omega
    | cons a r=>rfl
   have ZP:¬X.toList=[]:=by intro h;rw[h] at Mv;cases Mv
   have hne2:(X.toList==[])=false:=by simpa using ZP
   have ID:Hid (dig0 X=isD X[0]):=gU X hz;cases hd:isD X[0]
   ·have HN:Hid (Q=(0,XY 1 p1)):=by show _=_;rw[YW.o,if_pos (by unfold Lt;rw[ID.o,hd];rfl)]
    go_wp2_with fail
    refine (NK _ _).mono ?_;rintro e w2 ⟨rfl,rfl⟩;rw[hd];go_wp2_with fail
    refine (NL c p1 1 _ ZK.o).mono ?_;rintro e w3 ⟨rfl,h3,Yj⟩;have Zq:=hI h3;have Yw:=hI (Zo.o.trans Yj);clear h3 Yj;go_wp2
    go_ret
    exact⟨by rw[HN.o];rfl,by rw[HN.o];exact Zq.o,Yw.o⟩
   obtain⟨hk,Y',TN⟩:=Mk.o (ID.o.trans hd);obtain⟨v,hR,_⟩:=ZK.o.blk;have k1:w2.cell? ⟨c.R,1,none⟩=some (.int .i64 (p1.k:Int)):=Z_ hR 1 _ rfl;have z1:=Z0 hR 1;have Zq:Hid (RSt c (U7 p1) (w2.setCell ⟨c.R,1,none⟩ (.int .i64 ((p1.k:Int)+1)))):=ZK.o.step hk;have Yw:Hid (Fr (XR9 c.R) w (w2.setCell ⟨c.R,1,none⟩ (.int .i64 ((p1.k:Int)+1)))):=Zo.o.trans (NO _ _ _ _);have FG:Hid (∀m (h:m<X.size),X[m].toNat<256):=λm h=>X[m].toNat_lt
   have rh:Hid (∀m (h:m<X.size),∃D,digV (X.data.toList.take m)=D/\0<=D/\D<=999/\digV (X.data.toList.take (m+1))=D * 10+((X[m].toNat:Int) - 48)/\48<=X[m].toNat/\X[m].toNat<=57):=by
    intro m h;have hl:m<X.data.toList.length:=by rw[T7];exact h
    have e:=Si X m h hl;have e2:X.data.toList[m]? = some X[m]:=by rw[ZA hl,e]
    have hb:=TN X[m] (Zz e2);have b1:=(IV (X.data.toList.take m) (by rw[X_];omega) (λb hb=>TN b (SR hb))).1
    have b2:=(IV (X.data.toList.take (m+1)) (by rw[X_];omega) (λb hb=>TN b (SR hb))).2
    have b3:=gV _ m _ e2;exact⟨_,rfl,b1,by omega,b3,hb.1,hb.2⟩
   have rg:Hid (∃D,digV (X.data.toList.take X.size)=D/\0<=D/\D<=9999):=by
    obtain⟨b1,b2⟩:=IV (X.data.toList.take X.size) (by rw[X_];omega) (λb hb=>TN b (SR hb))
    exact⟨_,rfl,b1,b2⟩
   have Vp:Hid (X.data.toList.take X.size=X.data.toList):=Zi (by rw[T7];exact Z2 _)
   clear hR TN;have rf:Hid (Q=((1:Int) * digV (X.data.toList.take X.size),U7 p1)):=by show _=_;rw[YW.o,if_neg (by unfold Lt;rw[ID.o,hd];simp),Vp.o];rfl
   dsimp only
   go_wp2_with fail
   refine (NK _ _).mono ?_;rintro e w2 ⟨rfl,rfl⟩;rw[hd];go_wp2_with fail
   go_loopw [5,6] (λn i wr=>∃m:Nat,m<=X.size/\i=.int .i64 m/\n=.int .i64 (digV (X.data.toList.take m))/\wr=w2) (λ_ i _=>X.size - (intOf i).toNat)
   case atStart=>exact⟨0,by omega,rfl,rfl,rfl⟩
   obtain⟨m,Uo,rfl,rfl,rfl⟩:=hrel;by_cases XX:m<X.size
   ·obtain⟨D,hD,rc,ra,q_,XN,xY⟩:=rh.o m XX
    rw[hD];have Y9:=FG.o m XX;clear hD;go_wp2
    go_roundw
    case rel=>exact⟨m+1,by omega,by go_num,by rw[q_];go_num,by first | rfl | trivial⟩
    case measure=>simp[intOf];omega
   obtain rfl:m=X.size:=by omega
   obtain⟨D,hD,rc,ra⟩:=rg.o;rw[hD];have HN:Hid (Q=((1:Int) * D,U7 p1)):=by show _=_;rw[rf.o,<-hD]
   clear hD;go_wp2
   go_ret
   exact⟨by rw[HN.o];first | rfl | (congr 2;simp),by rw[HN.o];exact Zq.o,Yw.o⟩
  have hx:X=ByteArray.empty:=by
   have h0:X.data.toList=[]:=Xf (by rw[T7];omega)
   cases X with
   | mk d =>
     have:d=#[]:=by simpa using h0
     subst this;rfl
  have HN:Hid (Q=(0,XY 1 p1)):=by show _=_;rw[YW.o,hx,if_pos (by unfold Lt;rfl)]
  have Mv:X.toList.isEmpty=true:=by rw[hx];decide +kernel
  have ZP:X.toList=[]:=by rw[hx];decide +kernel
  have hne2:(X.toList==[])=true:=by rw[ZP];rfl
  clear hx;go_wp2_with fail
  refine (NL c p1 1 _ ZK.o).mono ?_;rintro e w3 ⟨rfl,h3,Yj⟩;have Zq:=hI h3;have Yw:=hI (Zo.o.trans Yj);clear h3 Yj;go_wp2
  go_ret
  exact⟨by rw[HN.o];rfl,by rw[HN.o];exact Zq.o,Yw.o⟩
 have Xw:Hid (Q=Ov c.en c.T true (Y5 c.en c.T ⟨#[45]⟩ p)):=by show _=_;rw[HQ.o,VN];rfl
 go_wp2_with fail
 refine (Ou c p ⟨#[45]⟩ (A5 _) _ ZK.o).mono ?_;rintro e w1 ⟨rfl,h3,Yj⟩;have Xh:=hI (Zo.o.trans Yj);obtain⟨p1,Vh⟩:∃p1,Y5 c.en c.T ⟨#[45]⟩ p=p1:=⟨_,rfl⟩;rw[Vh] at h3 Xw;have Za:=hI h3;clear h3 Yj HQ ZK Zo ZI Vh;go_wp2_with fail
 refine (My c p1 _ Za.o).mono ?_;rintro e w2 ⟨rfl,n2,h2⟩;have ZI:=PU h2;have ZK:=hI (Za.o.below ZI);have Zo:Hid (Fr (XR9 c.R) w w2):=Xh.o.trans (Fr.below ZI);clear h2 ZI;have Mk:Hid (dig0 (txR c.en c.T p1)=true->p1.k<c.T.length/\(1<=(txR c.en c.T p1).size/\(txR c.en c.T p1).size<=4)/\∀b∈(txR c.en c.T p1).data.toList,48<=b.toNat/\b.toNat<=57):=ZK.o.num;have YW:Hid (Q=if Lt true (txR c.en c.T p1)=true then (0,XY 1 p1) else ((if true then -1 else 1) * digV (txR c.en c.T p1).data.toList,U7 p1)):=Xw.o
 have FH:=ZK.o.size;obtain⟨X,hX⟩:∃X,txR c.en c.T p1=X:=⟨_,rfl⟩;rw[hX] at Mk YW FH ⊢;clear hX Xw;by_cases hz:0<X.size
 ·have Mv:X.toList.isEmpty=false:=by
   rw[ByteArray.toList_eq];cases h:X.data.toList with
   | nil=>have:=T7 X;rw[h] at this;simp at this;omega
   | cons a r=>rfl
  have ZP:¬X.toList=[]:=by intro h;rw[h] at Mv;cases Mv
  have hne2:(X.toList==[])=false:=by simpa using ZP
  have ID:Hid (dig0 X=isD X[0]):=gU X hz;cases hd:isD X[0]
  ·have HN:Hid (Q=(0,XY 1 p1)):=by show _=_;rw[YW.o,if_pos (by unfold Lt;rw[ID.o,hd];rfl)]
   go_wp2_with fail
   refine (NK _ _).mono ?_;rintro e w2 ⟨rfl,rfl⟩;rw[hd];go_wp2_with fail
   refine (NL c p1 1 _ ZK.o).mono ?_;rintro e w3 ⟨rfl,h3,Yj⟩;have Zq:=hI h3;have Yw:=hI (Zo.o.trans Yj);clear h3 Yj;go_wp2
   go_ret
   exact⟨by rw[HN.o];rfl,by rw[HN.o];exact Zq.o,Yw.o⟩
  obtain⟨hk,Y',TN⟩:=Mk.o (ID.o.trans hd);obtain⟨v,hR,_⟩:=ZK.o.blk;have k1:w2.cell? ⟨c.R,1,none⟩=some (.int .i64 (p1.k:Int)):=Z_ hR 1 _ rfl;have z1:=Z0 hR 1;have Zq:Hid (RSt c (U7 p1) (w2.setCell ⟨c.R,1,none⟩ (.int .i64 ((p1.k:Int)+1)))):=ZK.o.step hk;have Yw:Hid (Fr (XR9 c.R) w (w2.setCell ⟨c.R,1,none⟩ (.int .i64 ((p1.k:Int)+1)))):=Zo.o.trans (NO _ _ _ _);have FG:Hid (∀m (h:m<X.size),X[m].toNat<256):=λm h=>X[m].toNat_lt
  have rh:Hid (∀m (h:m<X.size),∃D,digV (X.data.toList.take m)=D/\0<=D/\D<=999/\digV (X.data.toList.take (m+1))=D * 10+((X[m].toNat:Int) - 48)/\48<=X[m].toNat/\X[m].toNat<=57):=by
   intro m h;have hl:m<X.data.toList.length:=by rw[T7];exact h
   have e:=Si X m h hl;have e2:X.data.toList[m]? = some X[m]:=by rw[ZA hl,e]
   have hb:=TN X[m] (Zz e2);have b1:=(IV (X.data.toList.take m) (by rw[X_];omega) (λb hb=>TN b (SR hb))).1
   have b2:=(IV (X.data.toList.take (m+1)) (by rw[X_];omega) (λb hb=>TN b (SR hb))).2
   have b3:=gV _ m _ e2;exact⟨_,rfl,b1,by omega,b3,hb.1,hb.2⟩
  have rg:Hid (∃D,digV (X.data.toList.take X.size)=D/\0<=D/\D<=9999):=by
   obtain⟨b1,b2⟩:=IV (X.data.toList.take X.size) (by rw[X_];omega) (λb hb=>TN b (SR hb))
   exact⟨_,rfl,b1,b2⟩
  have Vp:Hid (X.data.toList.take X.size=X.data.toList):=Zi (by rw[T7];exact Z2 _)
  clear hR TN;cases hq:(X.toList==[48])
  ·have rf:Hid (Q=((-1:Int) * digV (X.data.toList.take X.size),U7 p1)):=by show _=_;rw[YW.o,if_neg (by unfold Lt;rw[ID.o,hd,hq];simp),Vp.o];rfl
   go_wp2_with fail
   refine (NK _ _).mono ?_;rintro e w2 ⟨rfl,rfl⟩;rw[hd];go_wp2_with fail
   go_loopw [5,6] (λn i wr=>∃m:Nat,m<=X.size/\i=.int .i64 m/\n=.int .i64 (digV (X.data.toList.take m))/\wr=w2) (λ_ i _=>X.size - (intOf i).toNat)
   case atStart=>exact⟨0,by omega,rfl,rfl,rfl⟩
   obtain⟨m,Uo,rfl,rfl,rfl⟩:=hrel;by_cases XX:m<X.size
   ·obtain⟨D,hD,rc,ra,q_,XN,xY⟩:=rh.o m XX
    rw[hD];have Y9:=FG.o m XX;clear hD;go_wp2
    go_roundw
    case rel=>exact⟨m+1,by omega,by go_num,by rw[q_];go_num,by first | rfl | trivial⟩
    case measure=>simp[intOf];omega
   obtain rfl:m=X.size:=by omega
   obtain⟨D,hD,rc,ra⟩:=rg.o;rw[hD];have HN:Hid (Q=((-1:Int) * D,U7 p1)):=by show _=_;rw[rf.o,<-hD]
   clear hD;go_wp2
   go_ret
   exact⟨by rw[HN.o];first | rfl | (congr 2;simp),by rw[HN.o];exact Zq.o,Yw.o⟩
  have HN:Hid (Q=(0,XY 1 p1)):=by show _=_;rw[YW.o,if_pos (by unfold Lt;rw[ID.o,hd,hq];rfl)]
  clear k1 z1;go_wp2_with fail
  refine (NK _ _).mono ?_;rintro e w2 ⟨rfl,rfl⟩;rw[hd];go_wp2_with fail
  refine (NL c p1 1 _ ZK.o).mono ?_;rintro e w3 ⟨rfl,h3,Yj⟩;have Zq:=hI h3;have Yw:=hI (Zo.o.trans Yj);clear h3 Yj;go_wp2
  go_ret
  exact⟨by rw[HN.o];rfl,by rw[HN.o];exact Zq.o,Yw.o⟩
 have hx:X=ByteArray.empty:=by
  have h0:X.data.toList=[]:=Xf (by rw[T7];omega)
  cases X with
  | mk d =>
    have:d=#[]:=by simpa using h0
    subst this;rfl
 have HN:Hid (Q=(0,XY 1 p1)):=by show _=_;rw[YW.o,hx,if_pos (by unfold Lt;rfl)]
 have Mv:X.toList.isEmpty=true:=by rw[hx];decide +kernel
 have ZP:X.toList=[]:=by rw[hx];decide +kernel
 have hne2:(X.toList==[])=true:=by rw[ZP];rfl
 clear hx;go_wp2_with fail
 refine (NL c p1 1 _ ZK.o).mono ?_;rintro e w3 ⟨rfl,h3,Yj⟩;have Zq:=hI h3;have Yw:=hI (Zo.o.trans Yj);clear h3 Yj;go_wp2
 go_ret
 exact⟨by rw[HN.o];rfl,by rw[HN.o];exact Zq.o,Yw.o⟩
def IC {α:Type} (f:RP->α×RP):Prop:=∀p,p.k<=(f p).2.k
theorem Ea (e:Int) (p:RP):(XY e p).k=p.k:=by unfold XY;split <;> rfl
theorem D_ (en:Int) (T:List Tok) (s:ByteArray) (p:RP):p.k<=(Y5 en T s p).k:=by
 unfold Y5
 split
 ·split
  ·show p.k<=p.k+1;omega
  rw[Ea];exact Z2 _
 exact Z2 _
theorem q8 (en:Int) (T:List Tok) (p:RP):∀(ws:List ByteArray) (i:Nat),p.k<=(YP en T p ws i).2.k
 | [],i=>by unfold YP;show _<=(XY 1 p).k;rw[Ea];exact Z2 _
 | s :: r,i=>by
   unfold YP
   split
   ·show p.k<=p.k+1;omega
   exact q8 en T p r (i+1)
theorem gT (s:ByteArray) (p:RP):∀(nm:List ByteArray) (i:Nat),p.k<=(vAtR s p nm i).2.k
 | [],i=>by unfold vAtR;show _<=(XY 5 p).k;rw[Ea];exact Z2 _
 | n :: r,i=>by
   unfold vAtR
   split
   ·show p.k<=p.k+1;omega
   exact gT s p r (i+1)
theorem v_k (en:Int) (T:List Tok) (nm:List ByteArray):IC (vR en T nm):=λp=>by
 unfold vR
 split
 ·exact gT _ _ _ _
 show _<=(XY 1 p).k;rw[Ea];exact Z2 _
theorem gS (en:Int) (T:List Tok) (ng:Bool):IC (Ov en T ng):=λp=>by
 unfold Ov
 split
 ·show _<=(XY 1 p).k;rw[Ea];exact Z2 _
 show p.k<=p.k+1;omega
theorem k_k (en:Int) (T:List Tok):IC (kR en T):=λp=>by
 unfold kR
 split
 ·exact ZT (D_ en T _ p) (gS en T true _)
 exact gS en T false p
theorem qZ (en:Int) (T:List Tok) (nm:List ByteArray):IC (litR en T nm):=λp =>
 ZT (v_k en T nm p) (ZT (q8 en T _ _ _) (k_k en T _))
theorem xX (en:Int) (T:List Tok) (p:RP) (h:(VT en T p).1=true):(VT en T p).2.k=p.k+1:=by
 unfold VT at h ⊢
 split at h
 ·rename_i hq
  rw[if_pos hq];have he:p.er=0:=by
   apply Xz;intro he;rw[Mz en T p he] at hq
   revert hq
   decide +kernel
  show (Y5 en T ⟨#[44]⟩ p).k=p.k+1;unfold Y5;rw[if_pos he,if_pos (by rw[show (⟨#[44]⟩:ByteArray).toList=[44] by rw[ByteArray.toList_eq]];exact hq)]
  rfl
 cases h
def FF (v:Value):Nat:=match v with | .slice _ n _=>n | _=>0
theorem xW {α:Type} (en:Int) (T:List Tok) (item:RP->α×RP) (f:Nat) (acc:List α) (p:RP):Vw en T item (f+1) acc (true,p)=Vw en T item f (acc++[(item p).1]) (VT en T (item p).2):=by
 conv=>lhs;unfold Vw
 rfl
theorem xV {α:Type} (en:Int) (T:List Tok) (item:RP->α×RP) (f:Nat) (acc:List α) (p:RP):Vw en T item f acc (false,p)=(acc,p):=by
 cases f <;> (unfold Vw;rfl)
theorem A4 (c:RC) (p:RP) (w:World) (h:RSt c p w) :
 Calls prog 103 #[.pointer (some ⟨c.R,0,none⟩)] w λe w'=>∃v,e=.returned v/\w'.ownsRow w.heap.size 3 1 v (Zc c.en c.T (kR c.en c.T) p).1.length ((Zc c.en c.T (kR c.en c.T) p).1.map (Value.int .i64))/\RSt c (Zc c.en c.T (kR c.en c.T) p).2 w'/\Fr (XR9 c.R) w w':=by
 have HS:=hI h;obtain⟨Q,hQ⟩:∃Q,Zc c.en c.T (kR c.en c.T) p=Q:=⟨_,rfl⟩;rw[hQ];have HQ:Hid (Vw c.en c.T (kR c.en c.T) (c.T.length+2) [] (PV c.en c.T p)=Q):=hQ;have F':c.T.length<=4000:=by obtain⟨v,_,a,c,_,_,ht,_⟩:=h.blk;exact ht.1
 have Tp:=h.lt;have QG:Hid (c.N<=w.heap.size/\c.NB<=w.heap.size):=⟨h.Nw,h.nb⟩;obtain⟨i0,hi,Ze,Y_,Zb⟩:=info_parts Eh;clear h hQ;go_enter func103,ntmps103
 go_wp2_with fail
 refine (x7 c p _ HS.o).mono ?_;rintro e w1 ⟨rfl,h1,W9⟩;obtain⟨q,hq⟩:∃q,PV c.en c.T p=q:=⟨_,rfl⟩;rw[hq] at HQ h1 ⊢;obtain⟨b,p1⟩:=q;have Za:=hI h1;have Xh:=hI W9;clear h1 W9 hq
 dsimp only
 go_wp2_with fail
 go_loopw [3,4] (λo mo wr=>∃(f:Nat) (acc:List Int) (b:Bool) (p:RP),Hid (Vw c.en c.T (kR c.en c.T) f acc (b,p)=Q)/\mo=.bool b/\Hid (RSt c p wr)/\wr.ownsRow w.heap.size 3 1 o acc.length (acc.map (Value.int .i64))/\Hid (Fr (XR9 c.R) w wr)/\acc.length+f=c.T.length+2/\(b=true->c.T.length+2<=f+p.k)) (λo _ _=>c.T.length+3 - FF o)
 case atStart=>exact⟨c.T.length+2,[],b,p1,HQ,rfl,Za,ZH _ _ _ _,Xh,by simp,λ_=>by omega⟩
 obtain⟨f,acc,b,p2,YW,rfl,ZK,Z9,Zo,FE,Sm⟩:=hrel;have Yo:=hI Z9;obtain⟨al,cl,rfl⟩:=ZJ Z9;have J4:=ZK.o.kT;clear Z9;cases b
 ·have HE:Hid (Q=(acc,p2)):=YW.o.symm.trans (xV _ _ _ _ _ _)
  clear Sm;go_wp2
  go_ret
  exact⟨_,rfl,by rw[HE.o];exact Yo.o,by rw[HE.o];exact ZK.o,Zo.o⟩
 have FD:=Sm rfl;obtain⟨g,rfl⟩:∃g,f=g+1:=⟨f - 1,by omega⟩
 have Yk:Hid (Vw c.en c.T (kR c.en c.T) g (acc++[((kR c.en c.T) p2).1]) (VT c.en c.T ((kR c.en c.T) p2).2)=Q):=(xW _ _ _ _ _ _).symm.trans YW.o;have W_:Hid (p2.k<=((kR c.en c.T) p2).2.k):=k_k c.en c.T p2;clear Sm YW;go_wp2_with fail
 refine (FI c p2 _ ZK.o).mono ?_;rintro e w3 ⟨rfl,h3,Yj⟩;obtain⟨X,hX⟩:∃X,(kR c.en c.T) p2=X:=⟨_,rfl⟩;rw[hX] at Yk W_ h3 ⊢;obtain⟨x,p3⟩:=X;have Zq:=hI h3;have Yw:=hI (Zo.o.trans Yj);have WL:Hid (w3.ownsRow w.heap.size 3 1 (.slice al acc.length cl) acc.length (acc.map (Value.int .i64))):=TE Yo.o Yj (λk hk=>by rw[hk];exact Tp)
 have J7:w.heap.size<=w3.heap.size:=Yw.o.size;have Xc:=WL.o.alloc (.cells #[.int .i64 x] 3);clear h3 Yj hX Yo
 dsimp only at *
 go_wp2_with (at_builtin;refine wpList_append_own _ rfl _ _ 42 rfl w.heap.size 3 i0 (.int .i64 0) 1 8 Gc hi Ze Y_ Zb rfl (by decide) _ _ _ rfl Xc ⟨w3.heap.size,0,none⟩ 1 1 [.int .i64 x] rfl rfl ?c1 ?c2 ?c3 ?c4 ?c5 ?_)
 case c1=>exact yJ w3 x
 case c2=>intro u hu;rcases Zh.1 hu with rfl;rfl
 case c3=>unfold maxLen;omega
 case c4=>omega
 case c5=>simp;omega
 intro v9 w9 Zp Xg _;have ZS:∀k,(Value.slice al acc.length cl).ownBlock=some k->w.heap.size<=k:=λk hk=>(WL.o.lt k hk).1
 have Ub:Hid (RSt c p3 w9):=(Zq.o.below (Z4 _ _)).grown Xg (λk hk=>by have h1:=ZS k hk;have h2:=QG.o;exact⟨by omega,by omega,by omega⟩)
 have Sr:Hid (Fr (XR9 c.R) w w9):=(Yw.o.alloc _).grown Xg (λk hk=>Or.inr (ZS k hk))
 have Q6:Hid (w9.ownsRow w.heap.size 3 1 v9 (acc++[x]).length ((acc++[x]).map (Value.int .i64))):=by
  show w9.ownsRow _ _ _ _ _ _;rw[ZC,YY];exact Zp
 clear Zp Xg ZS Xc;obtain⟨a9,c9,rfl⟩:=ZJ Q6.o;go_wp2_with fail
 refine (xZ c p3 _ Ub.o).mono ?_;rintro e w4 ⟨rfl,h4,Vj⟩;have QZ:Hid ((VT c.en c.T p3).1=true->(VT c.en c.T p3).2.k=p3.k+1):=xX c.en c.T p3;obtain⟨q,hq⟩:∃q,VT c.en c.T p3=q:=⟨_,rfl⟩;rw[hq] at Yk h4 QZ ⊢;obtain⟨b4,p4⟩:=q;have X9:=hI h4;have UX:=hI (Sr.o.trans Vj);have S_:Hid (w4.ownsRow w.heap.size 3 1 (.slice a9 (acc++[x]).length c9) (acc++[x]).length ((acc++[x]).map (Value.int .i64))):=TE Q6.o Vj (λk hk=>by rw[hk];exact Tp)
 clear h4 Vj hq
 dsimp only at *
 have Yp:Hid (b4=true->c.T.length+2<=g+p4.k):=λhb=>by have h1:=QZ.o hb;have h2:=W_.o;omega
 have Lp:Hid ((acc++[x]).length+g=c.T.length+2):=by show _=_;simp;omega
 have Op:Hid ((acc++[x]).length=acc.length+1):=by show _=_;simp
 obtain⟨acc2,Uw⟩:∃acc2,acc++[x]=acc2:=⟨_,rfl⟩;rw[Uw] at Yk S_ Lp Op Q6 ⊢;clear Uw;go_wp2
 go_roundw
 case rel=>exact⟨g,acc2,b4,p4,Yk,rfl,X9,S_.o,UX,Lp.o,Yp.o⟩
 case measure=>have h1:=Op.o;have h2:=Lp.o;simp[FF];omega
theorem D' (c:RC) (p:RP) (w:World) (h:RSt c p w) :
 Calls prog 104 #[.pointer (some ⟨c.R,0,none⟩)] w λe w'=>∃v,e=.returned v/\w'.ownsRow w.heap.size 3 1 v (Zc c.en c.T (vR c.en c.T c.nm) p).1.length ((Zc c.en c.T (vR c.en c.T c.nm) p).1.map (Value.int .i64))/\RSt c (Zc c.en c.T (vR c.en c.T c.nm) p).2 w'/\Fr (XR9 c.R) w w':=by
 have HS:=hI h;obtain⟨Q,hQ⟩:∃Q,Zc c.en c.T (vR c.en c.T c.nm) p=Q:=⟨_,rfl⟩;rw[hQ];have HQ:Hid (Vw c.en c.T (vR c.en c.T c.nm) (c.T.length+2) [] (PV c.en c.T p)=Q):=hQ;have F':c.T.length<=4000:=by obtain⟨v,_,a,c,_,_,ht,_⟩:=h.blk;exact ht.1
 have Tp:=h.lt;have QG:Hid (c.N<=w.heap.size/\c.NB<=w.heap.size):=⟨h.Nw,h.nb⟩;obtain⟨i0,hi,Ze,Y_,Zb⟩:=info_parts Eh;clear h hQ;go_enter func104,ntmps104
 go_wp2_with fail
 refine (x7 c p _ HS.o).mono ?_;rintro e w1 ⟨rfl,h1,W9⟩;obtain⟨q,hq⟩:∃q,PV c.en c.T p=q:=⟨_,rfl⟩;rw[hq] at HQ h1 ⊢;obtain⟨b,p1⟩:=q;have Za:=hI h1;have Xh:=hI W9;clear h1 W9 hq
 dsimp only
 go_wp2_with fail
 go_loopw [3,4] (λo mo wr=>∃(f:Nat) (acc:List Int) (b:Bool) (p:RP),Hid (Vw c.en c.T (vR c.en c.T c.nm) f acc (b,p)=Q)/\mo=.bool b/\Hid (RSt c p wr)/\wr.ownsRow w.heap.size 3 1 o acc.length (acc.map (Value.int .i64))/\Hid (Fr (XR9 c.R) w wr)/\acc.length+f=c.T.length+2/\(b=true->c.T.length+2<=f+p.k)) (λo _ _=>c.T.length+3 - FF o)
 case atStart=>exact⟨c.T.length+2,[],b,p1,HQ,rfl,Za,ZH _ _ _ _,Xh,by simp,λ_=>by omega⟩
 obtain⟨f,acc,b,p2,YW,rfl,ZK,Z9,Zo,FE,Sm⟩:=hrel;have Yo:=hI Z9;obtain⟨al,cl,rfl⟩:=ZJ Z9;have J4:=ZK.o.kT;clear Z9;cases b
 ·have HE:Hid (Q=(acc,p2)):=YW.o.symm.trans (xV _ _ _ _ _ _)
  clear Sm;go_wp2
  go_ret
  exact⟨_,rfl,by rw[HE.o];exact Yo.o,by rw[HE.o];exact ZK.o,Zo.o⟩
 have FD:=Sm rfl;obtain⟨g,rfl⟩:∃g,f=g+1:=⟨f - 1,by omega⟩
 have Yk:Hid (Vw c.en c.T (vR c.en c.T c.nm) g (acc++[((vR c.en c.T c.nm) p2).1]) (VT c.en c.T ((vR c.en c.T c.nm) p2).2)=Q):=(xW _ _ _ _ _ _).symm.trans YW.o;have W_:Hid (p2.k<=((vR c.en c.T c.nm) p2).2.k):=v_k c.en c.T c.nm p2;clear Sm YW;go_wp2_with fail
 refine (Ln c p2 _ ZK.o).mono ?_;rintro e w3 ⟨rfl,h3,Yj⟩;obtain⟨X,hX⟩:∃X,(vR c.en c.T c.nm) p2=X:=⟨_,rfl⟩;rw[hX] at Yk W_ h3 ⊢;obtain⟨x,p3⟩:=X;have Zq:=hI h3;have Yw:=hI (Zo.o.trans Yj);have WL:Hid (w3.ownsRow w.heap.size 3 1 (.slice al acc.length cl) acc.length (acc.map (Value.int .i64))):=TE Yo.o Yj (λk hk=>by rw[hk];exact Tp)
 have J7:w.heap.size<=w3.heap.size:=Yw.o.size;have Xc:=WL.o.alloc (.cells #[.int .i64 x] 3);clear h3 Yj hX Yo
 dsimp only at *
 go_wp2_with (at_builtin;refine wpList_append_own _ rfl _ _ 42 rfl w.heap.size 3 i0 (.int .i64 0) 1 8 Gc hi Ze Y_ Zb rfl (by decide) _ _ _ rfl Xc ⟨w3.heap.size,0,none⟩ 1 1 [.int .i64 x] rfl rfl ?c1 ?c2 ?c3 ?c4 ?c5 ?_)
 case c1=>exact yJ w3 x
 case c2=>intro u hu;rcases Zh.1 hu with rfl;rfl
 case c3=>unfold maxLen;omega
 case c4=>omega
 case c5=>simp;omega
 intro v9 w9 Zp Xg _;have ZS:∀k,(Value.slice al acc.length cl).ownBlock=some k->w.heap.size<=k:=λk hk=>(WL.o.lt k hk).1
 have Ub:Hid (RSt c p3 w9):=(Zq.o.below (Z4 _ _)).grown Xg (λk hk=>by have h1:=ZS k hk;have h2:=QG.o;exact⟨by omega,by omega,by omega⟩)
 have Sr:Hid (Fr (XR9 c.R) w w9):=(Yw.o.alloc _).grown Xg (λk hk=>Or.inr (ZS k hk))
 have Q6:Hid (w9.ownsRow w.heap.size 3 1 v9 (acc++[x]).length ((acc++[x]).map (Value.int .i64))):=by
  show w9.ownsRow _ _ _ _ _ _;rw[ZC,YY];exact Zp
 clear Zp Xg ZS Xc;obtain⟨a9,c9,rfl⟩:=ZJ Q6.o;go_wp2_with fail
 refine (xZ c p3 _ Ub.o).mono ?_;rintro e w4 ⟨rfl,h4,Vj⟩;have QZ:Hid ((VT c.en c.T p3).1=true->(VT c.en c.T p3).2.k=p3.k+1):=xX c.en c.T p3;obtain⟨q,hq⟩:∃q,VT c.en c.T p3=q:=⟨_,rfl⟩;rw[hq] at Yk h4 QZ ⊢;obtain⟨b4,p4⟩:=q;have X9:=hI h4;have UX:=hI (Sr.o.trans Vj);have S_:Hid (w4.ownsRow w.heap.size 3 1 (.slice a9 (acc++[x]).length c9) (acc++[x]).length ((acc++[x]).map (Value.int .i64))):=TE Q6.o Vj (λk hk=>by rw[hk];exact Tp)
 clear h4 Vj hq
 dsimp only at *
 have Yp:Hid (b4=true->c.T.length+2<=g+p4.k):=λhb=>by have h1:=QZ.o hb;have h2:=W_.o;omega
 have Lp:Hid ((acc++[x]).length+g=c.T.length+2):=by show _=_;simp;omega
 have Op:Hid ((acc++[x]).length=acc.length+1):=by show _=_;simp
 obtain⟨acc2,Uw⟩:∃acc2,acc++[x]=acc2:=⟨_,rfl⟩;rw[Uw] at Yk S_ Lp Op Q6 ⊢;clear Uw;go_wp2
 go_roundw
 case rel=>exact⟨g,acc2,b4,p4,Yk,rfl,X9,S_.o,UX,Lp.o,Yp.o⟩
 case measure=>have h1:=Op.o;have h2:=Lp.o;simp[FF];omega
theorem RSt.set {c:RC} {p:RP} {w:World} (h:RSt c p w) {q:Addr} (hR:q.block≠c.R) (hN:c.N<=q.block) (D9:c.NB<=q.block) (u:Value):RSt c p (w.setCell q u):=by
 obtain⟨h1,h2,hn,h3,hd,h4,v,hb,hT⟩:=h;refine⟨h1,by simpa using h2,by simpa using hn,h3,hd,?_,v,(Below.heap_setCell _ _ _ _ (by omega)).trans hb,hT.old λq' hq=>WD (Below.heap_setCell _ _ _ _ (by omega))⟩
 obtain⟨a,cc,hv,hm,hr⟩:=h4;refine⟨a,cc,hv,hm,λi t ht=>?_⟩
 obtain⟨b,off,ha,ZY,Z7,hc⟩:=hr i t ht;exact⟨b,off,ha,ZY,Z7,(WD (Below.heap_setCell _ _ _ _ (λe=>by have e2:b=q.block:=e;omega))).trans hc⟩
theorem qY (en:Int) (T:List Tok) (p:RP):∀(ws:List ByteArray) (i:Nat),0<=(YP en T p ws i).1/\(YP en T p ws i).1<=((i+ws.length:Nat):Int)
 | [],i=>by unfold YP;simp
 | s :: r,i=>by
   unfold YP
   split
   ·simp;omega
   have:=qY en T p r (i+1);simp at this ⊢;omega
theorem zTT:∀s∈opWL.tail,We s:=by
 intro s hs;simp only[opWL,List.tail_cons,YJ,Tx,or_false] at hs;rcases hs with rfl | rfl | rfl | rfl <;> (unfold We;rw[ByteArray.toList_eq,ByteArray.toList_eq];rfl)
theorem gR (c:RC) (p:RP) (w:World) (h:RSt c p w) :
 Calls prog 106 #[.pointer (some ⟨c.R,0,none⟩)] w λe w'=>e=.returned (litA (litR c.en c.T c.nm p).1)/\RSt c (litR c.en c.T c.nm p).2 w'/\Fr (XR9 c.R) w w':=by
 have HS:=hI h;obtain⟨Q,hQ⟩:∃Q,litR c.en c.T c.nm p=Q:=⟨_,rfl⟩;rw[hQ];have HQ:Hid (Q=(⟨(vR c.en c.T c.nm p).1,1+(YP c.en c.T (vR c.en c.T c.nm p).2 opWL.tail 0).1,(kR c.en c.T (YP c.en c.T (vR c.en c.T c.nm p).2 opWL.tail 0).2).1⟩,(kR c.en c.T (YP c.en c.T (vR c.en c.T c.nm p).2 opWL.tail 0).2).2)):=by
  show _=_;rw[<-hQ];rfl
 have Z7:=h.lt;have QG:Hid (c.N<=w.heap.size/\c.NB<=w.heap.size):=⟨h.Nw,h.nb⟩;clear h hQ;go_enter func106,ntmps106
 go_wp2_with fail
 have WB:Bw w ((w.alloc (.cells #[.int .i64 0,.int .i64 0,.int .i64 0] 76)).alloc (.cells #[.int .i64 0,.int .i64 0,.int .i64 0] 76)):=(Z4 _ _).alloc (by simp) _
 refine (Ln c p _ (HS.o.below WB)).mono ?_;rintro e w1 ⟨rfl,h1,W9⟩;obtain⟨q,hq⟩:∃q,vR c.en c.T c.nm p=q:=⟨_,rfl⟩;rw[hq] at HQ h1 ⊢;obtain⟨x,p1⟩:=q;clear hq
 dsimp only at HQ h1 ⊢
 have Zt:Hid (w1.heap[w.heap.size]? = some (.cells #[.int .i64 0,.int .i64 0,.int .i64 0] 76)):=(W9.block _ (by simp;omega) (by show ¬_=_;omega)).trans ((Below.heap_alloc _ _ _ (by simp)).trans (heap_alloc_new w _))
 have Z5:w1.heap[w.heap.size+1]? = some (.cells #[.int .i64 0,.int .i64 0,.int .i64 0] 76):=(W9.block _ (by simp) (by show ¬_=_;omega)).trans (by have:=heap_alloc_new (w.alloc (.cells #[.int .i64 0,.int .i64 0,.int .i64 0] 76)) (.cells #[.int .i64 0,.int .i64 0,.int .i64 0] 76);rw[show (w.alloc (.cells #[.int .i64 0,.int .i64 0,.int .i64 0] 76)).heap.size=w.heap.size+1 by simp] at this;exact this)
 have Xh:Hid (Fr (XR9 c.R) w w1):=(Fr.below WB).trans W9;have Za:=hI h1;have z1:=Z0 Z5 0;have ZU:Hid ((w1.setCell ⟨w.heap.size+1,0,none⟩ (.int .i64 x)).heap[w.heap.size+1]? = some (.cells #[.int .i64 x,.int .i64 0,.int .i64 0] 76)):=by
  show _=_;rw[heap_setCell_same w1 _ 0 _ _ _ Z5];rfl
 have FC:Hid (RSt c p1 (w1.setCell ⟨w.heap.size+1,0,none⟩ (.int .i64 x))):=Za.o.set (by show w.heap.size+1≠_;omega) (by have:=QG.o.1;show _<=w.heap.size+1;omega) (by have:=QG.o.2;show _<=w.heap.size+1;omega) _
 have JT:Hid (Fr (XR9 c.R) w (w1.setCell ⟨w.heap.size+1,0,none⟩ (.int .i64 x))):=Xh.o.setNew (by show _<=w.heap.size+1;omega) _
 have FB:Hid ((w1.setCell ⟨w.heap.size+1,0,none⟩ (.int .i64 x)).heap[w.heap.size]? = some (.cells #[.int .i64 0,.int .i64 0,.int .i64 0] 76)):=(Below.heap_setCell _ _ _ _ (λe=>by have e2:w.heap.size=w.heap.size+1:=e;omega)).trans Zt.o
 obtain⟨y1,Km⟩:∃y1,w1.setCell ⟨w.heap.size+1,0,none⟩ (.int .i64 x)=y1:=⟨_,rfl⟩;have HZ1:Hid (w1.heap.size=y1.heap.size):=by show _=_;rw[<-Km];simp
 have gQ:=hI Km;rw[Km] at ZU FC JT FB;have c0:w1.cell? ⟨w.heap.size+1,0,none⟩=some (.int .i64 0):=Z_ Z5 0 _ rfl;clear W9 Z5 h1 Km Zt Xh Za WB;go_wp2_with fail
 rw[gQ.o];clear z1 c0;have Y':w.heap.size<=y1.heap.size:=JT.o.size;have Om:w.heap.size+1<y1.heap.size:=(Z8.1 ZU.o).1;have QL:Hid (SArg (y1.alloc (.cells #[.string ⟨#[60,61]⟩,.string ⟨#[62,61]⟩,.string ⟨#[61,61]⟩,.string ⟨#[33,61]⟩] 9)) (.slice (some ⟨w1.heap.size,0,none⟩) 4 4) opWL.tail):=yA y1 opWL.tail _ HZ1.o (by decide)
 refine (sq c p1 opWL.tail zTT _ _ ?_ QL.o).mono ?_
 ·exact FC.o.below (Z4 _ _)
 rintro e w2 ⟨rfl,h2,Ye⟩;have IB:Hid (0<=(YP c.en c.T p1 opWL.tail 0).1/\(YP c.en c.T p1 opWL.tail 0).1<=((0+opWL.tail.length:Nat):Int)):=qY c.en c.T p1 opWL.tail 0;obtain⟨q,hq⟩:∃q,YP c.en c.T p1 opWL.tail 0=q:=⟨_,rfl⟩;rw[hq] at HQ h2 IB ⊢;obtain⟨o,p2⟩:=q;clear hq
 dsimp only at HQ h2 IB ⊢
 have ho:0<=o/\o<=4:=by have h:=IB.o;have e:opWL.tail.length=4:=rfl;rw[e] at h;omega
 have xU:Fr (XR9 c.R) y1 w2:=(Fr.below (Z4 _ _)).trans Ye;have Zo:=hI (JT.o.trans xU);have ZI:Hid (w2.heap[w.heap.size]? = some (.cells #[.int .i64 0,.int .i64 0,.int .i64 0] 76)):=(xU.block _ (by omega) (by show ¬_=_;omega)).trans FB.o
 have ZY:w2.heap[w.heap.size+1]? = some (.cells #[.int .i64 x,.int .i64 0,.int .i64 0] 76):=(xU.block _ Om (by show ¬_=_;omega)).trans ZU.o
 have ZK:=hI h2;have z2:=Z0 ZY 1;have c2:w2.cell? ⟨w.heap.size+1,1,none⟩=some (.int .i64 0):=Z_ ZY 1 _ rfl;have Sh:Hid ((w2.setCell ⟨w.heap.size+1,1,none⟩ (.int .i64 (1+o))).heap[w.heap.size+1]? = some (.cells #[.int .i64 x,.int .i64 (1+o),.int .i64 0] 76)):=by
  show _=_;rw[heap_setCell_same w2 _ 1 _ _ _ ZY];rfl
 have FA:Hid (RSt c p2 (w2.setCell ⟨w.heap.size+1,1,none⟩ (.int .i64 (1+o)))):=ZK.o.set (by show w.heap.size+1≠_;omega) (by have:=QG.o.1;show _<=w.heap.size+1;omega) (by have:=QG.o.2;show _<=w.heap.size+1;omega) _
 have Fz:Hid (Fr (XR9 c.R) w (w2.setCell ⟨w.heap.size+1,1,none⟩ (.int .i64 (1+o)))):=Zo.o.setNew (by show _<=w.heap.size+1;omega) _
 have Fy:Hid ((w2.setCell ⟨w.heap.size+1,1,none⟩ (.int .i64 (1+o))).heap[w.heap.size]? = some (.cells #[.int .i64 0,.int .i64 0,.int .i64 0] 76)):=(Below.heap_setCell _ _ _ _ (λe=>by have e2:w.heap.size=w.heap.size+1:=e;omega)).trans ZI.o
 obtain⟨y2,I4⟩:∃y2,w2.setCell ⟨w.heap.size+1,1,none⟩ (.int .i64 (1+o))=y2:=⟨_,rfl⟩;have EL:=hI I4;rw[I4] at Sh FA Fz Fy;clear Ye xU ZY h2 I4 ZI Zo ZK ZU FC JT FB Om Y' gQ;go_wp2_with fail
 rw[EL.o];clear z2 c2;have XX:w.heap.size+1<y2.heap.size:=(Z8.1 Sh.o).1;refine (FI c p2 _ FA.o).mono ?_;rintro e w3 ⟨rfl,h3,Yj⟩;obtain⟨q,hq⟩:∃q,kR c.en c.T p2=q:=⟨_,rfl⟩;rw[hq] at HQ h3 ⊢;obtain⟨n,p3⟩:=q;clear hq
 dsimp only at HQ h3 ⊢
 have ZG:w3.heap[w.heap.size+1]? = some (.cells #[.int .i64 x,.int .i64 (1+o),.int .i64 0] 76):=(Yj.block _ XX (by show ¬_=_;omega)).trans Sh.o
 have Zd:w3.heap[w.heap.size]? = some (.cells #[.int .i64 0,.int .i64 0,.int .i64 0] 76):=(Yj.block _ (by omega) (by show ¬_=_;omega)).trans Fy.o
 have Yw:=hI (Fz.o.trans Yj);have Zq:=hI h3;have d0:w3.cell? ⟨w.heap.size+1,0,none⟩=some (.int .i64 x):=Z_ ZG 0 _ rfl;have d1:w3.cell? ⟨w.heap.size+1,1,none⟩=some (.int .i64 (1+o)):=Z_ ZG 1 _ rfl;have d2:w3.cell? ⟨w.heap.size+1,2,none⟩=some (.int .i64 0):=Z_ ZG 2 _ rfl;have y2z:=Z0 ZG 2;have r0:w3.cell? ⟨w.heap.size,0,none⟩=some (.int .i64 0):=Z_ Zd 0 _ rfl;have r1:w3.cell? ⟨w.heap.size,1,none⟩=some (.int .i64 0):=Z_ Zd 1 _ rfl;have r2:w3.cell? ⟨w.heap.size,2,none⟩=some (.int .i64 0):=Z_ Zd 2 _ rfl;have x0:=Z0 Zd 0;have x1:=Z0 Zd 1;have x2:=Z0 Zd 2;have A3:Hid (Q=(⟨x,1+o,n⟩,p3)):=HQ.o;clear h3 Yj Sh FA Fz Fy XX EL HQ ZG Zd;go_wp2
 refine bodyPost_ret (by simp[results,results106,go_sem, *];try rfl) rfl ?_
 refine⟨by rw[A3.o];first | rfl | (unfold litA;rfl),?_,?_⟩
 ·rw[A3.o]
  have hn:=QG.o
  repeat refine RSt.set ?_ (by simp only;omega) (by simp only;omega) (by simp only;omega) _
  exact Zq.o
 repeat refine Fr.setNew ?_ (by simp only;omega) _
 exact Yw.o
end Go.Proofs.YtndcpnlaadikoaaGreatDoor
