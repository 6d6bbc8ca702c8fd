/- What the proof leans on, part 30. -/
import Derived.Test.YtndcpnlaadikoaaGreatDoorPartBc
set_option maxRecDepth 100000
set_option maxHeartbeats 4000000
open Go.Proofs.Tryz
namespace Go.Proofs.YtndcpnlaadikoaaGreatDoor
open Go.RowKit
theorem zS2 (kind:Int) (s:ByteArray) (hs:s.size<=maxLen) (w:World) :
 Calls prog 100 #[.int .i64 kind,.string s] w λe w'=>e=.returned (.bool (RJ kind s))/\w'=w:=by
 have HS:=hI hs;unfold maxLen at hs;by_cases h0:0<s.size
 ·have Mv:s.toList.isEmpty=false:=by
   rw[ByteArray.toList_eq];cases h:s.data.toList with
   | nil=>have:=T7 s;rw[h] at this;simp at this;omega
   | cons a r=>rfl
  have ZP:¬s.toList=[]:=by intro h;rw[h] at Mv;cases Mv
  by_cases h4:s.size<=4000
  ·by_cases hk:kind=0
   ·have hA:RJ kind s=false:=by unfold RJ;simp[hk]
    rw[hA];subst hk;go_enter func100,ntmps100
    go_wp2
    all_goals (go_ret;exact⟨ZD (by first | rfl | (simp;done) | (simp;omega)),rfl⟩)
   have P9:(kind==0)=false:=by simpa using hk
   have hl:0<s.data.toList.length:=by rw[T7];exact h0
   have hend:=(Fh _ 0 hl).2;rw[T7] at hend;have WV:U5 s.data.toList 0=s[0]:=by rw[K8 _ _ hl];exact Si s 0 h0 hl
   obtain⟨K,hK⟩:∃K,XJ s.data.toList 0=K:=⟨_,rfl⟩;obtain⟨N,hN⟩:∃N,XZ s.data.toList 0=N:=⟨_,rfl⟩;have zH:=pS s.data.toList 0;rw[hK] at zH;rw[hN] at hend;have hT:RJ kind s=(decide ((K:Int)=kind)&&(decide (N=s.size)&&decide (XT kind s=0))):=by
    unfold RJ;rw[hK,hN];simp[h0,h4,hk]
   rw[hT];clear hT;have W_:Hid (((XJ s.data.toList 0:Nat):Int)=(K:Int)):=congrArg Nat.cast hK;have R6:Hid (((XZ s.data.toList 0 - 0:Nat):Int)=(N:Int)):=congrArg Nat.cast hN;clear hK hN;by_cases YD:(K:Int)=kind
   ·subst YD
    by_cases Nh:N=s.size
    ·subst Nh
     rcases zH with rfl | rfl | rfl | rfl
     ·exact absurd rfl hk
     ·by_cases Nr:12<s.size
      ·rw[show XT ((1:Nat):Int) s=2 from pX s Nr]
       clear WV hk P9;go_enter func100,ntmps100
       go_wp2_with fail
       refine (Q5 s 0 h0 HS.o _).mono ?_;rintro e w ⟨rfl,rfl⟩;rw[W_.o,R6.o];go_wp2
       all_goals (go_ret;exact⟨ZD (by first | rfl | (simp;done) | (simp;omega)),rfl⟩)
      rw[show XT ((1:Nat):Int) s=0 from pW s Nr]
      clear WV hk P9;go_enter func100,ntmps100
      go_wp2_with fail
      refine (Q5 s 0 h0 HS.o _).mono ?_;rintro e w ⟨rfl,rfl⟩;rw[W_.o,R6.o];go_wp2
      all_goals (go_ret;exact⟨ZD (by first | rfl | (simp;done) | (simp;omega)),rfl⟩)
     ·by_cases h5:4<s.size
      ·rw[show XT ((2:Nat):Int) s=2 from pV s h5]
       clear WV hk P9;go_enter func100,ntmps100
       go_wp2_with fail
       refine (Q5 s 0 h0 HS.o _).mono ?_;rintro e w ⟨rfl,rfl⟩;rw[W_.o,R6.o];go_wp2
       all_goals (go_ret;exact⟨ZD (by first | rfl | (simp;done) | (simp;omega)),rfl⟩)
      by_cases h1:1<s.size
      ·cases hc:((s[0].toNat:Int)==48)
       ·rw[show XT ((2:Nat):Int) s=0 from AJ s h5 (λ_=>by rw[WV];simpa using hc)]
        clear WV hk P9;go_enter func100,ntmps100
        go_wp2_with fail
        refine (Q5 s 0 h0 HS.o _).mono ?_;rintro e w ⟨rfl,rfl⟩;rw[W_.o,R6.o];go_wp2
        all_goals (go_ret;exact⟨ZD (by first | rfl | (simp;done) | (simp;omega)),rfl⟩)
       rw[show XT ((2:Nat):Int) s=1 from pU s h5 h1 (by rw[WV];simpa using hc)]
       clear WV hk P9;go_enter func100,ntmps100
       go_wp2_with fail
       refine (Q5 s 0 h0 HS.o _).mono ?_;rintro e w ⟨rfl,rfl⟩;rw[W_.o,R6.o];go_wp2
       all_goals (go_ret;exact⟨ZD (by first | rfl | (simp;done) | (simp;omega)),rfl⟩)
      rw[show XT ((2:Nat):Int) s=0 from AJ s h5 (λh=>absurd h h1)]
      clear WV hk P9;go_enter func100,ntmps100
      go_wp2_with fail
      refine (Q5 s 0 h0 HS.o _).mono ?_;rintro e w ⟨rfl,rfl⟩;rw[W_.o,R6.o];go_wp2
      all_goals (go_ret;exact⟨ZD (by first | rfl | (simp;done) | (simp;omega)),rfl⟩)
     rw[show XT ((3:Nat):Int) s=0 from pT s]
     clear WV hk P9;go_enter func100,ntmps100
     go_wp2_with fail
     refine (Q5 s 0 h0 HS.o _).mono ?_;rintro e w ⟨rfl,rfl⟩;rw[W_.o,R6.o];go_wp2
     all_goals (go_ret;exact⟨ZD (by first | rfl | (simp;done) | (simp;omega)),rfl⟩)
    have Gr:((N:Int)==(s.size:Int))=false:=by simpa using (show ¬(N:Int)=(s.size:Int) by omega)
    rw[decide_eq_false Nh];clear WV;go_enter func100,ntmps100
    go_wp2_with fail
    refine (Q5 s 0 h0 HS.o _).mono ?_;rintro e w ⟨rfl,rfl⟩;rw[W_.o,R6.o];go_wp2
    all_goals (go_ret;exact⟨ZD (by first | rfl | (simp;done) | (simp;omega)),rfl⟩)
   have hkf:((K:Int)==kind)=false:=by simpa using YD
   rw[decide_eq_false YD];clear WV;go_enter func100,ntmps100
   go_wp2_with fail
   refine (Q5 s 0 h0 HS.o _).mono ?_;rintro e w ⟨rfl,rfl⟩;rw[W_.o,R6.o];go_wp2
   all_goals (go_ret;exact⟨ZD (by first | rfl | (simp;done) | (simp;omega)),rfl⟩)
  have hA:RJ kind s=false:=by unfold RJ;simp[h4]
  rw[hA];go_enter func100,ntmps100
  go_wp2
  all_goals (go_ret;exact⟨ZD (by first | rfl | (simp;done) | (simp;omega)),rfl⟩)
 have hA:RJ kind s=false:=by unfold RJ;simp[h0]
 have Mv:s.toList=[]:=by
  rw[ByteArray.toList_eq];apply Xf;rw[T7];omega
 rw[hA];go_enter func100,ntmps100
 go_wp2
 all_goals (go_ret;exact⟨ZD (by first | rfl | (simp;done) | (simp;omega)),rfl⟩)
def NJ:List ByteArray:=[⟨#[118,97,114]⟩,⟨#[99,111,110]⟩,⟨#[115,111,108,118,101]⟩,⟨#[108,101]⟩,⟨#[101,113]⟩,⟨#[110,101]⟩,⟨#[100,105,102,102,101,114]⟩,⟨#[101,108,101,109,101,110,116]⟩,⟨#[116,97,98,108,101]⟩,⟨#[116,105,109,101,115]⟩,⟨#[109,97,120]⟩,⟨#[99,108,97,117,115,101]⟩,⟨#[105,102,102]⟩,⟨#[97,110,121]⟩,⟨#[108,101,97,115,116]⟩,⟨#[109,111,115,116]⟩]
theorem yA (w:World) (l:List ByteArray) (B:Nat) (hB:B=w.heap.size) (hl:l.length<=100):SArg (w.alloc (.cells (l.map Value.string).toArray 9)) (.slice (some ⟨B,0,none⟩) l.length l.length) l:=by
 subst hB;refine⟨_,l.length,rfl,⟨Z2 _,by unfold maxLen;omega⟩,λi z hz=>⟨_,0,rfl,by simp,?_⟩⟩
 rw[Zu _ _ _ (0+i) (by simp)]
 simp[hz]
theorem zS3 (f:ByteArray->Bool) (l:List ByteArray) (m:Nat) (s:ByteArray) (hs:l[m]? = some s) (h:(l.take m).any f=false) (hf:f s=false):(l.take (m+1)).any f=false:=by
 rw[Y1,hs,RL,h];show (false || (f s || false))=false
 rw[hf];rfl
theorem zUu (f:ByteArray->Bool) (l:List ByteArray) (m:Nat) (s:ByteArray) (hs:l[m]? = some s) (hf:f s=true):l.any f=true :=
 Yh.2 ⟨s,Zz hs,hf⟩
theorem zS4 (s:ByteArray):NJ.any (λz=>z.toList==s.toList)=Ma s:=by
 have h:∀z:ByteArray,(z.toList==s.toList)=(s.toList==z.toList):=λz=>Yg.2 ⟨λh=>beq_iff_eq.2 (beq_iff_eq.1 h).symm,λh=>beq_iff_eq.2 (beq_iff_eq.1 h).symm⟩
 simp only[h];unfold NJ Ma;simp only[Qr,List.any_nil,O1,ByteArray.toList_eq]
theorem zQ0 (s:ByteArray) (w:World) :
 Calls prog 101 #[.string s] w λe w'=>e=.returned (.bool (Ma s))/\Bw w w':=by
 obtain⟨R,hR⟩:∃R,Ma s=R:=⟨_,rfl⟩;have HR:Hid (NJ.any (λz=>z.toList==s.toList)=R):=(zS4 s).trans hR
 rw[hR];clear hR;have HB:Hid (Bw w (w.alloc (.cells (NJ.map Value.string).toArray 9))):=Z4 _ _;have HV:Hid (SArg (w.alloc (.cells (NJ.map Value.string).toArray 9)) (.slice (some ⟨w.heap.size,0,none⟩) 16 16) NJ):=yA w NJ _ rfl (by decide)
 have HL:Hid (NJ.length=16):=rfl;obtain⟨W,hW⟩:∃W,w.alloc (.cells (NJ.map Value.string).toArray 9)=W:=⟨_,rfl⟩;have HW:=hI hW;rw[hW] at HB HV;clear hW;go_enter func101,ntmps101
 go_wp2_with fail
 rw[show w.alloc (.cells #[.string ⟨#[118,97,114]⟩,.string ⟨#[99,111,110]⟩,.string ⟨#[115,111,108,118,101]⟩,.string ⟨#[108,101]⟩,.string ⟨#[101,113]⟩,.string ⟨#[110,101]⟩,.string ⟨#[100,105,102,102,101,114]⟩,.string ⟨#[101,108,101,109,101,110,116]⟩,.string ⟨#[116,97,98,108,101]⟩,.string ⟨#[116,105,109,101,115]⟩,.string ⟨#[109,97,120]⟩,.string ⟨#[99,108,97,117,115,101]⟩,.string ⟨#[105,102,102]⟩,.string ⟨#[97,110,121]⟩,.string ⟨#[108,101,97,115,116]⟩,.string ⟨#[109,111,115,116]⟩] 9)=W from HW.o]
 go_loopw [4] (λi wr=>∃m:Nat,m<=16/\i=.int .i64 m/\Hid ((NJ.take m).any (λz=>z.toList==s.toList)=false)/\wr=W) (λi _=>16 - (intOf i).toNat)
 case atStart=>exact⟨0,by omega,rfl,rfl,rfl⟩
 obtain⟨m,hm,rfl,Xy,rfl⟩:=hrel;by_cases Z7:m<16
 ·obtain⟨z,hz⟩:∃z,NJ[m]? = some z:=⟨_,ZA (by rw[HL.o];exact Z7)⟩
  obtain⟨a,c,Zf,_,hr⟩:=HV.o;obtain⟨b,off,ha,hb,hc⟩:=hr m z hz;cases Zf
  cases ha
  rw[Zn] at hc;clear hr;cases hq:(z.toList==s.toList)
  ·have HN:Hid ((NJ.take (m+1)).any (λz=>z.toList==s.toList)=false):=zS3 _ _ m z hz Xy.o hq
   clear hz;go_wp2
   go_roundw
   case rel=>exact⟨m+1,by omega,by go_num,HN,by first | rfl | trivial⟩
   case measure=>simp[intOf];omega
  have HN:Hid (R=true):=HR.o.symm.trans (zUu _ _ m z hz hq);clear hz;go_wp2
  go_ret
  exact⟨ZD HN.o.symm,HB.o⟩
 obtain rfl:m=16:=by omega
 have HN:Hid (R=false):=HR.o.symm.trans Xy.o;go_wp2
 go_ret
 exact⟨ZD HN.o.symm,HB.o⟩
theorem sr (s:ByteArray) (hs:s.size<=maxLen) (w:World) :
 Calls prog 48 #[.string s] w λe w'=>e=.returned (.bool (WZ s))/\Bw w w':=by
 have HS:=hI hs;obtain⟨A,hA⟩:∃A,RJ 1 s=A:=⟨_,rfl⟩;obtain⟨C,hC⟩:∃C,Ma s=C:=⟨_,rfl⟩;have HC:=hI hC;have HA:=hI hA;unfold WZ;rw[hA,hC];clear hA hC hs;go_enter func48,ntmps48
 go_wp2_with fail
 refine (zS2 1 s HS.o _).mono ?_;rintro e w ⟨rfl,rfl⟩;rw[HA.o];cases A
 ·go_wp2
  go_ret
  exact⟨rfl,Z6 _ _⟩
 go_wp2_with fail
 refine (zQ0 s _).mono ?_;rintro e w1 ⟨rfl,hb⟩;rw[HC.o];go_wp2
 go_ret
 exact⟨ZD (by simp),hb⟩
theorem zUv (en:Int) (T:List Tok) (p:RP) (ws:List ByteArray) (m:Nat) (s:ByteArray) (hs:ws[m]? = some s) (he:p.er=0) (h:((txR en T p).toList==s.toList)=true):YP en T p (ws.drop m) m=((m:Int),U7 p):=by
 obtain⟨hm,rfl⟩:=ZN.1 hs;rw[Yc hm,YP,if_pos ⟨he,h⟩]
theorem jR (en:Int) (T:List Tok) (p:RP) (ws:List ByteArray) (m:Nat) (s:ByteArray) (hs:ws[m]? = some s) (h:¬(p.er=0/\((txR en T p).toList==s.toList)=true)):YP en T p (ws.drop m) m=YP en T p (ws.drop (m+1)) (m+1):=by
 obtain⟨hm,rfl⟩:=ZN.1 hs;rw[Yc hm,YP,if_neg h]
theorem zUw (en:Int) (T:List Tok) (p:RP) (ws:List ByteArray) (m:Nat) (hm:ws.length<=m):YP en T p (ws.drop m) m=(0,XY 1 p):=by
 rw[SU hm,YP]
theorem sq (c:RC) (p:RP) (ws:List ByteArray) (hs:∀s∈ws,We s) (v:Value) (w:World) (h:RSt c p w) (hv:SArg w v ws) :
 Calls prog 52 #[.pointer (some ⟨c.R,0,none⟩),v] w λe w'=>e=.returned (.int .i64 (YP c.en c.T p ws 0).1)/\RSt c (YP c.en c.T p ws 0).2 w'/\Fr (XR9 c.R) w w':=by
 have HS:=hI h;have M2:=hI hs;obtain⟨Q,hQ⟩:∃Q,YP c.en c.T p ws 0=Q:=⟨_,rfl⟩;have HQ:Hid (YP c.en c.T p (ws.drop 0) 0=Q):=by rw[List.drop_zero];exact hQ
 rw[hQ];obtain⟨X,hX⟩:∃X,txR c.en c.T p=X:=⟨_,rfl⟩;have HX:=hI hX;have En:Hid (∀p' q:Nat,Calls prog 46 #[.pointer (some ⟨c.R,0,none⟩)] (w.drewN (p'+q)) λe w'=>e=.returned (.string X)/\∃n,w'=w.drewN (p'+n)):=by
  intro p' q;refine (My c p _ (HS.o.below (PU rfl))).mono ?_;rintro e w' ⟨rfl,n,rfl⟩;rw[hX];exact⟨rfl,q+n,by rw[Iq,UU]⟩
 have SK:=h.kT;obtain⟨v',hR,hT⟩:=h.blk;have F':c.T.length<=4000:=by obtain⟨a,c,_,_,ht,_⟩:=hT;exact ht.1
 have k3:w.cell? ⟨c.R,3,none⟩=some (.int .i64 p.er):=Z_ hR 3 _ rfl;have k1:w.cell? ⟨c.R,1,none⟩=some (.int .i64 (p.k:Int)):=Z_ hR 1 _ rfl;have z1:=Z0 hR 1;have Z7:=h.lt;obtain⟨a,cc,rfl,hm,hr⟩:=hv;have HV:=hI hr;unfold maxLen at hm;obtain⟨Y0,hm⟩:=hm;clear hR hT h hs hQ hX hr;go_enter func52,ntmps52
 go_wp2_with fail
 go_loopw [5] (λi wr=>∃m:Nat,m<=ws.length/\i=.int .i64 m/\Hid (YP c.en c.T p (ws.drop m) m=Q)/\∃n,wr=w.drewN n) (λi _=>ws.length - (intOf i).toNat)
 case atStart=>exact⟨0,by omega,rfl,HQ,0,rfl⟩
 obtain⟨m,Uo,rfl,Xy,nq,rfl⟩:=hrel;have Za:Hid (RSt c p (w.drewN nq)):=HS.o.below (PU rfl);have Xh:Hid (Fr (XR9 c.R) w (w.drewN nq)):=Fr.below (PU rfl);by_cases XX:m<ws.length
 ·obtain⟨z,hz⟩:∃z,ws[m]? = some z:=⟨_,ZA XX⟩
  obtain⟨b,off,rfl,hb,hc⟩:=HV.o m z hz;by_cases he:p.er=0
  ·cases hq:(X.toList==z.toList)
   ·have HN:Hid (YP c.en c.T p (ws.drop (m+1)) (m+1)=Q):=(jR c.en c.T p ws m z hz (by rw[HX.o,hq];simp)).symm.trans Xy.o
    rw[he] at k3;clear hz he;go_wp2
    go_quiet ((go_at_call 46;exact En.o _ _))
    go_wp2
    go_roundw
    case rel=>exact⟨m+1,by omega,by go_num,HN,_,rfl⟩
    case measure=>simp[intOf];omega
   have HN:Hid (Q=((m:Int),U7 p)):=Xy.o.symm.trans (zUv c.en c.T p ws m z hz he (by rw[HX.o];exact hq))
   have hk:p.k<c.T.length:=(jV c.en c.T p (by have h1:=M2.o z (Zz hz);unfold We at h1;rw[HX.o,beq_iff_eq.1 hq];exact h1)).2
   have ZK:Hid (∀n,RSt c (U7 p) ((w.drewN n).setCell ⟨c.R,1,none⟩ (.int .i64 ((p.k:Int)+1)))):=λn=>(HS.o.below (PU rfl)).step hk
   have Zo:Hid (∀n,Fr (XR9 c.R) w ((w.drewN n).setCell ⟨c.R,1,none⟩ (.int .i64 ((p.k:Int)+1)))):=λn=>(Fr.below (PU rfl)).trans (NO _ _ _ _)
   rw[he] at k3;clear hz he;go_wp2
   go_quiet ((go_at_call 46;exact En.o _ _))
   go_wp2
   go_ret
   exact⟨by rw[HN.o];rfl,by rw[HN.o];exact ZK.o _,Zo.o _⟩
  have HN:Hid (YP c.en c.T p (ws.drop (m+1)) (m+1)=Q):=(jR c.en c.T p ws m z hz (λhq=>he hq.1)).symm.trans Xy.o
  have q0:(p.er==0)=false:=by simpa using he
  clear hz he;go_wp2
  go_quiet (fail)
  go_wp2
  go_roundw
  case rel=>exact⟨m+1,by omega,by go_num,HN,_,rfl⟩
  case measure=>simp[intOf];omega
 have HN:Hid (Q=(0,XY 1 p)):=Xy.o.symm.trans (zUw c.en c.T p ws m (by omega))
 go_wp2_with fail
 refine (NL c p 1 _ Za.o).mono ?_;rintro e w2 ⟨rfl,h2,Ye⟩;have ZK:=hI h2;have Zo:=hI (Xh.o.trans Ye);clear h2 Ye k1 k3 z1;go_wp2
 go_ret
 exact⟨by rw[HN.o];rfl,by rw[HN.o];exact ZK.o,Zo.o⟩
def NI (m:Mod):List Int:=m.cons.map (IX m.vars)
theorem zS5 (m:Mod) (k:Nat) (t:MCon) (h:m.cons[k]? = some t):(NI m)[k]? = some (IX m.vars t):=by simp[NI,h]
def Q4 (m:Mod):Int :=
 if m.vars.length=0 then 1 else if 6<m.vars.length∨8<m.cons.length then 2
 else if Y4 (varL m)=0 then (if Y4 (NI m)=0 then Oe m else Y4 (NI m)) else Y4 (varL m)
def jQ (m:Mod):Prop:=∀c∈m.cons,∀l∈c.lits,1<=l.op/\l.op<=4
theorem jP (vs:List MVar):∀ls:List MLit,(∀l∈ls,1<=l.op/\l.op<=4)->(ls.all λl=>Wd l.var vs.length)=true->Y4 (ls.map (litE vs))=Io ls
 | [],_,_=>rfl
 | x :: r,h,hv=>by
   have hx:=h x Zk;rw[List.all_cons,ZB] at hv;have ih:=jP vs r (λl hl=>h l (Y2 _ hl)) hv.2
   have hr:(r.all λl=>decide (1<=l.op)&&decide (l.op<=4))=true:=W8.2 (λl hl=>by have:=h l (Y2 _ hl);simp;omega)
   have kV:(decide (1<=x.op)&&decide (x.op<=4))=true:=by simp;omega
   have hvx:¬(x.var<0∨(vs.length:Int)<=x.var):=by have:=hv.1;unfold Wd at this;simp at this;omega
   rw[VH];unfold Io at ih ⊢;rw[List.all_cons,List.all_cons,kV,hr,Qq,if_pos rfl];rw[hr,if_pos rfl] at ih;unfold Y4;have V4:litE vs x=if x.n < -1000∨1000<x.n then 3 else 0:=by unfold litE;rw[if_neg hvx,if_neg (by omega)]
   rw[V4];by_cases hn:x.n < -1000∨1000<x.n
   ·have hb:XC x.n=false:=by unfold XC inB;rw[RY];simp;omega
    rw[if_pos hn,hb,Bool.false_and];rfl
   have hb:XC x.n=true:=by unfold XC inB;rw[ZB];simp;omega
   rw[if_neg hn,if_pos rfl,hb,Qq];exact ih
theorem zQ1 (vs:List MVar) (c:MCon) (h:∀l∈c.lits,1<=l.op/\l.op<=4):IX vs c=conE vs.length c:=by
 unfold IX conE
 split
 ·split
  ·rfl
  split
  ·split
   ·rename_i hv
    split
    ·refine jP vs c.lits h ?_
     unfold QW at hv;rw[ZB] at hv;exact hv.2
    rfl
   rfl
  rfl
 rfl
theorem zNE (m:Mod) (h:jQ m):Q4 m=Zs m:=by
 have e:NI m=conL m:=Nz (λc hc=>zQ1 m.vars c (h c hc))
 unfold Q4 Zs;rw[e];rfl
structure CmS (w wr:World) (mb:Array Value):Prop where
 bel:Bw w wr
 mod:wr.heap[w.heap.size]? = some (.cells mb 25)
theorem CmS.below {w wr wr':World} {mb:Array Value} (h:CmS w wr mb) (hb:Bw wr wr'):CmS w wr' mb :=
 ⟨h.bel.trans (hb.mono h.bel.size),(hb.block _ (Z8.1 h.mod).1).trans h.mod⟩
theorem in50 (n:Int):(decide (-50<=n)&&decide (n<=50))=inB n 50:=rfl
theorem jO (m:Mod) (vs cs:Value) (w:World) (hm:MArg w vs cs m) :
 Calls prog 55 #[modV vs cs m] w λe w'=>e=.returned (.int .i64 (Q4 m))/\Bw w w':=by
 have Y3:Hid (∀w':World,Bw w w'->MArg w' vs cs m):=λw' h=>MArg.below h hm
 obtain⟨⟨a1,c1,rfl,WS,VR⟩,⟨a2,c2,rfl,Yn,Yq⟩⟩:=hm;obtain⟨R,hR⟩:∃R,Q4 m=R:=⟨_,rfl⟩;rw[hR];unfold maxLen at WS Yn;obtain⟨K5,WS⟩:=WS;obtain⟨Nq,Yn⟩:=Yn;have GA:Hid (m.vars.length<=maxLen):=by unfold maxLen;show _<=_;omega
 clear VR Yq;unfold modV;have Xd:Hid (CmS w (w.alloc (.cells #[.slice a1 m.vars.length c1,.slice a2 m.cons.length c2,.int .i64 m.goal,.int .i64 m.var] 25)) #[.slice a1 m.vars.length c1,.slice a2 m.cons.length c2,.int .i64 m.goal,.int .i64 m.var]):=⟨Z4 _ _,heap_alloc_new w _⟩;obtain⟨mb,Re⟩:∃mb:Array Value,#[.slice a1 m.vars.length c1,.slice a2 m.cons.length c2,.int .i64 m.goal,.int .i64 m.var]=mb:=⟨_,rfl⟩;have QI:Hid (mb[0]? = some (.slice a1 m.vars.length c1)/\mb[1]? = some (.slice a2 m.cons.length c2)/\mb[2]? = some (.int .i64 m.goal)/\mb[3]? = some (.int .i64 m.var)):=by rw[<-Re];exact⟨rfl,rfl,rfl,rfl⟩
 obtain⟨y,hy⟩:∃y,w.alloc (.cells #[.slice a1 m.vars.length c1,.slice a2 m.cons.length c2,.int .i64 m.goal,.int .i64 m.var] 25)=y:=⟨_,rfl⟩;rw[hy] at Xd;rw[Re] at Xd;have HY:=hI hy;clear hy Re;have m0:y.cell? ⟨w.heap.size,0,none⟩=some (.slice a1 m.vars.length c1):=Z_ Xd.o.mod 0 _ QI.o.1;have m1:y.cell? ⟨w.heap.size,1,none⟩=some (.slice a2 m.cons.length c2):=Z_ Xd.o.mod 1 _ QI.o.2.1;by_cases h0:m.vars.length=0
 ·have HE:Hid (R=1):=by rw[<-hR];unfold Q4;rw[if_pos h0];rfl
  have g0:((m.vars.length:Int)==0)=true:=by simp[h0]
  clear hR h0;go_enter func55,ntmps55
  go_wp2
  go_ret
  exact⟨Zm HE.o.symm,Z4 _ _⟩
 have g0:((m.vars.length:Int)==0)=false:=by simpa using h0
 by_cases h6:6<m.vars.length
 ·have HE:Hid (R=2):=by rw[<-hR];unfold Q4;rw[if_neg h0,if_pos (Or.inl h6)];rfl
  clear hR h0;go_enter func55,ntmps55
  go_wp2
  go_ret
  exact⟨Zm HE.o.symm,Z4 _ _⟩
 by_cases h8:8<m.cons.length
 ·have HE:Hid (R=2):=by rw[<-hR];unfold Q4;rw[if_neg h0,if_pos (Or.inr h8)];rfl
  clear hR h0;go_enter func55,ntmps55
  go_wp2
  go_ret
  exact⟨Zm HE.o.symm,Z4 _ _⟩
 have HE:Hid (R=if Y4 (varL m)=0 then (if Y4 (NI m)=0 then Oe m else Y4 (NI m)) else Y4 (varL m)):=by
  rw[<-hR];unfold Q4;rw[if_neg h0,if_neg (by omega)];rfl
 clear hR h0;go_enter func55,ntmps55
 go_wp2
 rw[HY.o];clear HY m0 m1;go_loopw [4] (λi wr=>∃k:Nat,k<=m.vars.length/\i=.int .i64 k/\Hid (Y4 ((varL m).take k)=0)/\Hid (CmS w wr mb)) (λi _=>m.vars.length - (intOf i).toNat)
 case atStart=>exact⟨0,by omega,rfl,rfl,Xd⟩
 clear Xd;obtain⟨k,hk,rfl,Xy,HS⟩:=hrel;have m0:wr.cell? ⟨w.heap.size,0,none⟩=some (.slice a1 m.vars.length c1):=Z_ HS.o.mod 0 _ QI.o.1;have Oc:w.heap.size<wr.heap.size:=(Z8.1 HS.o.mod).1;by_cases Z7:k<m.vars.length
 ·obtain⟨t,ht⟩:∃t,m.vars[k]? = some t:=⟨m.vars[k],by simp[Z7]⟩
  have HG:Hid ((varL m)[k]? = some (varE (m.vars.take k) t)):=pM m k t ht;obtain⟨a9,c9,e9,_,hr⟩:=(Y3.o _ HS.o.bel).1
  injection e9 with e91 _ e92
  rw[<-e91] at hr;clear e91 e92;obtain⟨Ii,b,off,ha,hb,n0,n1,n2⟩:=hr k t ht;rw[ha] at m0;have Uy:=hI ha;have O0:=hI Ii;clear hr ht ha Ii;obtain⟨V,hV⟩:∃V,varE (m.vars.take k) t=V:=⟨_,rfl⟩;rw[hV] at HG;have HV:Hid (V=(if WZ t.name then (if RG (m.vars.take k) t.name then 6 else if inB t.lo 50&&(inB t.hi 50&&!decide (t.hi<t.lo)) then (if 6<t.hi - t.lo+1 then 2 else 0) else 3) else 1)):=by show _=_;rw[<-hV];rfl
  clear hV;have UH:Hid (V≠0->R=V):=λhv=>by rw[HE.o,if_neg (by rw[L_ _ k V Xy.o HG.o hv];exact hv)];exact L_ _ k V Xy.o HG.o hv
  have WW:Hid (CmS w (wr.alloc (.cells #[.string t.name,.int .i64 t.lo,.int .i64 t.hi] 67)) mb):=HS.o.below (Z4 _ _);have SB:Hid ((wr.alloc (.cells #[.string t.name,.int .i64 t.lo,.int .i64 t.hi] 67)).heap[wr.heap.size]? = some (.cells #[.string t.name,.int .i64 t.lo,.int .i64 t.hi] 67)):=heap_alloc_new wr _;obtain⟨nm,Tq⟩:∃nm,t.name=nm:=⟨_,rfl⟩;obtain⟨lo,YM⟩:∃lo,t.lo=lo:=⟨_,rfl⟩;obtain⟨hi,Wc⟩:∃hi,t.hi=hi:=⟨_,rfl⟩;rw[Tq] at O0;rw[Tq,YM,Wc] at HV;rw[Tq,YM,Wc] at WW SB;rw[Tq] at n0;rw[YM] at n1;rw[Wc] at n2;clear Tq YM Wc;go_wp2_with fail
  refine (sr nm O0.o _).mono ?_;rintro e w1 ⟨rfl,Z5⟩;have Za:=hI (WW.o.below Z5);have Sq:Hid (w1.heap[wr.heap.size]? = some (.cells #[.string nm,.int .i64 lo,.int .i64 hi] 67)):=(Z5.block _ (Z8.1 SB.o).1).trans SB.o;obtain⟨B,hB⟩:∃B,wr.heap.size=B:=⟨_,rfl⟩;rw[hB] at Sq;have Th:=hI hB;clear Z5 WW SB m0 n0 n1 n2 hb HS Oc hB;cases hn:WZ nm
  ·have HN:Hid (R=1):=by
    have hv:V=1:=by rw[HV.o,hn];rfl
    rw[hv] at UH;exact UH.o (by decide)
   clear hn;go_wp2
   go_ret
   exact⟨Zm HN.o.symm,Za.o.bel⟩
  have R9:Hid (V=(if RG (m.vars.take k) nm then 6 else if inB lo 50&&(inB hi 50&&!decide (hi<lo)) then (if 6<hi - lo+1 then 2 else 0) else 3)):=by show _=_;rw[HV.o,hn];rfl
  clear hn HV;go_wp2_with fail
  rw[Th.o];clear Th;go_loopw [6] (λi wx=>∃j:Nat,j<=k/\i=.int .i64 j/\Hid (RG (m.vars.take j) nm=false)/\Hid (CmS w wx mb)/\Hid (wx.heap[B]? = some (.cells #[.string nm,.int .i64 lo,.int .i64 hi] 67))) (λi _=>k - (intOf i).toNat)
  case atStart=>exact⟨0,by omega,rfl,rfl,Za,Sq⟩
  clear Za Sq;obtain⟨j,hj,rfl,T6,Za,Sq⟩:=hrel;have m0:wr.cell? ⟨w.heap.size,0,none⟩=some (.slice a1 m.vars.length c1):=Z_ Za.o.mod 0 _ QI.o.1;have v0:wr.cell? ⟨B,0,none⟩=some (.string nm):=Z_ Sq.o 0 _ rfl;have v1:wr.cell? ⟨B,1,none⟩=some (.int .i64 lo):=Z_ Sq.o 1 _ rfl;have v2:wr.cell? ⟨B,2,none⟩=some (.int .i64 hi):=Z_ Sq.o 2 _ rfl;by_cases Kb:j<k
  ·obtain⟨u,hu⟩:∃u,m.vars[j]? = some u:=⟨m.vars[j],by simp⟩
   have yz:(m.vars.take k)[j]? = some u:=by rw[Qx,if_pos Kb];exact hu
   obtain⟨a9,c9,e9,_,hr⟩:=(Y3.o _ Za.o.bel).1
   injection e9 with e91 _ e92
   rw[<-e91] at hr;clear e91 e92;obtain⟨Ii,b2,off2,ha,ZY,n0,n1,n2⟩:=hr j u hu;rw[ha] at m0;have HU:=hI hu;have EY:=hI yz;clear hr ha Ii hu yz n1 n2;cases hq:(u.name.toList==nm.toList)
   ·have HN:Hid (RG (m.vars.take (j+1)) nm=false):=by
     show _=_;have h1:=T6.o;unfold RG at h1 ⊢;rw[Y1,HU.o,RL,h1];simp[hq]
    clear T6;go_wp2
    go_quiet (fail)
    go_wp2
    have SZ:Hid (Bw wr (wr.drewN nq)):=below_drewN (Z6 _ _) _;go_roundw
    case rel=>exact⟨j+1,by omega,by go_num,HN,Za.o.below SZ.o,(SZ.o.block _ (Z8.1 Sq.o).1).trans Sq.o⟩
    case measure=>simp[intOf];omega
   have HN:Hid (R=6):=by
    have hv:V=6:=by rw[R9.o,pP _ nm j u EY.o hq];rfl
    rw[hv] at UH;exact UH.o (by decide)
   go_wp2
   go_quiet (fail)
   go_wp2
   go_ret
   exact⟨Zm HN.o.symm,(Za.o.below (below_drewN (Z6 _ _) _)).bel⟩
  have T1:j=k:=by omega
  have KM:Hid (V=(if inB lo 50&&(inB hi 50&&!decide (hi<lo)) then (if 6<hi - lo+1 then 2 else 0) else 3)):=by show _=_;rw[R9.o,<-T1,T6.o];rfl
  clear R9 T6 m0 T1;go_wp2_with fail
  refine (Rb _ _ _ _).mono ?_;rintro e wz ⟨rfl,rfl⟩;rw[in50];cases h1:inB lo 50
  ·have HN:Hid (R=3):=by
    have hv:V=3:=by rw[KM.o,h1];rfl
    rw[hv] at UH;exact UH.o (by decide)
   clear h1;go_wp2
   go_ret
   exact⟨Zm HN.o.symm,Za.o.bel⟩
  have YM:-50<=lo/\lo<=50:=by unfold inB at h1;simp at h1;omega
  go_wp2_with fail
  refine (Rb _ _ _ _).mono ?_;rintro e wz ⟨rfl,rfl⟩;rw[in50];cases h2:inB hi 50
  ·have HN:Hid (R=3):=by
    have hv:V=3:=by rw[KM.o,h1,h2];rfl
    rw[hv] at UH;exact UH.o (by decide)
   clear h1 h2;go_wp2
   go_ret
   exact⟨Zm HN.o.symm,Za.o.bel⟩
  have Wc:-50<=hi/\hi<=50:=by unfold inB at h2;simp at h2;omega
  by_cases h3:hi<lo
  ·have HN:Hid (R=3):=by
    have hv:V=3:=by rw[KM.o,h1,h2,decide_eq_true h3];rfl
    rw[hv] at UH;exact UH.o (by decide)
   clear h1 h2;go_wp2
   go_ret
   exact⟨Zm HN.o.symm,Za.o.bel⟩
  have F8:Hid (V=(if 6<hi - lo+1 then 2 else 0)):=by show _=_;rw[KM.o,h1,h2,decide_eq_false h3];rfl
  clear KM h1 h2;by_cases h4:6<hi - lo+1
  ·have HN:Hid (R=2):=by
    have hv:V=2:=by rw[F8.o,if_pos h4]
    rw[hv] at UH;exact UH.o (by decide)
   go_wp2
   go_ret
   exact⟨Zm HN.o.symm,Za.o.bel⟩
  have HN:Hid (Y4 ((varL m).take (k+1))=0):=by
   have hv:V=0:=by rw[F8.o,if_neg h4]
   rw[hv] at HG;exact JG _ k Xy.o HG.o
  clear F8 UH HG;go_wp2
  go_roundw
  case rel=>exact⟨k+1,by omega,by go_num,HN,Za⟩
  case measure=>simp[intOf];omega
 have WO:Hid (R=if Y4 (NI m)=0 then Oe m else Y4 (NI m)):=by
  have h1:=Xy.o;rw[Zi (by rw[pL];omega)] at h1
  show _=_;rw[HE.o,if_pos h1]
 clear HE Xy;go_wp2_with fail
 clear m0 Z7 hk Oc;obtain⟨wa,MJ⟩:∃wa,wr=wa:=⟨_,rfl⟩;rw[MJ] at HS ⊢;clear MJ;go_loopw [7] (λi wr=>∃k:Nat,k<=m.cons.length/\i=.int .i64 k/\Hid (Y4 ((NI m).take k)=0)/\Hid (CmS w wr mb)) (λi _=>m.cons.length - (intOf i).toNat)
 case atStart=>exact⟨0,by omega,rfl,rfl,HS⟩
 clear HS;obtain⟨k,hk,rfl,Xy,HS⟩:=hrel;have m0:wr.cell? ⟨w.heap.size,0,none⟩=some (.slice a1 m.vars.length c1):=Z_ HS.o.mod 0 _ QI.o.1;have m1:wr.cell? ⟨w.heap.size,1,none⟩=some (.slice a2 m.cons.length c2):=Z_ HS.o.mod 1 _ QI.o.2.1;have m2:wr.cell? ⟨w.heap.size,2,none⟩=some (.int .i64 m.goal):=Z_ HS.o.mod 2 _ QI.o.2.2.1;have m3:wr.cell? ⟨w.heap.size,3,none⟩=some (.int .i64 m.var):=Z_ HS.o.mod 3 _ QI.o.2.2.2;by_cases Z7:k<m.cons.length
 ·obtain⟨t,ht⟩:∃t,m.cons[k]? = some t:=⟨m.cons[k],by simp[Z7]⟩
  have hg:=zS5 m k t ht;obtain⟨a9,c9,e9,_,hr⟩:=(Y3.o _ HS.o.bel).2
  injection e9 with e91 _ e92
  rw[<-e91] at hr;clear e91 e92;obtain⟨b,off,vv,vc,vr,vl,ha,hb,q0,q1,q2,q3,q4,q5,QV⟩:=hr k t ht;have Xs:=zLg m t a1 c1 (.slice a2 m.cons.length c2) vv vc vr vl wr.drew GA.o (KArg.below (Z6 _ _).drew QV);obtain⟨er,Yy⟩:∃er,IX m.vars t=er:=⟨_,rfl⟩;rw[Yy] at hg Xs;have HG:=hI hg;obtain⟨⟨x1,y1,rfl,_,_⟩,⟨x2,y2,rfl,_,_⟩,⟨x3,y3,rfl,_,_⟩,⟨x4,y4,rfl,_,_⟩⟩:=QV;unfold conV at Xs;have m1':wr.cell? ⟨w.heap.size,1,none⟩=some (.slice (some ⟨b,off,none⟩) m.cons.length c2):=by rw[<-ha];exact m1
  rw[ha] at Xs;clear hr ht Yy hg m1 ha;go_wp2_with fail
  go_region_law
   (first
     | (rw[if_pos (by rfl)];go_simp;go_at_call 107;refine Xs.mono ?_;rintro e w3 ⟨rfl,ZG⟩;have hB3:Bw wr w3:=(Z6 _ _).drew.trans ZG;dsimp only))
  all_goals
   have Zq:=hI (HS.o.below hB3);clear hB3 ZG Xs;by_cases he:er=0
   ·subst he
    have HN:Hid (Y4 ((NI m).take (k+1))=0):=JG _ k Xy.o HG.o;go_wp2
    go_roundw
    case rel=>exact⟨k+1,by omega,by go_num,HN,Zq⟩
    case measure=>simp[intOf];omega
   have HN:Hid (R=er):=by show _=_;rw[WO.o,if_neg (by rw[L_ _ k er Xy.o HG.o he];exact he)];exact L_ _ k er Xy.o HG.o he
   have V3:(er != 0)=true:=by simpa using he
   clear he;go_wp2
   go_ret
   exact⟨Zm HN.o.symm,Zq.o.bel⟩
 have iOq:Hid (R=Oe m):=by
  have h1:=Xy.o;rw[Zi (by unfold NI;rw[YU];omega)] at h1
  show _=_;rw[WO.o,if_pos h1]
 clear WO Xy;obtain⟨g,hg⟩:∃g,m.goal=g:=⟨_,rfl⟩;obtain⟨x,hx⟩:∃x,m.var=x:=⟨_,rfl⟩;rw[hg] at m2;rw[hx] at m3;have BO:Hid (R=if g=0 then (if x=0 then 0 else 1) else if g=1∨g=2 then (if Wd x m.vars.length then 0 else 5) else 7):=by show _=_;rw[iOq.o,<-hg,<-hx];rfl
 clear iOq hg hx;go_wp2_with fail
 refine (Rb _ _ _ _).mono ?_;rintro e wz ⟨rfl,rfl⟩;by_cases hg02:0<=g/\g<=2
 ·have hq:(decide (0<=g)&&decide (g<=2))=true:=by rw[ZB];simp;omega
  rw[hq];by_cases Ua:g=0
  ·subst Ua
   by_cases TK:x=0
   ·subst TK
    have HN:Hid (R=0):=BO.o;go_wp2
    go_ret
    exact⟨Zm HN.o.symm,HS.o.bel⟩
   have HN:Hid (R=1):=by show _=_;rw[BO.o,if_pos rfl,if_neg TK]
   have hxn:(x != 0)=true:=by simpa using TK
   clear TK;go_wp2
   go_ret
   exact⟨Zm HN.o.symm,HS.o.bel⟩
  have zS:(g != 0)=true:=by simpa using Ua
  have zv:(g==0)=false:=by simpa using Ua
  have XL:Hid (R=if Wd x m.vars.length then 0 else 5):=by show _=_;rw[BO.o,if_neg Ua,if_pos (by omega)]
  clear BO;have Ei:Hid (IntKind.i64.wrap ((m.vars.length:Int) - 1)=(m.vars.length:Int) - 1):=by show _=_;rw[IntKind.wrap_i64];omega
  go_wp2_with fail
  refine (Rb _ _ _ _).mono ?_;rintro e wz ⟨rfl,rfl⟩
  try rw[Ei.o]
  rw[B2];cases hv:Wd x m.vars.length
  ·have HN:Hid (R=5):=by show _=_;rw[XL.o,hv];rfl
   clear hv;go_wp2
   go_ret
   exact⟨Zm HN.o.symm,HS.o.bel⟩
  have HN:Hid (R=0):=by show _=_;rw[XL.o,hv];rfl
  clear hv;go_wp2
  go_ret
  exact⟨Zm HN.o.symm,HS.o.bel⟩
 have hq:(decide (0<=g)&&decide (g<=2))=false:=by rw[RY];simp;omega
 rw[hq];have HN:Hid (R=7):=by show _=_;rw[BO.o,if_neg (by omega),if_neg (by omega)]
 go_wp2
 go_ret
 exact⟨Zm HN.o.symm,HS.o.bel⟩
open Go.RowKit Go.Maps
theorem zIT (m:Mod) (vals:List Int) (hm:Zs m=0) (IM:Q4 m=0) (vs cs v:Value) (w:World) (Y8:MArg w vs cs m) (hv:IArg w v vals) :
 Calls prog 14 #[modV vs cs m,v] w λe w'=>e=.returned (.int .i64 (U9 m vals).2)/\Bw w w':=by
 have Y3:Hid (∀w',Bw w w'->MArg w' vs cs m):=λw' h=>MArg.below h Y8
 obtain⟨⟨a1,c1,rfl,_,OK⟩,⟨a2,c2,rfl,_,_⟩⟩:=Y8;have HV:=hI OK
 obtain⟨a3,c3,rfl,_,I5⟩:=hv;have HI:=hI I5;obtain⟨R,hR⟩:∃R,(U9 m vals).2=R:=⟨_,rfl⟩;rw[hR];have To:=hI hm;have UA:=hI IM;unfold U9 at hR;rw[if_pos hm] at hR;obtain⟨q1,q2,q3⟩:=I6 m hm;clear OK I5 hm IM;unfold modV;go_enter func14,ntmps14
 go_wp2_with fail
 have Yt:Bw w (w.alloc (.cells #[.slice a1 m.vars.length c1,.slice a2 m.cons.length c2,.int .i64 m.goal,.int .i64 m.var] 25)):=Z4 _ _;refine (jO m (.slice a1 m.vars.length c1) (.slice a2 m.cons.length c2) _ (Y3.o _ Yt)).mono ?_;rintro e w1 ⟨rfl,Z5⟩;rw[UA.o];have Uy:Hid (w1.heap[w.heap.size]? = some (.cells #[.slice a1 m.vars.length c1,.slice a2 m.cons.length c2,.int .i64 m.goal,.int .i64 m.var] 25)):=(Z5.block _ (by simp)).trans (heap_alloc_new _ _)
 have XE:Hid (Bw w w1):=Yt.trans (Z5.mono (by simp))
 have lq:w.heap.size<w1.heap.size:=by have:=Z5.size;simp at this;omega
 clear Z5 Yt;have g0:=Z_ Uy.o 0 _ rfl;have g2:=Z_ Uy.o 2 _ rfl;have g3:=Z_ Uy.o 3 _ rfl;have Y':=XE.o.size;by_cases hl:vals.length=m.vars.length
 case neg =>
  rw[if_neg hl] at hR;have HR:Hid (R=1):=hR.symm;have hq:((vals.length:Int) != (m.vars.length:Int))=true:=by simp;omega
  clear hR hl q1 q2 q3;go_wp2_with fail
  go_quiet (fail)
  go_wp2
  go_ret
  exact⟨by rw[HR.o];rfl,below_drewN XE.o _⟩
 rw[if_pos hl] at hR;obtain⟨k,hk⟩:∃k:Nat,m.var=(k:Int):=⟨m.var.toNat,by omega⟩
 have KF:k<m.vars.length:=by omega
 obtain⟨t,ht⟩:∃t,m.vars[k]? = some t:=⟨m.vars[k],by rw[ZA KF]⟩
 obtain⟨_,b,off,ha,YF,c0,c1',c2'⟩:=HV.o k t ht;obtain⟨z,hz⟩:∃z,vals[k]? = some z:=⟨vals[k]'(by omega),by rw[ZA (by omega)]⟩
 obtain⟨b3,off3,EH,Rc,cz⟩:=HI.o k z hz;subst ha EH;have MO:ZF m.vars k=t:=by unfold ZF;rw[ZO,ht];rfl
 have P2:Zx vals m.var=z:=by unfold Zx;rw[hk,YK,ZO,hz];rfl
 rw[P2,hk,YK,MO] at hR;have e0:=(XE.o.cell (p:=⟨b,off+k * 3,none⟩) YF).trans c0;have e1:=(XE.o.cell (p:=⟨b,off+k * 3+1,none⟩) YF).trans c1';have e2:=(XE.o.cell (p:=⟨b,off+k * 3+2,none⟩) YF).trans c2';have e3:=(XE.o.cell (p:=⟨b3,off3+k,none⟩) Rc).trans cz;have lb:b<w1.heap.size:=by omega
 have lb3:b3<w1.heap.size:=by omega
 have Cs:(k:Int)<(m.vars.length:Int):=by omega
 have hkz:k<vals.length:=by omega
 have tK:(k:Int)<(vals.length:Int):=by omega
 rw[hk] at g3;have hq:((vals.length:Int) != (m.vars.length:Int))=false:=by rw[hl];simp
 have HR:=(show Hid _ from hR)
 clear hR hl q1 q2 q3 MO P2 hz ht YF Rc c0 c1' c2' cz hk;obtain⟨tn,tl,th⟩:=t;simp only at e0 e1 e2;obtain⟨mv,mc,mg,mk⟩:=m;simp only at g0 g2 g3 hq KF Cs ⊢;by_cases hg:mg=0
 ·subst hg
  have HE:Hid (R=0):=by have h:=HR.o;rw[if_neg (λh=>h.1 rfl)] at h;exact h.symm
  go_wp2_with fail
  go_quiet (fail)
  go_wp2
  go_ret
  exact⟨by rw[HE.o];rfl,below_drewN XE.o _⟩
 have R8:(mg != 0)=true:=by simpa using hg
 by_cases h1:z<tl
 ·have HE:Hid (R=3):=by have h:=HR.o;rw[if_pos ⟨hg,Or.inl h1⟩] at h;exact h.symm
  have d1:decide (z<tl)=true:=decide_eq_true h1;clear hg h1;go_wp2_with fail
  go_quiet (fail)
  go_wp2
  go_ret
  exact⟨by rw[HE.o];rfl,below_drewN XE.o _⟩
 have d1:decide (z<tl)=false:=decide_eq_false h1;by_cases h2:th<z
 ·have HE:Hid (R=3):=by have h:=HR.o;rw[if_pos ⟨hg,Or.inr h2⟩] at h;exact h.symm
  have d2:decide (th<z)=true:=decide_eq_true h2;clear hg h1 h2;go_wp2_with fail
  go_quiet (fail)
  go_wp2
  go_ret
  exact⟨by rw[HE.o];rfl,below_drewN XE.o _⟩
 have HE:Hid (R=0):=by have h:=HR.o;rw[if_neg (λh=>h.2.elim h1 h2)] at h;exact h.symm
 have d2:decide (th<z)=false:=decide_eq_false h2;clear hg h1 h2;go_wp2_with fail
 go_quiet (fail)
 go_wp2
 go_ret
 exact⟨by rw[HE.o];rfl,below_drewN XE.o _⟩
end Go.Proofs.YtndcpnlaadikoaaGreatDoor
