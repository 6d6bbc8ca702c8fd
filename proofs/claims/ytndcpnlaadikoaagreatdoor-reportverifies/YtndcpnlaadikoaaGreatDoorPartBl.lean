/- What the proof leans on, part 38. -/
import Derived.Test.YtndcpnlaadikoaaGreatDoorPartBk
set_option maxRecDepth 100000
set_option maxHeartbeats 12800000
open Go.Proofs.Tryz
namespace Go.Proofs.YtndcpnlaadikoaaGreatDoor
open Go.RowKit
theorem zU8 (N R M:Nat) (en:Int) (names:List ByteArray) (w:World) (l:List Tok) (h:Rd N R M en w l) (hn:NmS w M names) (ZP:∀n∈names,n.data.toList≠[]) :
 Calls prog 222 #[.pointer (some ⟨R,0,none⟩)] w (Vy (conP en names l) (GC w.heap.size) N R M en (λk=>k=R) w):=by
 have HB:=hI h;have HN:=hI hn;have Vx:=hI ZP;have Ow:R<w.heap.size:=by obtain⟨_,_,hR,_⟩:=h;exact (Z8.1 hR).1
 obtain⟨P,hP⟩:∃P,conP en names l=P:=⟨_,rfl⟩;have HP:Hid (P=(Zv en conW l).bind λ_ l=>(VJ en WF l).bind λk l=>(Wn en names k l).bind λc l=>(Zv en YV l).bind λ_ l=>.ok c l):=hP.symm
 rw[hP];clear h hP hn ZP;go_enter func222,ntmps222
 go_wp2_with fail
 have Ws:=Z4 w (.cells #[.int .i64 0,.slice none 0 0,.slice none 0 0,.int .i64 0,.slice none 0 0,.slice none 0 0] 69);have S0:=heap_alloc_new w (.cells #[.int .i64 0,.slice none 0 0,.slice none 0 0,.int .i64 0,.slice none 0 0,.slice none 0 0] 69);refine (TF N R M en conW rI _ l (HB.o.below Ws)).mono ?_;intro e w1 hp;have Pb:=ZE (Fr.below (X:=λk=>k=R) Ws)
 rcases hs:Zv en conW l with ⟨t1,q1⟩ | ⟨x,er⟩ <;> rw[hs] at hp
 rotate_left
 ·obtain⟨rfl,Z'⟩:=hp
  replace Pb:=ZE (Pb.o.trans Z')
  replace HP:=rC HP hs
  clear hs Z' Ws S0;go_wp2
  exact⟨rfl,by rw[HP.o];exact⟨rfl,Pb.o⟩⟩
 obtain⟨v,rfl,rfl,Bl,FS⟩:=hp;have Yl:=ZE Bl;have Xh:=ZE (Pb.o.trans FS);have Xw:=ZE ((FS.block _ (by simp) (by omega)).trans S0)
 replace HP:=hend HP hs
 clear Pb S0 Ws Bl FS hs;go_wp2_with fail
 refine (zQy w1).mono ?_;rintro e w2 ⟨sv,rfl,R',ZY⟩;have WW:=ZE R';obtain⟨as_,cs_,rfl,_,_⟩:=R';have Zy:=ZE (Yl.o.below ZY);have Zo:=ZE (Xh.o.trans (Fr.below ZY));have YW:=ZE ((ZY.block _ (Z8.1 Xw.o).1).trans Xw.o);clear ZY Yl Xh Xw;go_wp2_with fail
 refine (sI N R M en WF _ w2 q1 Zy.o WW.o).mono ?_;intro e w3 hp;rcases hs:VJ en WF q1 with ⟨k,q2⟩ | ⟨x,er⟩ <;> rw[hs] at hp
 rotate_left
 ·obtain⟨rfl,Z'⟩:=hp
  replace Zo:=ZE (Zo.o.trans Z')
  replace HP:=rC HP hs
  clear hs Z';go_wp2
  exact⟨rfl,by rw[HP.o];exact⟨rfl,Zo.o⟩⟩
 obtain⟨v,rfl,rfl,Bk,JY⟩:=hp
 replace HP:=hend HP hs
 have HS:Hid (ConS N R M en names w w3.heap.size (w3.alloc (.cells #[.int .i64 k,.slice none 0 0,.slice none 0 0,.int .i64 0,.slice none 0 0,.slice none 0 0] 69)) q2 (.slice none 0 0) (.slice none 0 0) (.slice none 0 0) (.slice none 0 0) ⟨k,[],[],0,[],[]⟩):=by
  have Yu:=Z4 w3 (.cells #[.int .i64 k,.slice none 0 0,.slice none 0 0,.int .i64 0,.slice none 0 0,.slice none 0 0] 69);have Z7:w.heap.size<w3.heap.size:=ZQ (Z8.1 YW.o).1 JY.size;have Z':=(Zo.o.trans JY).trans (Fr.below Yu);exact⟨Bk.below Yu,Z',HN.o.old (Z'.block M HN.o.lt HB.o.1.2.2),(Yu.block _ Z7).trans ((JY.block _ (Z8.1 YW.o).1 (by omega)).trans YW.o),heap_alloc_new _ _,Z7,Ow,HB.o.1.2.1,HN.o.lt,ConR.none _ _ _⟩
 clear Bk JY Zy Zo YW hs WW;have hk:(k=1∨k=2∨k=3)∨k=4∨k=5∨k=6∨k=7∨k=9∨k=10∨k=8∨(¬k=1/\¬k=2/\¬k=3/\¬k=4/\¬k=5/\¬k=6/\¬k=7/\¬k=8/\¬k=9/\¬k=10):=by omega
 rcases hk with hk | rfl | rfl | rfl | rfl | rfl | rfl | rfl | hk
 case' inl =>
  rcases hk with rfl | rfl | rfl
  case' inl=>rw[show Wn en names 1 q2=(Yf en (Yi en) q2).bind λcs l=>(Yf en (X7 en names) l).bind λvs l=>(Yi en l).bind λn l=>.ok ⟨1,vs,cs,n,[],[]⟩ l by simp[Wn]] at HP
  case' inr.inl=>rw[show Wn en names 2 q2=(Yf en (Yi en) q2).bind λcs l=>(Yf en (X7 en names) l).bind λvs l=>(Yi en l).bind λn l=>.ok ⟨2,vs,cs,n,[],[]⟩ l by simp[Wn]] at HP
  case' inr.inr=>rw[show Wn en names 3 q2=(Yf en (Yi en) q2).bind λcs l=>(Yf en (X7 en names) l).bind λvs l=>(Yi en l).bind λn l=>.ok ⟨3,vs,cs,n,[],[]⟩ l by simp[Wn]] at HP
  all_goals
   go_wp2_with fail
   refine (sx N R M en _ _ HS.o.rd).mono ?_;intro e w4 hp;rcases hs:Yf en (Yi en) q2 with ⟨cs,q3⟩ | ⟨x,er⟩ <;> rw[hs] at hp
   rotate_left
   ·obtain⟨rfl,Z'⟩:=hp
    replace HS:=ZE (HS.o.fr.trans Z')
    replace HP:=hbad HP hs
    clear hs Z';go_wp2
    exact⟨rfl,by rw[HP.o];exact⟨rfl,HS.o⟩⟩
   obtain⟨v4,rfl,ho,ZV,Z'⟩:=hp;have HO:=ZE (Ux ho HS.o.base);obtain⟨a4,c4,hv⟩:=ZJ ho;subst hv
   replace HS:=ZE (HS.o.call Z' ZV)
   replace HP:=Q1 HP hs
   clear ho hs ZV Z';have r2:=Z_ HS.o.con 2 _ rfl;have z2:=Z0 HS.o.con 2
   replace HS:=ZE (HS.o.consts HO.o)
   clear HO;go_wp2_with fail
   refine (yF N R M en names _ _ HS.o.rd HS.o.nm Vx.o).mono ?_;intro e w5 hp;rcases hs:Yf en (X7 en names) q3 with ⟨vs,q4⟩ | ⟨x,er⟩ <;> rw[hs] at hp
   rotate_left
   ·obtain⟨rfl,Z'⟩:=hp
    replace HS:=ZE (HS.o.fr.trans Z')
    replace HP:=hbad HP hs
    clear hs Z';go_wp2
    exact⟨rfl,by rw[HP.o];exact⟨rfl,HS.o⟩⟩
   obtain⟨v5,rfl,⟨ho,_⟩,ZV,Z'⟩:=hp;have HO:=ZE (Ux ho HS.o.base);obtain⟨a5,c5,hv⟩:=ZJ ho;subst hv
   replace HS:=ZE (HS.o.call Z' ZV)
   replace HP:=Q1 HP hs
   clear ho hs ZV Z';have r1:=Z_ HS.o.con 1 _ rfl;have z1:=Z0 HS.o.con 1
   replace HS:=ZE (HS.o.vars HO.o)
   clear HO;go_wp2_with fail
   refine (BX N R M en _ _ HS.o.rd).mono ?_;intro e w6 hp;rcases hs:Yi en q4 with ⟨n,qz⟩ | ⟨x,er⟩ <;> rw[hs] at hp
   rotate_left
   ·obtain⟨rfl,Z'⟩:=hp
    replace HS:=ZE (HS.o.fr.trans Z')
    replace HP:=hbad HP hs
    clear hs Z';go_wp2
    exact⟨rfl,by rw[HP.o];exact⟨rfl,HS.o⟩⟩
   obtain⟨v6,rfl,⟨rfl,_,_⟩,ZV,Z'⟩:=hp
   replace HS:=ZE (HS.o.call Z' ZV)
   replace HP:=Q1 HP hs
   clear hs ZV Z';have r3:=Z_ HS.o.con 3 _ rfl;have z3:=Z0 HS.o.con 3
   replace HS:=ZE (HS.o.n n)
 case' inr.inl =>
  rw[show Wn en names 4 q2=(Yf en (X7 en names) q2).bind λvs l=>.ok ⟨4,vs,[],0,[],[]⟩ l by simp[Wn]] at HP
  go_wp2_with fail
  refine (yF N R M en names _ _ HS.o.rd HS.o.nm Vx.o).mono ?_;intro e w4 hp;rcases hs:Yf en (X7 en names) q2 with ⟨vs,qz⟩ | ⟨x,er⟩ <;> rw[hs] at hp
  rotate_left
  ·obtain⟨rfl,Z'⟩:=hp
   replace HS:=ZE (HS.o.fr.trans Z')
   replace HP:=hbad HP hs
   clear hs Z';go_wp2
   exact⟨rfl,by rw[HP.o];exact⟨rfl,HS.o⟩⟩
  obtain⟨v4,rfl,⟨ho,_⟩,ZV,Z'⟩:=hp;have HO:=ZE (Ux ho HS.o.base);obtain⟨a4,c4,hv⟩:=ZJ ho;subst hv
  replace HS:=ZE (HS.o.call Z' ZV)
  replace HP:=Q1 HP hs
  clear ho hs ZV Z';have r1:=Z_ HS.o.con 1 _ rfl;have z1:=Z0 HS.o.con 1
  replace HS:=ZE (HS.o.vars HO.o)
  clear HO
 case' inr.inr.inl =>
  rw[show Wn en names 5 q2=(Yf en (Yi en) q2).bind λcs l=>(X7 en names l).bind λa l=>(X7 en names l).bind λb l=>.ok ⟨5,[a,b],cs,0,[],[]⟩ l by simp[Wn]] at HP
  go_wp2_with fail
  refine (sx N R M en _ _ HS.o.rd).mono ?_;intro e w4 hp;rcases hs:Yf en (Yi en) q2 with ⟨cs,q3⟩ | ⟨x,er⟩ <;> rw[hs] at hp
  rotate_left
  ·obtain⟨rfl,Z'⟩:=hp
   replace HS:=ZE (HS.o.fr.trans Z')
   replace HP:=hbad HP hs
   clear hs Z';go_wp2
   exact⟨rfl,by rw[HP.o];exact⟨rfl,HS.o⟩⟩
  obtain⟨v4,rfl,ho,ZV,Z'⟩:=hp;have HO:=ZE (Ux ho HS.o.base);obtain⟨a4,c4,hv⟩:=ZJ ho;subst hv
  replace HS:=ZE (HS.o.call Z' ZV)
  replace HP:=Q1 HP hs
  clear ho hs ZV Z';have r2:=Z_ HS.o.con 2 _ rfl;have z2:=Z0 HS.o.con 2
  replace HS:=ZE (HS.o.consts HO.o)
  clear HO;go_wp2_with fail
  refine (Lw N R M en names _ _ HS.o.rd HS.o.nm Vx.o).mono ?_;intro e w5 hp;rcases hs:X7 en names q3 with ⟨a,q4⟩ | ⟨x,er⟩ <;> rw[hs] at hp
  rotate_left
  ·obtain⟨rfl,Z'⟩:=hp
   replace HS:=ZE (HS.o.fr.trans Z')
   replace HP:=hbad HP hs
   clear hs Z';go_wp2
   exact⟨rfl,by rw[HP.o];exact⟨rfl,HS.o⟩⟩
  obtain⟨v5,rfl,rfl,ZV,Z'⟩:=hp
  replace HS:=ZE (HS.o.call Z' ZV)
  replace HP:=Q1 HP hs
  clear hs ZV Z';go_wp2_with fail
  refine (Lw N R M en names _ _ HS.o.rd HS.o.nm Vx.o).mono ?_;intro e w6 hp;rcases hs:X7 en names q4 with ⟨b,qz⟩ | ⟨x,er⟩ <;> rw[hs] at hp
  rotate_left
  ·obtain⟨rfl,Z'⟩:=hp
   replace HS:=ZE (HS.o.fr.trans Z')
   replace HP:=hbad HP hs
   clear hs Z';go_wp2
   exact⟨rfl,by rw[HP.o];exact⟨rfl,HS.o⟩⟩
  obtain⟨v6,rfl,rfl,ZV,Z'⟩:=hp
  replace HS:=ZE (HS.o.call Z' ZV)
  replace HP:=Q1 HP hs
  clear hs ZV Z';have r1:=Z_ HS.o.con 1 _ rfl;have z1:=Z0 HS.o.con 1;have I8:w3.heap.size<w6.heap.size:=(Z8.1 HS.o.con).1
  replace HS:=ZE (HS.o.varsLit [a,b] (by simp))
 case' inr.inr.inr.inl =>
  rw[show Wn en names 6 q2=(Yf en (X7 en names) q2).bind λvs l=>(Yf en (Yf en (Yi en)) l).bind λrs l=>.ok ⟨6,vs,[],0,rs,[]⟩ l by simp[Wn]] at HP
  go_wp2_with fail
  refine (yF N R M en names _ _ HS.o.rd HS.o.nm Vx.o).mono ?_;intro e w4 hp;rcases hs:Yf en (X7 en names) q2 with ⟨vs,q3⟩ | ⟨x,er⟩ <;> rw[hs] at hp
  rotate_left
  ·obtain⟨rfl,Z'⟩:=hp
   replace HS:=ZE (HS.o.fr.trans Z')
   replace HP:=hbad HP hs
   clear hs Z';go_wp2
   exact⟨rfl,by rw[HP.o];exact⟨rfl,HS.o⟩⟩
  obtain⟨v4,rfl,⟨ho,_⟩,ZV,Z'⟩:=hp;have HO:=ZE (Ux ho HS.o.base);obtain⟨a4,c4,hv⟩:=ZJ ho;subst hv
  replace HS:=ZE (HS.o.call Z' ZV)
  replace HP:=Q1 HP hs
  clear ho hs ZV Z';have r1:=Z_ HS.o.con 1 _ rfl;have z1:=Z0 HS.o.con 1
  replace HS:=ZE (HS.o.vars HO.o)
  clear HO;go_wp2_with fail
  refine (zUo w.heap.size N R M en _ _ HS.o.rd HS.o.base HS.o.Rw).mono ?_;intro e w5 hp;rcases hs:Yf en (Yf en (Yi en)) q3 with ⟨rs,qz⟩ | ⟨x,er⟩ <;> rw[hs] at hp
  rotate_left
  ·obtain⟨rfl,Z'⟩:=hp
   replace HS:=ZE (HS.o.fr.trans Z')
   replace HP:=hbad HP hs
   clear hs Z';go_wp2
   exact⟨rfl,by rw[HP.o];exact⟨rfl,HS.o⟩⟩
  obtain⟨v5,rfl,ho,ZV,Z'⟩:=hp;have HO:=ZE (ho.mono HS.o.base);obtain⟨a5,c5,hv⟩:=ho.form;subst hv
  replace HS:=ZE (HS.o.call Z' ZV)
  replace HP:=Q1 HP hs
  clear ho hs ZV Z';have r4:=Z_ HS.o.con 4 _ rfl;have z4:=Z0 HS.o.con 4
  replace HS:=ZE (HS.o.rows HO.o)
  clear HO
 case' inr.inr.inr.inr.inl =>
  rw[show Wn en names 7 q2=(X7 en names q2).bind λa l=>(X7 en names l).bind λb l=>(X7 en names l).bind λc l=>.ok ⟨7,[a,b,c],[],0,[],[]⟩ l by simp[Wn]] at HP
  go_wp2_with fail
  refine (Lw N R M en names _ _ HS.o.rd HS.o.nm Vx.o).mono ?_;intro e w4 hp;rcases hs:X7 en names q2 with ⟨a,q3⟩ | ⟨x,er⟩ <;> rw[hs] at hp
  rotate_left
  ·obtain⟨rfl,Z'⟩:=hp
   replace HS:=ZE (HS.o.fr.trans Z')
   replace HP:=hbad HP hs
   clear hs Z';go_wp2
   exact⟨rfl,by rw[HP.o];exact⟨rfl,HS.o⟩⟩
  obtain⟨v4,rfl,rfl,ZV,Z'⟩:=hp
  replace HS:=ZE (HS.o.call Z' ZV)
  replace HP:=Q1 HP hs
  clear hs ZV Z';go_wp2_with fail
  refine (Lw N R M en names _ _ HS.o.rd HS.o.nm Vx.o).mono ?_;intro e w5 hp;rcases hs:X7 en names q3 with ⟨b,q4⟩ | ⟨x,er⟩ <;> rw[hs] at hp
  rotate_left
  ·obtain⟨rfl,Z'⟩:=hp
   replace HS:=ZE (HS.o.fr.trans Z')
   replace HP:=hbad HP hs
   clear hs Z';go_wp2
   exact⟨rfl,by rw[HP.o];exact⟨rfl,HS.o⟩⟩
  obtain⟨v5,rfl,rfl,ZV,Z'⟩:=hp
  replace HS:=ZE (HS.o.call Z' ZV)
  replace HP:=Q1 HP hs
  clear hs ZV Z';go_wp2_with fail
  refine (Lw N R M en names _ _ HS.o.rd HS.o.nm Vx.o).mono ?_;intro e w6 hp;rcases hs:X7 en names q4 with ⟨c,qz⟩ | ⟨x,er⟩ <;> rw[hs] at hp
  rotate_left
  ·obtain⟨rfl,Z'⟩:=hp
   replace HS:=ZE (HS.o.fr.trans Z')
   replace HP:=hbad HP hs
   clear hs Z';go_wp2
   exact⟨rfl,by rw[HP.o];exact⟨rfl,HS.o⟩⟩
  obtain⟨v6,rfl,rfl,ZV,Z'⟩:=hp
  replace HS:=ZE (HS.o.call Z' ZV)
  replace HP:=Q1 HP hs
  clear hs ZV Z';have r1:=Z_ HS.o.con 1 _ rfl;have z1:=Z0 HS.o.con 1;have I8:w3.heap.size<w6.heap.size:=(Z8.1 HS.o.con).1
  replace HS:=ZE (HS.o.varsLit [a,b,c] (by simp))
 case' inr.inr.inr.inr.inr.inl =>
  rw[show Wn en names 9 q2=(Yf en (litP en names) q2).bind λls l=>.ok ⟨9,[],[],0,[],ls⟩ l by simp[Wn]] at HP
  go_wp2_with fail
  refine (zSw N R M en names _ _ HS.o.rd HS.o.nm Vx.o).mono ?_;intro e w4 hp;rcases hs:Yf en (litP en names) q2 with ⟨ls,qz⟩ | ⟨x,er⟩ <;> rw[hs] at hp
  rotate_left
  ·obtain⟨rfl,Z'⟩:=hp
   replace HS:=ZE (HS.o.fr.trans Z')
   replace HP:=hbad HP hs
   clear hs Z';go_wp2
   exact⟨rfl,by rw[HP.o];exact⟨rfl,HS.o⟩⟩
  obtain⟨v4,rfl,ho,ZV,Z'⟩:=hp;have HO:=ZE (Ux ho HS.o.base);obtain⟨a4,c4,hv⟩:=ZJ ho;subst hv
  replace HS:=ZE (HS.o.call Z' ZV)
  replace HP:=Q1 HP hs
  clear ho hs ZV Z';have r5:=Z_ HS.o.con 5 _ rfl;have z5:=Z0 HS.o.con 5
  replace HS:=ZE (HS.o.lits HO.o)
  clear HO
 case' inr.inr.inr.inr.inr.inr.inl =>
  rw[show Wn en names 10 q2=(X7 en names q2).bind λa l=>(litP en names l).bind λt l=>.ok ⟨10,[a],[],0,[],[t]⟩ l by simp[Wn]] at HP
  go_wp2_with fail
  refine (Lw N R M en names _ _ HS.o.rd HS.o.nm Vx.o).mono ?_;intro e w4 hp;rcases hs:X7 en names q2 with ⟨a,q3⟩ | ⟨x,er⟩ <;> rw[hs] at hp
  rotate_left
  ·obtain⟨rfl,Z'⟩:=hp
   replace HS:=ZE (HS.o.fr.trans Z')
   replace HP:=hbad HP hs
   clear hs Z';go_wp2
   exact⟨rfl,by rw[HP.o];exact⟨rfl,HS.o⟩⟩
  obtain⟨v4,rfl,rfl,ZV,Z'⟩:=hp
  replace HS:=ZE (HS.o.call Z' ZV)
  replace HP:=Q1 HP hs
  clear hs ZV Z';have r1:=Z_ HS.o.con 1 _ rfl;have z1:=Z0 HS.o.con 1;have I8:w3.heap.size<w4.heap.size:=(Z8.1 HS.o.con).1
  replace HS:=ZE (HS.o.varsLit [a] (by simp))
  go_wp2_with fail
  refine (jY N R M en names _ _ HS.o.rd HS.o.nm Vx.o).mono ?_;intro e w5 hp;rcases hs:litP en names q3 with ⟨t,qz⟩ | ⟨x,er⟩ <;> rw[hs] at hp
  rotate_left
  ·obtain⟨rfl,Z'⟩:=hp
   replace HS:=ZE (HS.o.fr.trans Z')
   replace HP:=hbad HP hs
   clear hs Z';go_wp2
   exact⟨rfl,by rw[HP.o];exact⟨rfl,HS.o⟩⟩
  obtain⟨v5,rfl,rfl,ZV,Z'⟩:=hp;unfold litA
  replace HS:=ZE (HS.o.call Z' ZV)
  replace HP:=Q1 HP hs
  clear hs ZV Z';have r5:=Z_ HS.o.con 5 _ rfl;have z5:=Z0 HS.o.con 5;have hCl5:w3.heap.size<w5.heap.size:=(Z8.1 HS.o.con).1
  replace HS:=ZE (HS.o.litLit t)
 case' inr.inr.inr.inr.inr.inr.inr.inr =>
  rw[zRF en names k q2 hk] at HP;obtain⟨k1,k2,k3,k4,k5,k6,k7,k8,k9,k10⟩:=hk;obtain⟨qz,iu⟩:∃qz,q2=qz:=⟨_,rfl⟩;rw[iu] at HP HS;clear iu
 case' inr.inr.inr.inr.inr.inr.inr.inl =>
  rw[show Wn en names 8 q2=(X7 en names q2).bind λa l=>(Yf en (X7 en names) l).bind λvs l=>.ok ⟨8,[a]++vs,[],0,[],[]⟩ l by simp[Wn]] at HP
  go_wp2_with fail
  refine (Lw N R M en names _ _ HS.o.rd HS.o.nm Vx.o).mono ?_;intro e w4 hp;rcases hs:X7 en names q2 with ⟨a,q3⟩ | ⟨x,er⟩ <;> rw[hs] at hp
  rotate_left
  ·obtain⟨rfl,Z'⟩:=hp
   replace HS:=ZE (HS.o.fr.trans Z')
   replace HP:=hbad HP hs
   clear hs Z';go_wp2
   exact⟨rfl,by rw[HP.o];exact⟨rfl,HS.o⟩⟩
  obtain⟨v4,rfl,rfl,ZV,Z'⟩:=hp
  replace HS:=ZE (HS.o.call Z' ZV)
  replace HP:=Q1 HP hs
  clear hs ZV Z';have r1:=Z_ HS.o.con 1 _ rfl;have z1:=Z0 HS.o.con 1;have I8:w3.heap.size<w4.heap.size:=(Z8.1 HS.o.con).1
  replace HS:=ZE (HS.o.varsLit [a] (by simp))
  go_wp2_with fail
  obtain⟨W,hW⟩:∃W,((w4.setCell ⟨w3.heap.size,1,none⟩ (.slice (some ⟨w4.heap.size,0,none⟩) 1 1)).alloc (.cells #[.int .i64 a] 3))=W:=⟨_,rfl⟩
  replace HS:=ZE HS.o
  have Xd:=HS.o;simp only[VH,T9,Xe,Tw,Zn] at Xd;rw[hW] at Xd ⊢;have c1:W.cell? ⟨w3.heap.size,1,none⟩=some (.slice (some ⟨w4.heap.size,0,none⟩) 1 1):=Z_ Xd.con 1 _ rfl;have WR:=ZE (Xd.below (Z6 _ _).drew);have Wy:=yF N R M en names W.drew q3 WR.o.rd WR.o.nm Vx.o;have N2:=ZE Xd.rd.len;clear hW r1 z1 HS Xd;rcases hs:Yf en (X7 en names) q3 with ⟨vs,qz⟩ | ⟨x,er⟩ <;> rw[hs] at Wy
  rotate_left
  ·replace HP:=hbad HP hs
   clear hs;refine wp_region_held_drew (S:=λw'=>w'=W.drew) (by kernel_rfl) rfl (λS6=>?_)
   refine wpAnyH_take (i:=0) (v:=?v0) rfl (by kernel_rfl) (by kernel_rfl) (by kernel_rfl) (λ_ _ _ h=>h) (Or.inl ⟨by rfl,?y0⟩) rfl ?r0
   case y0=>intro wq WA;subst WA;go_simp;with_reducible rfl
   refine wpAnyH_take (i:=1) (v:=?v1) rfl (by kernel_rfl) (by kernel_rfl) (by kernel_rfl) (λ_ _ _ h=>h) (Or.inl ⟨by rfl,?y1⟩) rfl ?r1
   case y1=>intro wq WA;subst WA;go_simp;with_reducible rfl
   refine wpAnyH_take (i:=2) (v:=?v2) rfl (by kernel_rfl) (by kernel_rfl) (by kernel_rfl) (λ_ _ _ h=>h) (Or.inl ⟨by rfl,?y2⟩) rfl ?r2
   case y2=>intro wq WA;subst WA;go_simp;with_reducible rfl
   refine wpAnyH_ready (rs:=[3]) (by kernel_rfl) (by simp) ?_
   refine AllReadyH.cons rfl (λK hK=>?_) AllReadyH.nil
   clear hK;go_simp
   refine Wy.mono ?_;rintro e w5 ⟨rfl,Z'⟩;have ZR:=WR.o.fr.trans Z';clear Wy Z';go_wp2
   exact⟨rfl,by rw[HP.o];exact⟨rfl,ZR⟩⟩
  have Hh:Hid (vs.length<=4000):=by have h1:=zTL (Gj en names) hs;have h2:=N2.o;show _<=_;omega
  replace HP:=Q1 HP hs
  clear hs N2;obtain⟨vn,Vo⟩:∃vn,[a]++vs=vn:=⟨_,rfl⟩;have Bj:=ZE Vo;rw[Vo] at HP;clear Vo;go_region_law
   (first
     | (rw[if_pos (by rfl)];refine iv _ _ rfl w.heap.size _ [a] rfl HT.own.1 _ vs rfl _ ho5 ?_ ?_ ?_;(have:=Hh.o;simp;omega);exact HT.base;intro v6 w6 YS UM;have HU:=HT.append8 YS UM;rw[Bj.o] at YS HU;have d1:=Z_ HU.2 1 _ rfl;have z1:=Z0 HU.2 1;obtain⟨a6,b6,Cc⟩:=ZJ YS;subst Cc)
     | (rw[if_pos (by rfl)];go_simp;go_at_call 264;refine Wy.mono ?_;rintro e w5 ⟨v5,rfl,⟨ho5,_⟩,Bi,Bh⟩;have HT:=WR.o.call Bh Bi;have c5:=Z_ HT.con 1 _ rfl;obtain⟨a5,d5,hv5⟩:=ZJ ho5;subst hv5;dsimp only))
  all_goals
   have HS:=ZE HU.1;clear HT HU UM d1 z1 YS Wy c5 ho5 WR Hh Bi Bh c1 Bj
 all_goals
  replace HP:=hend HP rfl
  go_wp2_with fail
  refine (TF N R M en YV J1 _ qz HS.o.rd).mono ?_;intro e w9 hp;rcases hs:Zv en YV qz with ⟨t9,q9⟩ | ⟨x,er⟩ <;> rw[hs] at hp
  rotate_left
  ·obtain⟨rfl,Z'⟩:=hp
   replace HS:=ZE (HS.o.fr.trans Z')
   replace HP:=rC HP hs
   clear hs Z';go_wp2
   exact⟨rfl,by rw[HP.o];exact⟨rfl,HS.o⟩⟩
  obtain⟨v,rfl,rfl,ZV,Z'⟩:=hp;have HT:=ZE (HS.o.call Z' ZV)
  replace HP:=hend HP hs
  clear HS hs ZV Z';have a0:=Z_ HT.o.con 0 _ rfl;have b0:=Z_ HT.o.res 0 _ rfl;have z0:=Z0 HT.o.res 0;have a1:=Z_ HT.o.con 1 _ rfl;have b1:=Z_ HT.o.res 1 _ rfl;have z1:=Z0 HT.o.res 1;have a2:=Z_ HT.o.con 2 _ rfl;have b2:=Z_ HT.o.res 2 _ rfl;have z2:=Z0 HT.o.res 2;have a3:=Z_ HT.o.con 3 _ rfl;have b3:=Z_ HT.o.res 3 _ rfl;have z3:=Z0 HT.o.res 3;have a4:=Z_ HT.o.con 4 _ rfl;have b4:=Z_ HT.o.res 4 _ rfl;have z4:=Z0 HT.o.res 4;have a5:=Z_ HT.o.con 5 _ rfl;have b5:=Z_ HT.o.res 5 _ rfl;have z5:=Z0 HT.o.res 5;go_wp2
  refine bodyPost_ret (by simp[results,results222,go_sem, *];try rfl) rfl ?_
  rw[HP.o];obtain⟨e1,e2,e3⟩:=HT.o.endd _ _ _ _ _ _ _ rfl;exact⟨_,rfl,⟨_,_,_,_,rfl,e1⟩,e2,e3⟩
def varC (v:MVar):List Value:=[.string v.name,.int .i64 v.lo,.int .i64 v.hi]
def conC (vv vc vr vl:Value) (c:MCon):List Value:=[.int .i64 c.kind,vv,vc,.int .i64 c.n,vr,vl]
theorem Mo {w:World} {b1 b2 n1 n2 s1 s2:Nat} {e1 e2:TypeId} {x v:Value} {xs vs:List Value} (h:w.ownsRow b1 e1 s1 x n1 xs) (k:w.ownsRow b2 e2 s2 v n2 vs) (he:e1≠e2):x.ownBlock=none∨x.ownBlock≠v.ownBlock:=by
 rcases h.2 with ⟨rfl,_⟩ | ⟨g,cap,cur,rfl,_,hg,_⟩
 ·exact .inl rfl
 refine .inr λe=>?_
 rcases k.2 with ⟨rfl,_⟩ | ⟨g',cap',cur',rfl,_,R8,_⟩
 ·cases e
 have:g=g':=Zl e;subst this;rw[hg] at R8
 injection R8 with h2
 injection h2 with _ h3
 exact he h3
section
variable {B:Nat} {w w':World}
theorem LSr.kept {b2 n s:Nat} {e:TypeId} {v x:Value} {xs:List Value} {acc:List (List Int)} {o:Obj} (h:LSr B B w x acc) (k:w.ownsRow b2 e s v n xs) (PS:3≠e) (V3:42≠e) (hg:(w.alloc o).grownBy w' v.ownBlock):LSr B B w' x acc:=by
 obtain⟨cells,h1,h2⟩:=h;refine⟨cells,(h1.alloc _).kept hg (Mo h1 k V3),λi r hr=>?_⟩
 obtain⟨y,hy,ho⟩:=h2 i r hr;exact⟨y,hy,(ho.alloc _).kept hg (Mo ho k PS)⟩
theorem ConR.kept {b2 n s:Nat} {e:TypeId} {v:Value} {xs:List Value} {vv vc vr vl:Value} {c:MCon} {o:Obj} (h:ConR B w vv vc vr vl c) (k:w.ownsRow b2 e s v n xs) (PS:3≠e) (V3:42≠e) (CQ:76≠e) (hg:(w.alloc o).grownBy w' v.ownBlock):ConR B w' vv vc vr vl c :=
 ⟨(h.1.alloc _).kept hg (Mo h.1 k PS),(h.2.1.alloc _).kept hg (Mo h.2.1 k PS),h.2.2.1.kept k PS V3 hg,(h.2.2.2.alloc _).kept hg (Mo h.2.2.2 k CQ)⟩
end
def LCr (B:Nat) (w:World) (v:Value) (acc:List MCon):Prop :=
 ∃cells,w.ownsRow B 69 6 v acc.length cells/\∀(i:Nat) (c:MCon),acc[i]? = some c->∃vv vc vr vl,(∀j,j<6->cells[i * 6+j]? = (conC vv vc vr vl c)[j]?)/\ConR B w vv vc vr vl c
theorem LCr.none (B:Nat) (w:World):LCr B w (.slice Option.none 0 0) []:=⟨[],ZH _ _ _ _,λi r h=>by simp at h⟩
theorem LCr.form {B:Nat} {w:World} {v:Value} {acc:List MCon} (h:LCr B w v acc):∃a c,v=.slice a acc.length c:=by
 obtain⟨cells,h1,_⟩:=h;exact ZJ h1
theorem LCr.fr {X:Nat->Prop} {B:Nat} {w w':World} {v:Value} {acc:List MCon} (h:LCr B w v acc) (hf:Fr X w w') (hX:∀k,X k->k<B):LCr B w' v acc:=by
 obtain⟨cells,h1,h2⟩:=h;refine⟨cells,TE h1 hf hX,λi r hr=>?_⟩
 obtain⟨vv,vc,vr,vl,hc,ho⟩:=h2 i r hr;exact⟨vv,vc,vr,vl,hc,ho.fr hf hX⟩
theorem ConR.set2 {B:Nat} {w:World} {vv vc vr vl:Value} {c:MCon} {t:TypeId} (h:ConR B w vv vc vr vl c) {C:Nat} {cs:Array Value} (hC:w.heap[C]? = some (.cells cs t)) (h1:t≠3) (h2:t≠42) (h3:t≠76) (i:Nat) (u:Value):ConR B (w.setCell ⟨C,i,Option.none⟩ u) vv vc vr vl c :=
 ⟨V_ h.1 hC h1 i u,V_ h.2.1 hC h1 i u,h.2.2.1.set hC h1 h2 i u,V_ h.2.2.2 hC h3 i u⟩
theorem LCr.set {B:Nat} {w:World} {v:Value} {acc:List MCon} (h:LCr B w v acc) {C:Nat} {cs:Array Value} (hC:w.heap[C]? = some (.cells cs 25)) (i:Nat) (u:Value):LCr B (w.setCell ⟨C,i,Option.none⟩ u) v acc:=by
 obtain⟨cells,h1,h2⟩:=h;refine⟨cells,V_ h1 hC (by decide) i u,λj r hr=>?_⟩
 obtain⟨vv,vc,vr,vl,hc,ho⟩:=h2 j r hr;exact⟨vv,vc,vr,vl,hc,ho.set2 hC (by decide) (by decide) (by decide) i u⟩
theorem LCr.push {B:Nat} {w w':World} {v v' vv vc vr vl:Value} {c:MCon} {acc:List MCon} {cells:List Value} {o:Obj} (h:w.ownsRow B 69 6 v acc.length cells)
 (hc:∀(i:Nat) (c:MCon),acc[i]? = some c->∃vv vc vr vl,(∀j,j<6->cells[i * 6+j]? = (conC vv vc vr vl c)[j]?)/\ConR B w vv vc vr vl c) (hx:ConR B w vv vc vr vl c)
 (h':w'.ownsRow B 69 6 v' (acc.length+1) (cells++conC vv vc vr vl c)) (hg:(w.alloc o).grownBy w' v.ownBlock):LCr B w' v' (acc++[c]):=by
 have Zr:cells.length=acc.length * 6:=h.1;refine⟨cells++conC vv vc vr vl c,by rw[ZC];exact h',λi r hr=>?_⟩
 by_cases hi:i<acc.length
 ·rw[V8 hi] at hr
  obtain⟨x1,x2,x3,x4,hy,ho⟩:=hc i r hr;exact⟨x1,x2,x3,x4,λj hj=>by rw[V8 (by omega)];exact hy j hj,ho.kept h (by decide) (by decide) (by decide) hg⟩
 rw[V9 (by omega)] at hr
 have WJ:i - acc.length=0:=by
  have:=(ZN.1 hr).1;simp at this;omega
 rw[WJ] at hr;cases hr
 refine⟨vv,vc,vr,vl,λj hj=>?_,hx.kept h (by decide) (by decide) (by decide) hg⟩
 rw[V9 (by omega),show i * 6+j - cells.length=j by omega]
structure ModSt (N R M:Nat) (en:Int) (w0 w:World) (q:List Tok) (names:List ByteArray) (vs cs:Value) (vars:List MVar) (cons:List MCon):Prop where
 rd:Rd N R M en w q
 fr:Fr (XRM R M) w0 w
 nm:NmS w M names
 res:w.heap[w0.heap.size]? = some (.cells #[.slice none 0 0,.slice none 0 0,.int .i64 0,.int .i64 0] 25)
 mod:w.heap[w0.heap.size+1]? = some (.cells #[vs,cs,.int .i64 0,.int .i64 0] 25)
 Rw:R<w0.heap.size
 Nw:N<=w0.heap.size
 Mw:M<w0.heap.size
 NM:N<=M
 vown:w.ownsRow w0.heap.size 67 3 vs vars.length (vars.flatMap varC)
 cown:LCr w0.heap.size w cs cons
section
variable {N R M:Nat} {en:Int} {names names':List ByteArray} {w0:World} {w w':World} {q q':List Tok} {vs cs v':Value} {vars:List MVar} {cons:List MCon}
theorem ModSt.xlt (h:ModSt N R M en w0 w q names vs cs vars cons):∀k,XRM R M k->k<w0.heap.size:=λk hk=>by
 have h1:=h.Rw;have h2:=h.Mw;rcases hk with rfl | rfl <;> omega
theorem ModSt.call (h:ModSt N R M en w0 w q names vs cs vars cons) (hf:Fr (XRM R M) w w') (ZV:Rd N R M en w' q') (Tq:NmS w' M names'):ModSt N R M en w0 w' q' names' vs cs vars cons where
 rd:=ZV
 fr:=h.fr.trans hf
 nm:=Tq
 res:=(hf.block _ (Z8.1 h.res).1 (λhx=>by have:=h.xlt _ hx;omega)).trans h.res
 mod:=(hf.block _ (Z8.1 h.mod).1 (λhx=>by have:=h.xlt _ hx;omega)).trans h.mod
 Rw:=h.Rw
 Nw:=h.Nw
 Mw:=h.Mw
 NM:=h.NM
 vown:=TE h.vown hf h.xlt
 cown:=h.cown.fr hf h.xlt
theorem ModSt.callR (h:ModSt N R M en w0 w q names vs cs vars cons) (hf:Fr (λk=>k=R) w w') (ZV:Rd N R M en w' q'):ModSt N R M en w0 w' q' names vs cs vars cons :=
 h.call hf.toRM ZV (h.nm.old (hf.block M h.nm.lt ZV.1.2.2))
theorem ModSt.below (h:ModSt N R M en w0 w q names vs cs vars cons) (hb:Bw w w'):ModSt N R M en w0 w' q names vs cs vars cons:=h.callR (Fr.below hb) (h.rd.below hb)
theorem ModSt.base (h:ModSt N R M en w0 w q names vs cs vars cons):w0.heap.size<=w.heap.size:=h.fr.size
theorem ir {α:Type} (f:α->List Value) (l:List α) (x:α):(l++[x]).flatMap f=l.flatMap f++f x:=by simp
theorem ModSt.grown (h:ModSt N R M en w0 w q names vs cs vars cons) {v:Value} {n s:Nat} {e:TypeId} {xs:List Value} {o:Obj} (hv:w.ownsRow w0.heap.size e s v n xs) (he:25≠e) (hg:(w.alloc o).grownBy w' v.ownBlock) (i:Nat) (vs2 cs2:Value) (vars2:List MVar) (cons2:List MCon)
 (Wx:(#[vs,cs,.int .i64 0,.int .i64 0]:Array Value).setIfInBounds i v'=#[vs2,cs2,.int .i64 0,.int .i64 0])
 (vF:w'.ownsRow w0.heap.size 67 3 vs2 vars2.length (vars2.flatMap varC)) (Hd:LCr w0.heap.size w' cs2 cons2) :
 w'.heap[w0.heap.size+1]? = some (.cells #[vs,cs,.int .i64 0,.int .i64 0] 25)/\ModSt N R M en w0 (w'.setCell ⟨w0.heap.size+1,i,none⟩ v') q names vs2 cs2 vars2 cons2:=by
 have Z7:∀g,v.ownBlock=some g->w0.heap.size<=g/\g<w.heap.size:=hv.lt;have zy:∀(C:Nat) (cs:Array Value),w.heap[C]? = some (.cells cs 25)->some C≠v.ownBlock:=by
  intro C cs hC e1;rcases hv.2 with ⟨rfl,_⟩ | ⟨g,cap,cur,rfl,_,hh,_⟩
  ·cases e1
  have:C=g:=Zl e1;subst this;rw[hh] at hC
  injection hC with h2
  injection h2 with _ h3
  exact he h3.symm
 have YM:∀k,k<w0.heap.size->some k≠v.ownBlock:=λk hk e1=>by have:=(Z7 k e1.symm).1;omega
 have Mn:∀k,k<w.heap.size->some k≠v.ownBlock->w'.heap[k]? = w.heap[k]? := λk hk ZP=>(hg.block k (by simp;omega) ZP).trans ((Z4 w o).block k hk)
 have rB:=(Mn _ (Z8.1 h.res).1 (zy _ _ h.res)).trans h.res;have JX:=(Mn _ (Z8.1 h.mod).1 (zy _ _ h.mod)).trans h.mod;have Ow:=h.Rw;have Ed:=h.Mw;have J':=h.Nw;have Y':=h.base;refine⟨JX,?_⟩;exact {
  rd:=((h.rd.below (Z4 w o)).grown hg (λk hk=>by have:=(Z7 k hk).1;omega)).set (p:=⟨w0.heap.size+1,i,none⟩) (by show w0.heap.size+1≠R;omega) (by show N<=w0.heap.size+1;omega) _
  fr:=((h.fr.alloc o).grown hg (λk hk=>Or.inr (Z7 k hk).1)).setNew (p:=⟨w0.heap.size+1,i,none⟩) (by show w0.heap.size<=w0.heap.size+1;omega) _
  nm:=(h.nm.old (Mn M h.nm.lt (YM M h.Mw))).old (Below.heap_setCell _ _ _ _ (by show M≠w0.heap.size+1;omega))
  res:=(Below.heap_setCell _ _ _ _ (by show w0.heap.size≠w0.heap.size+1;omega)).trans rB
  mod:=by rw[heap_setCell_same w' (w0.heap.size+1) i _ _ _ JX,Wx]
  Rw:=h.Rw
  Nw:=h.Nw
  Mw:=h.Mw
  NM:=h.NM
  vown:=V_ vF JX (by decide) i v'
  cown:=Hd.set JX i v' }
theorem ModSt.pushVar (h:ModSt N R M en w0 w q names vs (.slice none 0 0) vars []) (x:MVar) {o:Obj} (hg:(w.alloc o).grownBy w' vs.ownBlock)
 (ho:w'.ownsRow w0.heap.size 67 3 v' (vars.length+1) (vars.flatMap varC++varC x)) :
 w'.heap[w0.heap.size+1]? = some (.cells #[vs,.slice none 0 0,.int .i64 0,.int .i64 0] 25)/\ModSt N R M en w0 (w'.setCell ⟨w0.heap.size+1,0,none⟩ v') q names v' (.slice none 0 0) (vars++[x]) [] :=
 h.grown h.vown (by decide) hg 0 v' (.slice none 0 0) (vars++[x]) [] rfl (by rw[ir,ZC];exact ho) (LCr.none _ _)
theorem ModSt.pushCon (h:ModSt N R M en w0 w q names vs cs vars cons) {vv vc vr vl:Value} {c:MCon} (hc:ConR w0.heap.size w vv vc vr vl c) {cells:List Value} (hw:w.ownsRow w0.heap.size 69 6 cs cons.length cells)
 (FR:∀(i:Nat) (c:MCon),cons[i]? = some c->∃vv vc vr vl,(∀j,j<6->cells[i * 6+j]? = (conC vv vc vr vl c)[j]?)/\ConR w0.heap.size w vv vc vr vl c) {o:Obj} (hg:(w.alloc o).grownBy w' cs.ownBlock)
 (ho:w'.ownsRow w0.heap.size 69 6 v' (cons.length+1) (cells++conC vv vc vr vl c)) :
 w'.heap[w0.heap.size+1]? = some (.cells #[vs,cs,.int .i64 0,.int .i64 0] 25)/\ModSt N R M en w0 (w'.setCell ⟨w0.heap.size+1,1,none⟩ v') q names vs v' vars (cons++[c]) :=
 h.grown hw (by decide) hg 1 vs v' vars (cons++[c]) rfl ((h.vown.alloc _).kept hg (Mo h.vown hw (by decide))) (LCr.push hw FR hc ho hg)
end
theorem zOt {s:ByteArray} (h:s.data.toList=[]):s=ByteArray.empty:=by
 cases s with
 | mk d =>
   have:d=#[]:=by simpa using h
   rw[this];rfl
theorem zTM {en:Int} {l r:List Tok} {x:MVar} (h:PX en l=.ok x r):x.name.data.toList≠[]:=by
 unfold PX at h;obtain⟨_,q1,_,h2⟩:=PR.bind_ok h;obtain⟨n,q2,h3,h4⟩:=PR.bind_ok h2;obtain⟨_,_,_,h5⟩:=PR.bind_ok h4;obtain⟨_,_,_,h6⟩:=PR.bind_ok h5;obtain⟨_,_,_,h7⟩:=PR.bind_ok h6;obtain⟨_,_,_,h8⟩:=PR.bind_ok h7;obtain⟨_,_,_,h9⟩:=PR.bind_ok h8;cases h9
 unfold OA at h3;obtain⟨t,q,Up,h11⟩:=PR.bind_ok h3;cases h11
 unfold WU at Up
 split at Up
 ·rename_i hb
  cases Up
  intro he;have V3:(ZL en q1).text.data.toList=[]:=he;rw[zOt V3,kj] at hb;cases hb
 cases Up
theorem zNL (en:Int):Eats (OA en):=kt en (λl=>Pf (ZL en l).text) (λt _=>t.text)
theorem zRG {en:Int} {l r:List Tok} {x:MVar} (h:PX en l=.ok x r):r.length+1<=l.length:=by
 unfold PX at h;obtain⟨_,q1,e1,h2⟩:=PR.bind_ok h;obtain⟨n,q2,e2,h4⟩:=PR.bind_ok h2;obtain⟨_,q3,e3,h5⟩:=PR.bind_ok h4;obtain⟨_,q4,e4,h6⟩:=PR.bind_ok h5;obtain⟨_,q5,e5,h7⟩:=PR.bind_ok h6;obtain⟨_,q6,e6,h8⟩:=PR.bind_ok h7;obtain⟨_,q7,e7,h9⟩:=PR.bind_ok h8;cases h9
 have f1:=Ox rL e1;have f2:=zNL en _ _ _ e2;have f3:=Ox rK e3;have f4:=NR en _ _ _ e4;have f5:=Ox rJ e5;have f6:=NR en _ _ _ e6;have f7:=Ox J1 e7;omega
theorem Q0 {α β:Type} {p:List Tok->PR α} {f:α->List Tok->PR β} (hp:Eats p) (hf:∀a,Eats (f a)):Eats λl=>(p l).bind f:=by
 intro l x r h;obtain⟨a,q,h1,h2⟩:=PR.bind_ok h;have e1:=hp l a q h1;have e2:=hf a q x r h2;omega
theorem JW {α:Type} (a:α):Eats λl=>.ok a l:=by
 intro l x r h;cases h
 exact Z2 _
theorem zTN (en:Int) (names:List ByteArray) (k:Int):Eats (Wn en names k):=by
 have en1:=Lx en _ (NR en);have en2:=Lx en _ (Gj en names);have en3:=NR en;have en4:=Gj en names;unfold Wn;intro l
 split
 ·exact Q0 en1 (λcs=>Q0 en2 λvs=>Q0 en3 λn=>JW _) l
 split
 ·exact Q0 en2 (λvs=>JW _) l
 split
 ·exact Q0 en1 (λcs=>Q0 en4 λa=>Q0 en4 λb=>JW _) l
 split
 ·exact Q0 en2 (λcs=>Q0 (Lx en _ en1) λa=>JW _) l
 split
 ·exact Q0 en4 (λcs=>Q0 en4 λa=>Q0 en4 λb=>JW _) l
 split
 ·exact Q0 en4 (λcs=>Q0 en2 λa=>JW _) l
 split
 ·exact Q0 (Lx en _ (B0 en names)) (λcs=>JW _) l
 split
 ·exact Q0 en4 (λcs=>Q0 (B0 en names) λa=>JW _) l
 exact JW _ l
theorem zWY {en:Int} {names:List ByteArray} {l r:List Tok} {x:MCon} (h:conP en names l=.ok x r):r.length+1<=l.length:=by
 unfold conP at h;obtain⟨_,q1,e1,h2⟩:=PR.bind_ok h;obtain⟨n,q2,e2,h4⟩:=PR.bind_ok h2;obtain⟨_,q3,e3,h5⟩:=PR.bind_ok h4;obtain⟨_,q4,e4,h6⟩:=PR.bind_ok h5;cases h6
 have f1:=Ox rI e1;have f2:=sL en _ _ _ _ e2;have f3:=zTN en names _ _ _ _ e3;have f4:=Ox J1 e4;omega
theorem iq:(prog.info? 67).map (λi=>(i.zero,i.size,i.bytes))=some (some (.agg #[.string ⟨#[]⟩,.int .i64 0,.int .i64 0]),3,32):=by kernel_rfl
theorem ip:prog.underlying 22=some (.slice 67):=by kernel_rfl
theorem io:(prog.info? 69).map (λi=>(i.zero,i.size,i.bytes))=some (some (.agg #[.int .i64 0,.slice none 0 0,.slice none 0 0,.int .i64 0,.slice none 0 0,.slice none 0 0]),6,112):=by kernel_rfl
theorem im:prog.underlying 23=some (.slice 69):=by kernel_rfl
theorem il (w:World) (z:MVar):∀(j:Nat) (u:Value),(varC z)[j]? = some u->(w.alloc (.cells #[.string z.name,.int .i64 z.lo,.int .i64 z.hi] 67)).cell? ((⟨w.heap.size,0,none⟩:Addr).add j)=some u:=by
 intro j u hj
 match j,hj with
 | 0,hj=>simp[varC] at hj;subst hj;simp[Addr.add]
 | 1,hj=>simp[varC] at hj;subst hj;simp[Addr.add]
 | 2,hj=>simp[varC] at hj;subst hj;simp[Addr.add]
theorem ik (w:World) (vv vc vr vl:Value) (z:MCon):∀(j:Nat) (u:Value),(conC vv vc vr vl z)[j]? = some u->(w.alloc (.cells #[.int .i64 z.kind,vv,vc,.int .i64 z.n,vr,vl] 69)).cell? ((⟨w.heap.size,0,none⟩:Addr).add j)=some u:=by
 intro j u hj
 match j,hj with
 | 0,hj=>simp[conC] at hj;subst hj;simp[Addr.add]
 | 1,hj=>simp[conC] at hj;subst hj;simp[Addr.add]
 | 2,hj=>simp[conC] at hj;subst hj;simp[Addr.add]
 | 3,hj=>simp[conC] at hj;subst hj;simp[Addr.add]
 | 4,hj=>simp[conC] at hj;subst hj;simp[Addr.add]
 | 5,hj=>simp[conC] at hj;subst hj;simp[Addr.add]
end Go.Proofs.YtndcpnlaadikoaaGreatDoor
