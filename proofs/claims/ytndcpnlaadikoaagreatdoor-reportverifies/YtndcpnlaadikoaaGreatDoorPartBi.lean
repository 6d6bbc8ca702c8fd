/- What the proof leans on, part 35. -/
import Derived.Test.YtndcpnlaadikoaaGreatDoorPartBh
set_option maxRecDepth 100000
set_option maxHeartbeats 3200000
open Go.Proofs.Tryz
namespace Go.Proofs.YtndcpnlaadikoaaGreatDoor
open Go.RowKit
theorem yAQ:(prog.info? 139).map (λi=>(i.zero,i.size,i.bytes))=some (some (.slice none 0 0),1,24):=by kernel_rfl
theorem yAn:prog.underlying 138=some (.slice 139):=by kernel_rfl
theorem zU6 (w:World) (n base:Nat) (hn:n<=1000) (hb:base<=w.heap.size):(w.alloc (.cells (madeCells #[.slice none 0 0] n) 139)).ownsRow base 139 1 (.slice (some ⟨w.heap.size,0,none⟩) n n) n (List.replicate n (.slice none 0 0)):=by
 refine⟨by simp,Or.inr ⟨w.heap.size,n,_,rfl,hb,heap_alloc_new w _,Z2 _,by unfold maxLen;omega,?_,?_⟩⟩
 ·have h:=congrArg List.length (toList_madeCells_one (.slice none 0 0) n)
  simp at h;simpa using h
 rw[toList_madeCells_one];simp
def Ms (B n:Nat) (cells:List Value) (l:List (List Nat)) (k:Nat) (w:World):Prop :=
 w.ownsRow B 139 1 (.slice (some ⟨B,0,none⟩) n n) n cells/\∀j r,j<k->l[j]? = some r->∃x,cells[j]? = some x/\w.ownsRow (B+1) 136 1 x r.length (u64s r)
theorem Ms.below {B n k:Nat} {cells:List Value} {l:List (List Nat)} {w w':World} (h:Ms B n cells l k w) (hb:Bw w w'):Ms B n cells l k w':=by
 refine⟨YZ h.1 hb,λj r hj hr=>?_⟩
 obtain⟨x,h1,h2⟩:=h.2 j r hj hr;exact⟨x,h1,YZ h2 hb⟩
theorem Ms.put {B n k:Nat} {cells:List Value} {l:List (List Nat)} {w:World} {x:Value} {r:List Nat} (h:Ms B n cells l k w) (hk:k<n) (hr:l[k]? = some r) (hx:w.ownsRow (B+1) 136 1 x r.length (u64s r)):Ms B n (cells.set k x) l (k+1) (w.setCell ⟨B,k,none⟩ x):=by
 have Zr:cells.length=n:=by have:=h.1.1;omega
 have keep:∀{y:Value} {q:List Nat},w.ownsRow (B+1) 136 1 y q.length (u64s q)->(w.setCell ⟨B,k,none⟩ x).ownsRow (B+1) 136 1 y q.length (u64s q):=λhy =>
  LT hy λg hg=>Below.heap_setCell _ _ _ _ (λhe=>by have:=(hy.lt g hg).1;simp only at he;omega)
 refine⟨(h.1.stored k x).1,λj q hj hq=>?_⟩
 by_cases T1:j=k
 ·subst T1
  rw[hr] at hq;cases hq
  exact⟨x,by rw[Uu (by omega)],keep hx⟩
 obtain⟨y,h1,h2⟩:=h.2 j q (by omega) hq
 exact⟨y,by rw[WE (λh=>T1 h.symm)];exact h1,keep h2⟩
theorem Ms.arg {B n:Nat} {cells:List Value} {l:List (List Nat)} {w:World} (h:Ms B n cells l n w) (hl:l.length=n) (Z7:∀r∈l,∀z∈r,z<2 ^ 36) (hn:n<=1000):zGg w (.slice (some ⟨B,0,none⟩) n n) l:=by
 refine⟨_,n,by rw[hl],⟨by omega,by unfold maxLen;omega⟩,λi r hr=>?_⟩
 have hi:i<n:=by rw[<-hl];exact (ZN.1 hr).1
 obtain⟨x,h1,h2⟩:=h.2 i r hi hr;exact⟨B,0,x,rfl,(h.1.lt B rfl).2,by rw[Zn,h.1.cellAt i (by omega)];exact h1,EQ h2 (Z7 r (Zz hr))⟩
theorem zU7 (m:Mod) (hm:Zs m=0) (given:List Cla) (UM:given.length<=600) (vs cs u:Value) (w:World) (Y8:MArg w vs cs m) (hu:WQ w u given) (hT:TabT w) :
 Calls prog 77 #[modV vs cs m,u] w λe w'=>∃N bm bp ba pv,e=.returned (.func (.func 139) #[] #[.pointer (some ⟨bm,0,none⟩),.pointer (some ⟨bp,0,none⟩),.pointer (some ⟨ba,0,none⟩)]) /\
  PT N bm bp ba m vs cs pv (given.map (zAH m.vars)) w'/\w.heap.size<=N/\Bw w w':=by
 have Y3:Hid (∀w',Bw w w'->MArg w' vs cs m):=λw' h=>MArg.below h Y8
 have HU:Hid (∀w',Bw w w'->WQ w' u given):=λw' h=>WQ.below h hu
 have HT:Hid (∀w',Bw w w'->TabT w'):=λw' h=>hT.below h
 have HM:=hI hm;have hc8:m.cons.length<=8:=(RH m hm).2.2.1;have Jh:=run_make_row' (P:=prog) 138 139 (.slice none 0 0) 24 yAn yAQ rfl .i64 .i64 m.cons.length (by omega) (by omega)
 obtain⟨⟨a1,c1,rfl,_,_⟩,⟨a2,c2,rfl,Wk,_⟩⟩:=Y8;unfold maxLen at Wk;obtain⟨Qi,Wk⟩:=Wk;obtain⟨a3,c3,rfl,_,_⟩:=hu;unfold modV;clear hm hT;go_enter func77,ntmps77
 go_wp2_with fail
 clear Jh;have Zt:Hid (Bw w (((w.alloc (.cells #[.slice a1 m.vars.length c1,.slice a2 m.cons.length c2,.int .i64 m.goal,.int .i64 m.var] 25)).alloc (.cells (madeCells #[.slice none 0 0] m.cons.length) 139)).alloc (.cells #[.slice (some ⟨w.heap.size+1,0,none⟩) m.cons.length m.cons.length] 138))):=((Z4 _ _).alloc (by simp) _).alloc (by simp;omega) _
 have HQ:Hid ((((w.alloc (.cells #[.slice a1 m.vars.length c1,.slice a2 m.cons.length c2,.int .i64 m.goal,.int .i64 m.var] 25)).alloc (.cells (madeCells #[.slice none 0 0] m.cons.length) 139)).alloc (.cells #[.slice (some ⟨w.heap.size+1,0,none⟩) m.cons.length m.cons.length] 138)).cell? ⟨w.heap.size,0,none⟩=some (.slice a1 m.vars.length c1)/\(((w.alloc (.cells #[.slice a1 m.vars.length c1,.slice a2 m.cons.length c2,.int .i64 m.goal,.int .i64 m.var] 25)).alloc (.cells (madeCells #[.slice none 0 0] m.cons.length) 139)).alloc (.cells #[.slice (some ⟨w.heap.size+1,0,none⟩) m.cons.length m.cons.length] 138)).cell? ⟨w.heap.size,1,none⟩=some (.slice a2 m.cons.length c2)/\(((w.alloc (.cells #[.slice a1 m.vars.length c1,.slice a2 m.cons.length c2,.int .i64 m.goal,.int .i64 m.var] 25)).alloc (.cells (madeCells #[.slice none 0 0] m.cons.length) 139)).alloc (.cells #[.slice (some ⟨w.heap.size+1,0,none⟩) m.cons.length m.cons.length] 138)).cell? ⟨w.heap.size,2,none⟩=some (.int .i64 m.goal)/\(((w.alloc (.cells #[.slice a1 m.vars.length c1,.slice a2 m.cons.length c2,.int .i64 m.goal,.int .i64 m.var] 25)).alloc (.cells (madeCells #[.slice none 0 0] m.cons.length) 139)).alloc (.cells #[.slice (some ⟨w.heap.size+1,0,none⟩) m.cons.length m.cons.length] 138)).cell? ⟨w.heap.size,3,none⟩=some (.int .i64 m.var)):=by
  refine⟨?_,?_,?_,?_⟩
  all_goals rw[W7 _ _ _ (by simp;omega),W7 _ _ _ (by simp)]
  ·exact Zu _ _ _ 0 (by simp)
  ·exact Zu _ _ _ 1 (by simp)
  ·exact Zu _ _ _ 2 (by simp)
  exact Zu _ _ _ 3 (by simp)
 have i7:Hid ((((w.alloc (.cells #[.slice a1 m.vars.length c1,.slice a2 m.cons.length c2,.int .i64 m.goal,.int .i64 m.var] 25)).alloc (.cells (madeCells #[.slice none 0 0] m.cons.length) 139)).alloc (.cells #[.slice (some ⟨w.heap.size+1,0,none⟩) m.cons.length m.cons.length] 138)).cell? ⟨w.heap.size+1+1,0,none⟩=some (.slice (some ⟨w.heap.size+1,0,none⟩) m.cons.length m.cons.length)):=Zu _ _ _ 0 (by simp)
 have LY:Hid (Ms (w.heap.size+1) m.cons.length (List.replicate m.cons.length (.slice none 0 0)) (m.cons.map (XB m.vars)) 0 (((w.alloc (.cells #[.slice a1 m.vars.length c1,.slice a2 m.cons.length c2,.int .i64 m.goal,.int .i64 m.var] 25)).alloc (.cells (madeCells #[.slice none 0 0] m.cons.length) 139)).alloc (.cells #[.slice (some ⟨w.heap.size+1,0,none⟩) m.cons.length m.cons.length] 138))):=by
  refine⟨?_,λj r hj=>by omega⟩
  have h:=(zU6 (w.alloc (.cells #[.slice a1 m.vars.length c1,.slice a2 m.cons.length c2,.int .i64 m.goal,.int .i64 m.var] 25)) m.cons.length (w.heap.size+1) (by omega) (by simp)).alloc (.cells #[.slice (some ⟨w.heap.size+1,0,none⟩) m.cons.length m.cons.length] 138)
  simpa using h
 have Xd:Hid ((((w.alloc (.cells #[.slice a1 m.vars.length c1,.slice a2 m.cons.length c2,.int .i64 m.goal,.int .i64 m.var] 25)).alloc (.cells (madeCells #[.slice none 0 0] m.cons.length) 139)).alloc (.cells #[.slice (some ⟨w.heap.size+1,0,none⟩) m.cons.length m.cons.length] 138)).heap.size=w.heap.size+3):=by show _=_;simp
 obtain⟨W,hW⟩:∃W,(((w.alloc (.cells #[.slice a1 m.vars.length c1,.slice a2 m.cons.length c2,.int .i64 m.goal,.int .i64 m.var] 25)).alloc (.cells (madeCells #[.slice none 0 0] m.cons.length) 139)).alloc (.cells #[.slice (some ⟨w.heap.size+1,0,none⟩) m.cons.length m.cons.length] 138))=W:=⟨_,rfl⟩;rw[hW] at Zt HQ i7 LY Xd ⊢;clear hW;obtain⟨L,hL⟩:∃L,m.cons.map (XB m.vars)=L:=⟨_,rfl⟩;have HL:=hI hL;rw[hL] at LY;clear hL;go_loopw [15] (λi wr=>∃(k:Nat) (cells:List Value),k<=m.cons.length/\i=.int .i64 k/\Hid (Ms (w.heap.size+1) m.cons.length cells L k wr)/\Hid (Below (w.heap.size+1) W wr)/\Hid (wr.cell? ⟨w.heap.size+1+1,0,none⟩=some (.slice (some ⟨w.heap.size+1,0,none⟩) m.cons.length m.cons.length))) (λi _=>m.cons.length - (intOf i).toNat)
 case atStart=>exact⟨0,_,by omega,rfl,LY,Z6 _ _,i7⟩
 obtain⟨k,cells,hk,rfl,WM,ZW,i6⟩:=hrel;have Y7:Hid (Bw w wr):=Zt.o.trans (ZW.o.mono (by omega))
 have XF:Hid (w.heap.size+3<=wr.heap.size):=by have:=ZW.o.size;have:=Xd.o;show _<=_;omega
 obtain⟨q0,q1,q2,q3⟩:=HQ.o;have k0:=(ZW.o.cell (p:=⟨w.heap.size,0,none⟩) (by simp only;omega)).trans q0
 have k1:=(ZW.o.cell (p:=⟨w.heap.size,1,none⟩) (by simp only;omega)).trans q1
 have k2:=(ZW.o.cell (p:=⟨w.heap.size,2,none⟩) (by simp only;omega)).trans q2
 have k3:=(ZW.o.cell (p:=⟨w.heap.size,3,none⟩) (by simp only;omega)).trans q3
 have kp:=i6.o;clear q0 q1 q2 q3;by_cases Z7:k<m.cons.length
 ·obtain⟨c,hc⟩:∃c,m.cons[k]? = some c:=⟨m.cons[k],by simp[Z7]⟩
  have N4:Hid (L[k]? = some (XB m.vars c)):=by show _=_;rw[<-HL.o,YN,hc];rfl
  have zq:Hid (∀Y,Bw wr Y->Calls prog 120 #[.agg #[.slice a1 m.vars.length c1,.slice a2 m.cons.length c2,.int .i64 m.goal,.int .i64 m.var],.int .i64 (k:Int)] Y λe w'=>∃x,e=.returned x/\w'.ownsRow Y.heap.size 136 1 x (XB m.vars c).length (u64s (XB m.vars c))/\Bw Y w'):=λY hY =>
   nG m k c _ _ Y HM.o hc (Y3.o _ (Y7.o.trans (hY.mono Y7.o.size)))
  have Ra:Hid (cells.length=m.cons.length):=by have:=WM.o.1.1;show _=_;omega
  obtain⟨y,hy⟩:∃y,cells[k]? = some y:=⟨cells[k]'(by rw[Ra.o];exact Z7),by simp⟩
  have HY:=hI hy;have lr:w.heap.size<wr.heap.size:=by have:=XF.o;omega
  clear hc hy;go_wp2_with fail
  go_region_law
   (rw[if_pos (by rfl)];go_simp;go_at_call 120;refine (zq.o _ (Z6 _ _).drew).mono ?_;rintro e w3 ⟨x,rfl,hx,ZG⟩;obtain⟨ax,cx,rfl⟩:=ZJ hx;have hB3:Bw wr w3:=(Z6 _ _).drew.trans ZG;have s0:=(hB3.cell (p:=⟨w.heap.size+1+1,0,none⟩) (by have:=XF.o;simp only;omega)).trans kp;have Ys:=WM.o.below hB3;have cB:w3.cell? ⟨w.heap.size+1,k,none⟩=some y:=(Ys.1.cellAt k (by omega)).trans HY.o;have zB:=Ys.1.frozenAt k;have lB:w.heap.size+1<w3.heap.size:=(Ys.1.lt (w.heap.size+1) rfl).2;dsimp only)
  all_goals
   have SA:Hid (Ms (w.heap.size+1) m.cons.length (cells.set k (.slice ax (XB m.vars c).length cx)) L (k+1) (w3.setCell ⟨w.heap.size+1,k,none⟩ (.slice ax (XB m.vars c).length cx))):=Ys.put Z7 N4.o (World.ownsRow.mono hx (by show w.heap.size+1+1<=wr.heap.size;have:=XF.o;omega))
   have N1:Hid (Below (w.heap.size+1) W (w3.setCell ⟨w.heap.size+1,k,none⟩ (.slice ax (XB m.vars c).length cx))):=(ZW.o.trans (hB3.mono (by have:=XF.o;omega))).setCell (show w.heap.size+1<=w.heap.size+1 from Z2 _) _
   have QK:Hid ((w3.setCell ⟨w.heap.size+1,k,none⟩ (.slice ax (XB m.vars c).length cx)).cell? ⟨w.heap.size+1+1,0,none⟩=some (.slice (some ⟨w.heap.size+1,0,none⟩) m.cons.length m.cons.length)):=(WD (Below.heap_setCell _ _ _ _ (λh=>by simp only at h;omega))).trans s0
   clear hx ZG hB3 s0 Ys k0 k1 k2 k3 kp;go_wp2
   go_roundw
   case rel=>exact⟨k+1,_,by omega,by go_num,SA,N1,QK⟩
   case measure=>simp[intOf];omega
 have Xa:k=m.cons.length:=by omega
 subst Xa;have ym:Hid (zGg wr (.slice (some ⟨w.heap.size+1,0,none⟩) m.cons.length m.cons.length) L):=WM.o.arg (by rw[<-HL.o,YU]) (by
  rw[<-HL.o];intro r hr;obtain⟨c,QU,rfl⟩:=Zj.1 hr;obtain⟨j,hj⟩:=Wm.1 QU;exact nF m HM.o j c hj) (by omega)
 have lr:w.heap.size<wr.heap.size:=by have:=XF.o;omega
 obtain⟨W2,KL⟩:∃W2:World,W2=wr:=⟨_,rfl⟩;rw[<-KL] at ym Y7 XF k0 k1 k2 k3 kp lr ⊢;have I3:=hI k0;have HKP:=hI kp;clear KL WM ZW i6;go_wp2_with fail
 refine (zSi m HM.o given UM _ _ _ _ (Y3.o _ Y7.o) (HU.o _ Y7.o)).mono ?_;rintro e w5 ⟨x,rfl,hx,Yd⟩;obtain⟨ax,cx,rfl⟩:=ZJ hx;have Kn:Hid (PT W2.heap.size w.heap.size (w.heap.size+1+1) w5.heap.size m (.slice a1 m.vars.length c1) (.slice a2 m.cons.length c2) (.slice (some ⟨w.heap.size+1,0,none⟩) m.cons.length m.cons.length) (given.map (zAH m.vars)) (w5.alloc (.cells #[.slice ax given.length cx] 139))):=by
  have WV:Bw W2 (w5.alloc (.cells #[.slice ax given.length cx] 139)):=Yd.alloc Yd.size _;refine⟨⟨Yd.size,WV.size⟩,⟨W2,Z2 _,⟨Y3.o _ Y7.o,by rw[HL.o];exact ym.o,I3.o,HKP.o,HT.o _ Y7.o⟩,WV⟩,zUe m HM.o given,.slice ax given.length cx,?_,?_,?_⟩
  ·exact World.ownsRow_lit w5 #[.slice ax given.length cx] 1 Yd.size (by unfold maxLen;omega) rfl
  ·rw[YU]
   exact World.ownsRow.mono (hx.alloc _) (by omega)
  intro he;have:=(hx.lt _ he).2;omega
 have N6:Hid (Bw w (w5.alloc (.cells #[.slice ax given.length cx] 139))):=Y7.o.trans ((Yd.alloc Yd.size _).mono Y7.o.size);have Bz:=hI Y7.o.size;clear hx Yd k0 k1 k2 k3 kp;go_wp2
 go_ret
 exact⟨_,_,_,_,_,rfl,Kn.o,Bz.o,N6.o⟩
def Mr (l:List MStep):Bool:=match l.getLast? with
 | none=>false
 | some s=>decide (s.cla.length=0)
def R0 (m:Mod) (given:List Cla) (l:List MStep):Bool×Int :=
 if Q' m given l=0 then (if Mr l then (U2 m (given.map (zAH m.vars)) l,0) else (false,0)) else (false,Q' m given l)
theorem zOn (m:Mod):∀(l:List MStep) (ahead:List Nat) (k:Nat) (s:MStep),l[k]? = some s ->
 U2 m ahead (l.drop k)=(QS m ahead s&&U2 m (ahead++[zAH m.vars s.cla]) (l.drop (k+1))):=by
 intro l ahead k s h;have hk:k<l.length:=(ZN.1 h).1;have hs:l[k]=s:=by rw[ZA hk] at h;exact Zl h
 rw[Yc hk,hs];rfl
theorem zRB (m:Mod) (given:List Cla) (l:List MStep) (vs cs ul u:Value) (w:World) (Y8:MArg w vs cs m) (H8:WQ w ul given) (hu:Uc w u l) (hT:TabT w) :
 Calls prog 30 #[modV vs cs m,ul,u] w λe w'=>e=.returned (.tuple #[.bool (R0 m given l).1,.int .i64 (R0 m given l).2])/\Bw w w':=by
 have Y3:Hid (∀w',Bw w w'->MArg w' vs cs m):=λw' h=>MArg.below h Y8
 have HL:Hid (∀w',Bw w w'->WQ w' ul given):=λw' h=>WQ.below h H8
 have QL:Hid (∀w',Bw w w'->Uc w' u l):=λw' h=>Uc.below h hu
 have HT:Hid (∀w',Bw w w'->TabT w'):=λw' h=>hT.below h
 obtain⟨R,hR⟩:∃R,R0 m given l=R:=⟨_,rfl⟩;have HR:=hI hR;rw[hR];obtain⟨⟨a1,c1,rfl,_,_⟩,⟨a2,c2,rfl,_,_⟩⟩:=Y8;obtain⟨a3,c3,rfl,Vk,hr3⟩:=hu;have Yx:=hI hr3
 unfold maxLen at Vk;obtain⟨Ns,Vk⟩:=Vk;obtain⟨a4,c4,rfl,_,_⟩:=H8;unfold modV;clear hR hr3 hT;go_enter func30,ntmps30
 go_wp2_with fail
 refine (zOV m given l _ _ _ _ _ (Y3.o _ (Z4 _ _)) (HL.o _ (Z4 _ _)) (QL.o _ (Z4 _ _))).mono ?_;rintro e w1 ⟨rfl,Z5⟩;have ZU:Hid (Bw w w1):=(Z4 _ _).trans (Z5.mono (by simp))
 have l1:w.heap.size<w1.heap.size:=by have:=Z5.size;simp at this;omega
 have k0:w1.cell? ⟨w.heap.size,0,none⟩=some (.slice a1 m.vars.length c1):=(Z5.cell (by simp)).trans (Zu _ _ _ 0 (by simp))
 have k1:w1.cell? ⟨w.heap.size,1,none⟩=some (.slice a2 m.cons.length c2):=(Z5.cell (by simp)).trans (Zu _ _ _ 1 (by simp))
 have k2:w1.cell? ⟨w.heap.size,2,none⟩=some (.int .i64 m.goal):=(Z5.cell (by simp)).trans (Zu _ _ _ 2 (by simp))
 have k3:w1.cell? ⟨w.heap.size,3,none⟩=some (.int .i64 m.var):=(Z5.cell (by simp)).trans (Zu _ _ _ 3 (by simp))
 clear Z5;obtain⟨er,Yy⟩:∃er,Q' m given l=er:=⟨_,rfl⟩;have Xj:=hI Yy;rw[Yy];clear Yy;by_cases he:er=0
 ·subst he
  obtain⟨ok1,ok2,ok3,ok4,ok5⟩:=tE m given l Xj.o;have HM:=hI ok1;have zC:Hid (given.length<=600):=(ww m.vars given ok3).1;have I9:=hI ok5;have Zy:Hid (R=if Mr l then (U2 m (given.map (zAH m.vars)) l,0) else (false,0)):=by
   show _=_;rw[<-HR.o];unfold R0;rw[if_pos Xj.o]
  clear HR ok1 ok3 ok4 ok5;by_cases Xm:l.length=0
  ·have Bx:l=[]:=Xf Xm
   have VZ:Hid (R=(false,0)):=by show _=_;rw[Zy.o,Bx];rfl
   have g0:((l.length:Int)==0)=true:=by simp[Xm]
   clear Bx Zy;go_wp2
   go_ret2
   exact⟨by rw[VZ.o];rfl,ZU.o⟩
  have g0:((l.length:Int)==0)=false:=by simpa using Xm
  obtain⟨n,hn⟩:∃n,l.length=n+1:=⟨l.length - 1,by omega⟩
  obtain⟨t,ht⟩:∃t,l[n]? = some t:=⟨l[n]'(by omega),by simp⟩
  have OD:Hid (Mr l=decide (t.cla.length=0)):=by
   show _=_;unfold Mr;rw[List.getLast?_eq_getElem?,hn,Nat.add_sub_cancel,ht]
  obtain⟨b,off,x,Wv,hb,q0,q1,q2,Sx⟩:=Yx.o n t ht;subst Wv;have Yb:=(ZU.o.cell (p:=⟨b,off+n * 3+2,none⟩) hb).trans q2;obtain⟨ax,cx,rfl,_,_⟩:=Sx;have g1:(l.length:Int) - 1=(n:Int):=by omega
  have g2:IntKind.i64.wrap ((l.length:Int) - 1)=(n:Int):=by rw[g1];simp[IntKind.wrap,IntKind.signed,IntKind.bits];omega
  have g3:n<l.length:=by omega
  have g5:(0:Int)<=(n:Int):=by omega
  clear q0 q1 q2 ht hb hn g1;by_cases P0:t.cla.length=0
  ·have Ys:Hid (R=(U2 m (given.map (zAH m.vars)) l,0)):=by
    show _=_;rw[Zy.o,OD.o,decide_eq_true P0];rfl
   have g4:((t.cla.length:Int) != 0)=false:=by simp[P0]
   clear Zy P0;go_wp2_with fail
   refine (zU7 m HM.o given zC.o _ _ _ _ (Y3.o _ ZU.o) (HL.o _ ZU.o) (HT.o _ ZU.o)).mono ?_;rintro e w2 ⟨N,bm,bp,ba,pv,rfl,Oc,hN,ZY⟩;have Kn:=hI Oc;have ZI:=hI (ZU.o.trans (ZY.mono ZU.o.size));have R6:Hid (w.heap.size<=N):=ZT ZU.o.size hN;clear Oc ZY hN k0 k1 k2 k3 l1 Yb g2 g4 g5;go_wp2_with fail
   go_loopw [38] (λi wr=>∃(k:Nat) (ahead:List Nat),k<=l.length/\i=.int .i64 k/\Hid (PT N bm bp ba m (.slice a1 m.vars.length c1) (.slice a2 m.cons.length c2) pv ahead wr)/\Hid (U2 m (given.map (zAH m.vars)) l=U2 m ahead (l.drop k))/\Hid (ahead.length=given.length+k)/\Hid (Bw w wr)) (λi _=>l.length - (intOf i).toNat)
   case atStart=>exact⟨0,_,by omega,rfl,Kn,rfl,by show _=_;simp,ZI⟩
   obtain⟨k,ahead,hk,rfl,HW,rZ,OL,ZW⟩:=hrel;by_cases Z7:k<l.length
   ·obtain⟨t,ht⟩:∃t,l[k]? = some t:=⟨l[k],by simp[Z7]⟩
    obtain⟨b',off',x,Wv,hb,q0,q1,q2,Sx⟩:=Yx.o k t ht
    injection Wv with Wv
    injection Wv with rY GP
    subst rY;subst GP;have XN:=(ZW.o.cell (p:=⟨b,off+k * 3,none⟩) hb).trans q0;have X':=(ZW.o.cell (p:=⟨b,off+k * 3+1,none⟩) hb).trans q1;have Yb:=(ZW.o.cell (p:=⟨b,off+k * 3+2,none⟩) hb).trans q2;have Gx:Hid (∀w',Bw w w'->LArg w' x t.cla):=λw' h=>LArg.below h Sx
    obtain⟨ax,cx,rfl,_,_⟩:=Sx;have J4:Hid (t.kind=1->0<=t.con/\t.con<(m.cons.length:Int)):=I9.o t (Zz ht);have Va:Hid (U2 m ahead (l.drop k)=(QS m ahead t&&U2 m (ahead++[zAH m.vars t.cla]) (l.drop (k+1)))):=zOn m l ahead k t ht;have SC:ahead.length<=100000:=by have:=OL.o;have:=zC.o;omega
    clear ht q0 q1 q2 hb;go_wp2_with fail
    refine (zTF N bm bp ba m _ _ pv _ ahead t _ HM.o (HW.o.below (Z4 _ _)) (Gx.o _ (ZW.o.alloc ZW.o.size _)) J4.o SC).mono ?_;rintro e w3 ⟨rfl,V',ZG⟩;have yl:=hI V';have ZM:Hid (Bw w w3):=(ZW.o.alloc ZW.o.size _).trans (ZG.mono R6.o);obtain⟨B,hB⟩:∃B,QS m ahead t=B:=⟨_,rfl⟩;rw[hB] at Va ⊢;clear V' ZG hB SC XN X' Yb;cases B
    ·have VZ:Hid (R=(false,0)):=by show _=_;rw[Ys.o,rZ.o,Va.o];rfl
     go_wp2
     go_ret2
     exact⟨by rw[VZ.o];rfl,ZM.o⟩
    have rX:Hid (U2 m (given.map (zAH m.vars)) l=U2 m (ahead++[zAH m.vars t.cla]) (l.drop (k+1))):=by show _=_;rw[rZ.o,Va.o];rfl
    have rW:Hid ((ahead++[zAH m.vars t.cla]).length=given.length+(k+1)):=by show _=_;rw[ZC,OL.o];simp;omega
    go_wp2
    go_roundw
    case rel=>exact⟨k+1,_,by omega,by go_num,yl,rX,rW,ZM⟩
    case measure=>simp[intOf];omega
   have Xa:k=l.length:=by omega
   have VZ:Hid (R=(true,0)):=by show _=_;rw[Ys.o,rZ.o,Xa,List.drop_length];rfl
   clear Xa;go_wp2
   go_ret2
   exact⟨by rw[VZ.o];rfl,ZW.o⟩
  have VZ:Hid (R=(false,0)):=by
   show _=_;rw[Zy.o,OD.o,decide_eq_false P0];rfl
  have g4:((t.cla.length:Int) != 0)=true:=by simpa using P0
  clear Zy P0;go_wp2
  go_ret2
  exact⟨by rw[VZ.o];rfl,ZU.o⟩
 have VZ:Hid (R=(false,er)):=by
  show _=_;rw[<-HR.o];unfold R0;rw[Xj.o,if_neg he]
 have V3:(er != 0)=true:=by simpa using he
 clear he;go_wp2
 go_ret2
 exact⟨by rw[VZ.o];rfl,ZU.o⟩
theorem iZ (m:Mod) (hm:Zs m=0) (given:List Cla) (hg:∀d∈given,claE m.vars d=0) (UM:given.length<=600) (l:List MStep) (zb:l.length<=6000) (hl:∀s∈l,claE m.vars s.cla=0) (hk:∀s∈l,s.kind=1->0<=s.con/\s.con<(m.cons.length:Int))
 (vs cs u v:Value) (w:World) (Y8:MArg w vs cs m) (hu:WQ w u given) (hv:Uc w v l) :
 Calls prog 17 #[modV vs cs m,u,v] w λe w'=>e=.returned (.bool (Mr l&&U2 m (given.map (zAH m.vars)) l))/\Bw w w':=by
 have HS:Hid (∀Y:World,Bw w Y->Calls prog 11 #[modV vs cs m,u,v] Y λe w'=>e=.returned (.bool (U2 m (given.map (zAH m.vars)) l))/\Bw Y w'):=λY hY =>
  zKH m hm given hg UM l zb hl hk vs cs u v Y (MArg.below hY Y8) (WQ.below hY hu) (Uc.below hY hv)
 obtain⟨P,hP⟩:∃P,U2 m (given.map (zAH m.vars)) l=P:=⟨_,rfl⟩;rw[hP] at HS ⊢;clear hP hm hg UM hl hk;obtain⟨⟨a1,c1,rfl,_,_⟩,⟨a2,c2,rfl,_,_⟩⟩:=Y8;obtain⟨a4,c4,rfl,_,_⟩:=hu;obtain⟨a5,c5,rfl,iY,hr⟩:=hv;unfold modV at HS ⊢;by_cases h0:l=[]
 ·subst h0
  clear hr;go_enter func17,ntmps17
  go_wp2
  go_ret
  exact⟨rfl,Z4 _ _⟩
 have VW:0<l.length:=Ny.2 h0;obtain⟨x,hx⟩:∃x,l[l.length - 1]? = some x:=⟨l[l.length - 1],by simp⟩
 have HB:Hid (Mr l=decide (x.cla.length=0)):=by
  show _=_;unfold Mr;rw[List.getLast?_eq_getElem?,hx]
 obtain⟨b,off,xv,ha,YF,_,_,g2,Pg⟩:=hr _ x hx;subst ha;obtain⟨ax,cx,rfl,_,_⟩:=Pg;rw[HB.o];obtain⟨n,hn⟩:∃n,l.length=n+1:=⟨l.length - 1,by omega⟩
 rw[hn,Nat.add_sub_cancel] at g2;have t1:(0:Int)<(l.length:Int):=by omega
 have t2:IntKind.i64.wrap ((l.length:Int) - 1)=(n:Int):=by rw[IntKind.wrap_i64];omega
 have t3:(n:Int)<(l.length:Int):=by omega
 have t4:n<l.length:=by omega
 clear h0 VW hx hr iY hn;have d2:(w.alloc (.cells #[.slice a1 m.vars.length c1,.slice a2 m.cons.length c2,.int .i64 m.goal,.int .i64 m.var] 25)).cell? ⟨b,off+n * 3+2,none⟩=some (.slice ax x.cla.length cx):=((Z4 w _).cell (p:=⟨b,off+n * 3+2,none⟩) YF).trans g2;by_cases hc:x.cla.length=0
 ·have e1:decide (x.cla.length=0)=true:=decide_eq_true hc
  rw[e1];have e2:((x.cla.length:Int)==0)=true:=by simp[hc]
  clear hc;go_enter func17,ntmps17
  go_wp2_with fail
  refine (HS.o _ (Z4 _ _)).mono ?_;rintro e w2 ⟨rfl,ZY⟩;have ZG:Bw w w2:=(Z4 _ _).trans (ZY.mono (by simp))
  clear ZY;go_wp2
  go_ret
  exact⟨rfl,ZG⟩
 have e1:decide (x.cla.length=0)=false:=decide_eq_false hc;rw[e1];have e2:((x.cla.length:Int)==0)=false:=by simpa using hc
 clear hc;go_enter func17,ntmps17
 go_wp2
 go_ret
 exact⟨rfl,Z4 _ _⟩
def Mq (m:Mod) (vals:List Int) (l:List MStep):Bool×Int :=
 if vals.length=0 then R0 m [] l
 else if (U9 m vals).2=0 then (if (R0 m [(U9 m vals).1] l).1 then allA m vals else R0 m [(U9 m vals).1] l) else (false,(U9 m vals).2)
def Q2 (m:Mod) (R:Int×List Int×Sk):Sk:=⟨R.2.2.cs++[zAH m.vars (VX m R.2.1)],R.2.2.fuel,R.2.2.proof,R.2.2.path⟩
def Ee (m:Mod):Nat->Int×List Int×Sk->List Int->Ans
 | 0,_,_=>GF
 | n+1,R,best=>if R.1=1 then Ee m n (X3 m.vars (ptsM m) (Q2 m R)) R.2.1
   else if R.1=3 then ⟨3,[],[]⟩ else if 0<best.length then ⟨1,best,R.2.2.proof⟩ else ⟨R.1,best,R.2.2.proof⟩
def zFW (m:Mod) (R:Int×List Int×Sk):Nat :=
 if R.1=1 then (if m.goal=1 then (Zx R.2.1 m.var - (ZF m.vars m.var.toNat).lo).toNat+1 else ((ZF m.vars m.var.toNat).hi - Zx R.2.1 m.var).toNat+1) else 0
def zGS (m:Mod) (R:Int×List Int×Sk) (best:List Int):Ans:=Ee m (zFW m R+1) R best
def Lq (m:Mod) (fuel:Int):Ans:=zGS m (LD m fuel) []
def So (m:Mod) (fuel:Int):Ans×Int :=
 if m.goal=0 then I7 m fuel
 else if Zs m=0 then (if fuel<0∨300<fuel then (GF,3) else (Lq m fuel,0)) else (GF,Zs m)
theorem J3 (m:Mod) (hm:Zs m=0) (S:Sk) (h:(X3 m.vars (ptsM m) S).1=1):Sol m (X3 m.vars (ptsM m) S).2.1/\∀c∈S.cs,Hits m.vars (X3 m.vars (ptsM m) S).2.1 c:=by
 obtain⟨_,h2,_⟩:=yW m hm (λ_=>False) _ S (RO _) (λx _ hf=>hf.elim)
 obtain⟨k1,k2,k3⟩:=h2 h;exact⟨k1,λc hc=>k2 c (k3 c hc)⟩
theorem zOo (m:Mod) (hm:Zs m=0) (vals:List Int):∀l∈VX m vals,0<=l.var/\l.var<(m.vars.length:Int):=by
 obtain⟨h1,h2,_⟩:=I6 m hm;intro l hl;unfold VX at hl
 split at hl
 ·rw[Zh.1 hl];exact⟨h1,h2⟩
 split at hl
 ·rw[Zh.1 hl];exact⟨h1,h2⟩
 cases hl
theorem zOp (m:Mod) (vals x:List Int) (hg:m.goal=1∨m.goal=2):claB (VX m vals) x=true↔if m.goal=1 then Zx x m.var<=Zx vals m.var - 1 else Zx vals m.var+1<=Zx x m.var:=by
 unfold VX;rcases hg with hg | hg
 ·rw[if_pos hg,if_pos hg]
  unfold claB;simp only[Qr,List.any_nil,O1];unfold litV Zx;simp
 rw[if_neg (by omega),if_pos hg,if_neg (by omega)]
 unfold claB;simp only[Qr,List.any_nil,O1];unfold litV Zx;simp
theorem yk (m:Mod) (hm:Zs m=0) (x:List Int) (h:Sol m x):(ZF m.vars m.var.toNat).lo<=Zx x m.var/\Zx x m.var<=(ZF m.vars m.var.toNat).hi:=by
 obtain⟨h1,h2,_⟩:=I6 m hm;have:=h.1.2 m.var.toNat (by omega)
 rwa [Int.toNat_of_nonneg h1] at this
theorem yj (m:Mod) (hm:Zs m=0) (hg:m.goal=1∨m.goal=2) (R:Int×List Int×Sk) (h1:R.1=1) (hs:Sol m R.2.1):zFW m (X3 m.vars (ptsM m) (Q2 m R))<zFW m R:=by
 have h0:0<zFW m R:=by
  unfold zFW;rw[if_pos h1]
  split <;> omega
 by_cases hn:(X3 m.vars (ptsM m) (Q2 m R)).1=1
 ·obtain⟨k1,k2⟩:=J3 m hm (Q2 m R) hn
  have hh:=k2 _ (List.mem_append_right _ (Zh.2 rfl));rw[cK m.vars (Py m hm) _ k1.1 _ (zOo m hm _)] at hh;rw[zOp m _ _ hg] at hh;have r1:=yk m hm _ k1;have r2:=yk m hm _ hs;unfold zFW;rw[if_pos hn,if_pos h1]
  split
  ·rename_i hq
   rw[if_pos hq] at hh;omega
  rename_i hq
  rw[if_neg hq] at hh;omega
 unfold zFW;rw[if_neg hn];exact h0
theorem iX (m:Mod) (hm:Zs m=0) (hg:m.goal=1∨m.goal=2):∀(f g:Nat) (R:Int×List Int×Sk) (b:List Int),(R.1=1->Sol m R.2.1)->zFW m R<f->zFW m R<g->Ee m f R b=Ee m g R b
 | 0,g,R,b,_,hf,_=>by omega
 | f+1,0,R,b,_,_,hg=>by omega
 | f+1,g+1,R,b,hs,hf,R8=>by
   unfold Ee
   split
   ·rename_i h1
    have:=yj m hm hg R h1 (hs h1);exact iX m hm hg f g _ _ (λh=>(J3 m hm _ h).1) (by omega) (by omega)
   rfl
theorem yi (m:Mod) (hm:Zs m=0) (hg:m.goal=1∨m.goal=2) (R:Int×List Int×Sk) (b:List Int) (hs:R.1=1->Sol m R.2.1):zGS m R b=if R.1=1 then zGS m (X3 m.vars (ptsM m) (Q2 m R)) R.2.1
 else if R.1=3 then ⟨3,[],[]⟩ else if 0<b.length then ⟨1,b,R.2.2.proof⟩ else ⟨R.1,b,R.2.2.proof⟩:=by
 conv=>lhs;unfold zGS Ee
 split
 ·rename_i h1
  have:=yj m hm hg R h1 (hs h1);exact iX m hm hg _ _ _ _ (λh=>(J3 m hm _ h).1) (by omega) (by omega)
 rfl
theorem rV (vs:List MVar) (hv:XU vs) (pt:List (List Nat)):∀(N:Nat) (S:Sk),QQ vs S<N->SkO vs S->(X3 vs pt S).1=1->SkO vs (X3 vs pt S).2.2/\(X3 vs pt S).2.2.cs.length+(X3 vs pt S).2.2.fuel=S.cs.length+S.fuel
 | 0,S,h,_=>by omega
 | N+1,S,h,hs=>by
   rw[vT vs hv]
   split
   ·split
    ·rename_i h0
     intro h1;obtain⟨k1,k2⟩:=rV vs hv pt N _ (by have:=Dp vs pt S h0;omega) (mm vs pt S hs h0) h1
     refine⟨k1,k2.trans ?_⟩;have hf:=oq vs pt S h0;unfold Wt at h0 hf ⊢
     split
     ·rename_i hc;rw[if_pos hc] at h0
     rename_i XN
     rw[if_neg XN] at h0 hf
     split
     ·rename_i hc;rw[if_pos hc] at h0;cases h0
     rename_i X'
     rw[if_neg X'] at h0 hf
     split
     ·rename_i hc;rw[if_pos hc] at h0;cases h0
     simp only[ZC,V6];omega
    rename_i h0
    intro h1;simp only at h1;unfold Wt at h0 h1
    split at h1
    ·cases h1
    split at h1
    ·cases h1
    split at h1
    ·cases h1
    cases h1
   split
   ·exact λ_=>⟨hs,rfl⟩
   rename_i hf
   intro h1;exact rV vs hv pt N _ (by have:=Do vs hv pt S hf;omega) (mj vs hv pt S hs hf) h1
theorem iW (vs:List MVar) (hv:XU vs) (pt:List (List Nat)) (S:Sk) (hs:SkO vs S) (h:(X3 vs pt S).1=1):SkO vs (X3 vs pt S).2.2/\(X3 vs pt S).2.2.cs.length+(X3 vs pt S).2.2.fuel=S.cs.length+S.fuel:=rV vs hv pt _ S (RO _) hs h
theorem zWT (m:Mod) (hm:Zs m=0) (R:Int×List Int×Sk) (hs:R.1=1->Sol m R.2.1):zFW m R<=6:=by
 unfold zFW;by_cases h1:R.1=1
 ·rw[if_pos h1]
  have r:=yk m hm _ (hs h1);have h6:=(Py m hm).2 m.var.toNat;unfold WN at h6
  split <;> omega
 rw[if_neg h1];omega
end Go.Proofs.YtndcpnlaadikoaaGreatDoor
