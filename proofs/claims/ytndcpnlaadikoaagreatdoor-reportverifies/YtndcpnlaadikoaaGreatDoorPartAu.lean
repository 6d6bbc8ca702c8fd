/- What the proof leans on, part 21. -/
import Derived.Test.YtndcpnlaadikoaaGreatDoorPartAt
set_option maxRecDepth 100000
set_option maxHeartbeats 3200000
open Go.Proofs.Tryz
namespace Go.Proofs.YtndcpnlaadikoaaGreatDoor
open Go.RowKit
theorem lJ (vs:List MVar) (c:Cla) (v u:Value) (w:World) (hv:VArg w v vs) (hu:LArg w u c) :
 Calls prog 118 #[v,u] w λe w'=>e=.returned (.int .i64 (claE vs c))/\Bw w w':=by
 have Ww:Hid (∀w':World,Bw w w'->VArg w' v vs):=λw' h=>VArg.below h hv
 obtain⟨a1,c1,rfl,_,_⟩:=hv;obtain⟨a,cc,rfl,hm,hr⟩:=hu;have HV:=hI hr
 unfold maxLen at hm;obtain⟨Y0,hm⟩:=hm;obtain⟨R,hR⟩:∃R,claE vs c=R:=⟨_,rfl⟩;rw[hR];have HE:Hid (R=if 40<c.length then 2 else Y4 (c.map (litE vs))):=by rw[<-hR];rfl
 clear hR hr;by_cases P1:40<c.length
 ·have HN:Hid (R=2):=by rw[HE.o,if_pos P1];rfl
  go_enter func118,ntmps118
  go_wp2
  go_ret
  exact⟨Zm HN.o.symm,Z6 _ _⟩
 have WO:Hid (R=Y4 (c.map (litE vs))):=by rw[HE.o,if_neg P1];rfl
 go_enter func118,ntmps118
 go_wp2_with fail
 go_loopw [13] (λi wr=>∃k:Nat,k<=c.length/\i=.int .i64 k/\Hid (Y4 ((c.map (litE vs)).take k)=0)/\Bw w wr) (λi _=>c.length - (intOf i).toNat)
 case atStart=>exact⟨0,by omega,rfl,rfl,Z6 _ _⟩
 obtain⟨k,hk,rfl,hall,Z3⟩:=hrel;by_cases Z7:k<c.length
 ·obtain⟨t,hz⟩:∃z,c[k]? = some z:=⟨c[k],by simp[Z7]⟩
  obtain⟨b,off,ha,hb,q0,q1,q2⟩:=HV.o k t hz;have XN:=(Z3.cell (p:=⟨b,off+k * 3,none⟩) hb).trans q0;have X':=(Z3.cell (p:=⟨b,off+k * 3+1,none⟩) hb).trans q1;have Yb:=(Z3.cell (p:=⟨b,off+k * 3+2,none⟩) hb).trans q2;have Y':=Z3.size;subst ha;obtain⟨er,Yy⟩:∃er,litE vs t=er:=⟨_,rfl⟩;have Xj:=hI Yy;have HZ:Hid ((c.map (litE vs))[k]? = some er):=by show _=_;rw[YN,hz,<-Yy];rfl
  clear hz q0 q1 q2 Yy;go_wp2_with fail
  refine (zSf vs t _ _ ?_).mono ?_
  ·exact Ww.o _ (Z3.alloc Y' _)
  rintro e w2 ⟨rfl,ZY⟩;rw[Xj.o];have Vl:Bw w w2:=(Z3.alloc Y' _).trans (ZY.mono (by simp;omega))
  clear ZY;by_cases he:er=0
  ·subst he
   have HN:Hid (Y4 ((c.map (litE vs)).take (k+1))=0):=JG _ k hall.o HZ.o;go_wp2
   go_roundw
   case rel=>exact⟨k+1,by omega,by go_num,HN,Vl⟩
   case measure=>simp[intOf];omega
  have HN:Hid (R=er):=by rw[WO.o];exact L_ _ k er hall.o HZ.o he
  have V3:(er != 0)=true:=by simpa using he
  clear he;go_wp2
  go_ret
  exact⟨Zm HN.o.symm,Vl⟩
 have HN:Hid (R=0):=by
  have:=hall.o;rw[Zi (by simp;omega)] at this
  rw[WO.o];exact this
 go_wp2
 go_ret
 exact⟨Zm HN.o.symm,Z3⟩
theorem zQp (vs:List MVar) (l:List Cla) (v u:Value) (w:World) (hv:VArg w v vs) (hu:WQ w u l) :
 Calls prog 121 #[v,u] w λe w'=>e=.returned (.int .i64 (Ry vs l))/\Bw w w':=by
 have Ww:Hid (∀w':World,Bw w w'->VArg w' v vs):=λw' h=>VArg.below h hv
 obtain⟨a1,c1,rfl,_,_⟩:=hv;obtain⟨a,cc,rfl,hm,hr⟩:=hu;have HV:=hI hr;unfold maxLen at hm;obtain⟨Y0,hm⟩:=hm;obtain⟨R,hR⟩:∃R,Ry vs l=R:=⟨_,rfl⟩;rw[hR];have HE:Hid (R=if 600<l.length then 2 else Y4 (l.map (claE vs))):=by rw[<-hR];rfl
 clear hR hr;by_cases P1:600<l.length
 ·have HN:Hid (R=2):=by rw[HE.o,if_pos P1];rfl
  go_enter func121,ntmps121
  go_wp2
  go_ret
  exact⟨Zm HN.o.symm,Z6 _ _⟩
 have WO:Hid (R=Y4 (l.map (claE vs))):=by rw[HE.o,if_neg P1];rfl
 go_enter func121,ntmps121
 go_wp2_with fail
 go_loopw [13] (λi wr=>∃k:Nat,k<=l.length/\i=.int .i64 k/\Hid (Y4 ((l.map (claE vs)).take k)=0)/\Bw w wr) (λi _=>l.length - (intOf i).toNat)
 case atStart=>exact⟨0,by omega,rfl,rfl,Z6 _ _⟩
 obtain⟨k,hk,rfl,hall,Z3⟩:=hrel;by_cases Z7:k<l.length
 ·obtain⟨t,hz⟩:∃z,l[k]? = some z:=⟨l[k],by simp[Z7]⟩
  obtain⟨b,off,x,ha,hb,q0,hx⟩:=HV.o k t hz;have HX:Hid (LArg wr x t):=LArg.below Z3 hx;obtain⟨a5,c5,rfl,_,_⟩:=hx;have XN:=(Z3.cell (p:=⟨b,off+k,none⟩) hb).trans q0;subst ha;obtain⟨er,Yy⟩:∃er,claE vs t=er:=⟨_,rfl⟩;have Xj:=hI Yy;have HZ:Hid ((l.map (claE vs))[k]? = some er):=by show _=_;rw[YN,hz,<-Yy];rfl
  clear hz q0 Yy;go_wp2_with fail
  refine (lJ vs t _ _ _ (Ww.o _ Z3) HX.o).mono ?_;rintro e w2 ⟨rfl,ZY⟩;rw[Xj.o];have Vl:Bw w w2:=Z3.trans (ZY.mono Z3.size);clear ZY;by_cases he:er=0
  ·subst he
   have HN:Hid (Y4 ((l.map (claE vs)).take (k+1))=0):=JG _ k hall.o HZ.o;go_wp2
   go_roundw
   case rel=>exact⟨k+1,by omega,by go_num,HN,Vl⟩
   case measure=>simp[intOf];omega
  have HN:Hid (R=er):=by rw[WO.o];exact L_ _ k er hall.o HZ.o he
  have V3:(er != 0)=true:=by simpa using he
  clear he;go_wp2
  go_ret
  exact⟨Zm HN.o.symm,Vl⟩
 have HN:Hid (R=0):=by
  have:=hall.o;rw[Zi (by simp;omega)] at this
  rw[WO.o];exact this
 go_wp2
 go_ret
 exact⟨Zm HN.o.symm,Z3⟩
theorem lI (m:Mod) (hm:Zs m=0) (c:Cla):zAH m.vars c<2 ^ 36:=Qh m.vars (Py m hm) _
theorem yAP:(prog.info? 136).map (λi=>(i.zero,i.size,i.bytes))=some (some (.int .u64 0),1,8):=by kernel_rfl
theorem zSh (w:World) (n base:Nat) (hn:n<=100000) (hb:base<=w.heap.size):(w.alloc (.cells (madeCells #[.int .u64 0] n) 136)).ownsRow base 136 1 (.slice (some ⟨w.heap.size,0,none⟩) n n) n (List.replicate n (.int .u64 0)):=by
 refine⟨by simp,Or.inr ⟨w.heap.size,n,_,rfl,hb,heap_alloc_new w _,Z2 _,by unfold maxLen;omega,?_,?_⟩⟩
 ·have h:=congrArg List.length (toList_madeCells_one (.int .u64 0) n)
  simp at h;simpa using h
 rw[toList_madeCells_one];simp
theorem zSi (m:Mod) (hm:Zs m=0) (l:List Cla) (zb:l.length<=600) (vs cs u:Value) (w:World) (Y8:MArg w vs cs m) (hu:WQ w u l) :
 Calls prog 122 #[modV vs cs m,u] w λe w'=>∃x,e=.returned x/\w'.ownsRow (w.heap.size+1) 136 1 x l.length (u64s (l.map (zAH m.vars)))/\Bw w w':=by
 have Y3:Hid (∀w',Bw w w'->MArg w' vs cs m):=λw' h=>MArg.below h Y8
 have HM:=hI hm;have Jh:=run_make_row' (P:=prog) 139 136 (.int .u64 0) 8 aN yAP rfl .i64 .i64 l.length (by omega) (by omega)
 obtain⟨⟨a1,c1,rfl,_,_⟩,⟨a2,c2,rfl,_,_⟩⟩:=Y8;obtain⟨a3,c3,rfl,Vk,hr3⟩:=hu;have Ys:=hI hr3;unfold maxLen at Vk;obtain⟨Ns,Vk⟩:=Vk;unfold modV;clear hm hr3;go_enter func122,ntmps122
 go_wp2_with fail
 clear Jh;have Zt:Hid (Bw w ((w.alloc (.cells #[.slice a1 m.vars.length c1,.slice a2 m.cons.length c2,.int .i64 m.goal,.int .i64 m.var] 25)).alloc (.cells (madeCells #[.int .u64 0] l.length) 136))):=(Z4 _ _).alloc (by simp) _
 have S0:Hid (((w.alloc (.cells #[.slice a1 m.vars.length c1,.slice a2 m.cons.length c2,.int .i64 m.goal,.int .i64 m.var] 25)).alloc (.cells (madeCells #[.int .u64 0] l.length) 136)).cell? ⟨w.heap.size,0,none⟩=some (.slice a1 m.vars.length c1)) :=
  (W7 _ _ _ (by simp)).trans (Zu _ _ _ 0 (by simp))
 have LY:Hid (((w.alloc (.cells #[.slice a1 m.vars.length c1,.slice a2 m.cons.length c2,.int .i64 m.goal,.int .i64 m.var] 25)).alloc (.cells (madeCells #[.int .u64 0] l.length) 136)).ownsRow (w.heap.size+1) 136 1 (.slice (some ⟨w.heap.size+1,0,none⟩) l.length l.length) l.length (List.replicate l.length (.int .u64 0))):=by
  have h:=zSh (w.alloc (.cells #[.slice a1 m.vars.length c1,.slice a2 m.cons.length c2,.int .i64 m.goal,.int .i64 m.var] 25)) l.length (w.heap.size+1) (by omega) (by simp)
  show World.ownsRow _ _ _ _ _ _ _;simpa using h
 have Xd:Hid (((w.alloc (.cells #[.slice a1 m.vars.length c1,.slice a2 m.cons.length c2,.int .i64 m.goal,.int .i64 m.var] 25)).alloc (.cells (madeCells #[.int .u64 0] l.length) 136)).heap.size=w.heap.size+2):=by show _=_;simp
 obtain⟨W,hW⟩:∃W,(w.alloc (.cells #[.slice a1 m.vars.length c1,.slice a2 m.cons.length c2,.int .i64 m.goal,.int .i64 m.var] 25)).alloc (.cells (madeCells #[.int .u64 0] l.length) 136)=W:=⟨_,rfl⟩;rw[hW] at Zt S0 LY Xd ⊢;clear hW;go_loopw [13] (λi wr=>∃(k:Nat) (cells:List Value),k<=l.length/\i=.int .i64 k/\wr.ownsRow (w.heap.size+1) 136 1 (.slice (some ⟨w.heap.size+1,0,none⟩) l.length l.length) l.length cells/\Hid (∀j c,j<k->l[j]? = some c->cells[j]? = some (.int .u64 ((zAH m.vars c:Nat):Int)))/\Below (w.heap.size+1) W wr) (λi _=>l.length - (intOf i).toNat)
 case atStart=>exact⟨0,_,by omega,rfl,LY.o,λj c h=>by omega,Z6 _ _⟩
 obtain⟨k,cells,hk,rfl,Z9,hall,Z3⟩:=hrel;have Yo:=hI Z9;have ZW:=hI Z3;have Y7:Hid (Bw w wr):=Zt.o.trans (Z3.mono (by omega))
 have VN:=(Z3.cell (p:=⟨w.heap.size,0,none⟩) (by simp only;omega)).trans S0.o
 clear Z9 Z3;by_cases Z7:k<l.length
 ·obtain⟨c,hc⟩:∃c,l[k]? = some c:=⟨l[k],by simp[Z7]⟩
  obtain⟨b,off,x,Wv,hb,Cl,Sx⟩:=Ys.o k c hc;subst Wv;have Dl:=(Y7.o.cell (p:=⟨b,off+k,none⟩) hb).trans Cl;have Gx:Hid (LArg wr x c):=LArg.below Y7.o Sx;obtain⟨ax,cx,rfl,_,_⟩:=Sx;have Gw:=hI hc;have Zr:cells.length=l.length:=by have:=Yo.o.1;omega
  have Ra:=hI Zr;clear hc Zr Cl hb;obtain⟨wo,rfl⟩:∃wo:World,wo=wr:=⟨_,rfl⟩;go_wp2_with fail
  refine (Jp m.vars (LZ m HM.o) c _ _ _ (Y3.o _ Y7.o).1 Gx.o).mono ?_;rintro e w1 ⟨rfl,Z5⟩;have Kg:Hid (w1.ownsRow (w.heap.size+1) 136 1 (.slice (some ⟨w.heap.size+1,0,none⟩) l.length l.length) l.length cells):=YZ Yo.o Z5;have Su:Hid (Below (w.heap.size+1) W w1):=ZW.o.trans (Z5.mono (by have:=ZW.o.size;have:=Xd.o;omega))
  obtain⟨y,hy⟩:∃y,cells[k]? = some y:=⟨cells[k]'(by rw[Ra.o];exact Z7),by simp⟩
  have cN:w1.cell? ⟨w.heap.size+1,k,none⟩=some y:=by rw[Kg.o.cellAt k (by omega)];exact hy
  have zN:=Kg.o.frozenAt k;have Yx:Hid ((w1.setCell ⟨w.heap.size+1,k,none⟩ (.int .u64 ((zAH m.vars c:Nat):Int))).ownsRow (w.heap.size+1) 136 1 (.slice (some ⟨w.heap.size+1,0,none⟩) l.length l.length) l.length (cells.set k (.int .u64 ((zAH m.vars c:Nat):Int)))):=(Kg.o.stored k _).1;have N1:Hid (Below (w.heap.size+1) W (w1.setCell ⟨w.heap.size+1,k,none⟩ (.int .u64 ((zAH m.vars c:Nat):Int)))):=Su.o.setCell (show w.heap.size+1<=w.heap.size+1 from Z2 _) _
  have OL:Hid (∀j d,j<k+1->l[j]? = some d->(cells.set k (.int .u64 ((zAH m.vars c:Nat):Int)))[j]? = some (.int .u64 ((zAH m.vars d:Nat):Int))):=by
   intro j d hj hd;by_cases T1:j=k
   ·subst T1
    rw[Gw.o] at hd;cases hd
    rw[Uu (by rw[Ra.o];exact Z7)]
   rw[WE (λh=>T1 h.symm)]
   exact hall.o j d (by omega) hd
  have hlN:w.heap.size+1<w1.heap.size:=by have:=(Kg.o.lt (w.heap.size+1) rfl).2;exact this
  clear hy Z5 VN;go_wp2
  go_roundw
  case rel=>exact⟨k+1,_,by omega,by go_num,Yx.o,OL,N1.o⟩
  case measure=>simp[intOf];omega
 have Xa:k=l.length:=by omega
 have HE:Hid (cells=u64s (l.map (zAH m.vars))):=by
  show _=_;have Zr:cells.length=l.length:=by have:=Yo.o.1;omega
  apply RS;intro j;by_cases hj:j<l.length
  ·rw[hall.o j l[j] (by omega) (by simp[hj])]
   unfold u64s;simp[hj]
  rw[V7 (by omega),V7 (by unfold u64s;simp;omega)]
 have HF:Hid (wr.ownsRow (w.heap.size+1) 136 1 (.slice (some ⟨w.heap.size+1,0,none⟩) l.length l.length) l.length (u64s (l.map (zAH m.vars)))):=by rw[<-HE.o];exact Yo.o
 clear Xa VN;go_wp2
 go_ret
 exact⟨_,rfl,HF.o,Y7.o⟩
theorem zUe (m:Mod) (hm:Zs m=0) (l:List Cla):∀z∈l.map (zAH m.vars),z<2 ^ 36:=by
 intro z hz;obtain⟨c,_,rfl⟩:=Zj.1 hz;exact lI m hm c
def Uc (w:World) (v:Value) (l:List MStep):Prop :=
 ∃a c,v=.slice a l.length c/\(l.length<=c/\c<=maxLen)/\∀(i:Nat) (t:MStep),l[i]? = some t->∃b off x,a=some ⟨b,off,none⟩/\b<w.heap.size /\
  w.cell? ⟨b,off+i * 3,none⟩=some (.int .i64 t.kind)/\w.cell? ⟨b,off+i * 3+1,none⟩=some (.int .i64 t.con)/\w.cell? ⟨b,off+i * 3+2,none⟩=some x/\LArg w x t.cla
theorem Uc.below {w w':World} {v:Value} {l:List MStep} (hb:Bw w w') (h:Uc w v l):Uc w' v l:=by
 obtain⟨a,c,hv,hm,hr⟩:=h;refine⟨a,c,hv,hm,λi z hz=>?_⟩
 obtain⟨b,off,x,ha,Z7,c0,c1,c2,hx⟩:=hr i z hz;exact⟨b,off,x,ha,ZQ Z7 hb.size,(hb.cell (p:=⟨b,off+i * 3,none⟩) Z7).trans c0,(hb.cell (p:=⟨b,off+i * 3+1,none⟩) Z7).trans c1,(hb.cell (p:=⟨b,off+i * 3+2,none⟩) Z7).trans c2,LArg.below hb hx⟩
def U8 (n:Int) (s:MStep):Bool:=!(decide (s.kind=1)&&(decide (s.con<0) || decide (n<=s.con)))
def Q' (m:Mod) (given:List Cla) (l:List MStep):Int :=
 if Zs m=0 then (if 6000<l.length then 2 else if Ry m.vars given=0 then
  (if Y4 (l.map λs=>claE m.vars s.cla)=0 then (if l.all (U8 m.cons.length) then 0 else 5) else Y4 (l.map λs=>claE m.vars s.cla)) else Ry m.vars given) else Zs m
theorem tE (m:Mod) (given:List Cla) (l:List MStep) (h:Q' m given l=0):Zs m=0/\l.length<=6000/\Ry m.vars given=0/\(∀s∈l,claE m.vars s.cla=0)/\∀s∈l,s.kind=1->0<=s.con/\s.con<(m.cons.length:Int):=by
 unfold Q' at h;by_cases h0:Zs m=0
 ·rw[if_pos h0] at h
  by_cases h1:6000<l.length
  ·rw[if_pos h1] at h;cases h
  rw[if_neg h1] at h;by_cases h2:Ry m.vars given=0
  ·rw[if_pos h2] at h
   by_cases h3:Y4 (l.map λs=>claE m.vars s.cla)=0
   ·rw[if_pos h3] at h
    cases h4:l.all (U8 m.cons.length)
    ·rw[h4] at h;cases h
    refine⟨h0,by omega,h2,λs hs=>Im _ h3 _ (Zj.2 ⟨s,hs,rfl⟩),λs hs hk=>?_⟩
    have:=W8.1 h4 s hs;unfold U8 at this;simp[hk] at this;omega
   rw[if_neg h3] at h;exact absurd h h3
  rw[if_neg h2] at h;exact absurd h h2
 rw[if_neg h0] at h;exact absurd h h0
theorem zOV (m:Mod) (given:List Cla) (l:List MStep) (vs cs ul u:Value) (w:World) (Y8:MArg w vs cs m) (H8:WQ w ul given) (hu:Uc w u l) :
 Calls prog 76 #[modV vs cs m,ul,u] w λe w'=>e=.returned (.int .i64 (Q' m given l))/\Bw w w':=by
 have Y3:Hid (∀w',Bw w w'->MArg w' vs cs m):=λw' h=>MArg.below h Y8
 have HL:Hid (∀w',Bw w w'->WQ w' ul given):=λw' h=>WQ.below h H8
 obtain⟨R,hR⟩:∃R,Q' m given l=R:=⟨_,rfl⟩;have HR:=hI hR;rw[hR];obtain⟨⟨a1,c1,rfl,_,_⟩,⟨a2,c2,rfl,_,_⟩⟩:=Y8;obtain⟨a3,c3,rfl,Vk,hr3⟩:=hu;have Yx:=hI hr3
 unfold maxLen at Vk;obtain⟨Ns,Vk⟩:=Vk;obtain⟨a4,c4,rfl,_,_⟩:=H8;unfold modV;clear hR hr3;go_enter func76,ntmps76
 go_wp2_with fail
 refine (JE m _ _ _ (Y3.o _ (Z4 _ _))).mono ?_;rintro e w1 ⟨rfl,Z5⟩;have ZU:Hid (Bw w w1):=(Z4 _ _).trans (Z5.mono (by simp))
 have l1:w.heap.size<w1.heap.size:=by have:=Z5.size;simp at this;omega
 have k0:w1.cell? ⟨w.heap.size,0,none⟩=some (.slice a1 m.vars.length c1):=(Z5.cell (by simp)).trans (Zu _ _ _ 0 (by simp))
 have k1:w1.cell? ⟨w.heap.size,1,none⟩=some (.slice a2 m.cons.length c2):=(Z5.cell (by simp)).trans (Zu _ _ _ 1 (by simp))
 clear Z5;obtain⟨er,Yy⟩:∃er,Zs m=er:=⟨_,rfl⟩;have Xj:=hI Yy;rw[Yy];clear Yy;by_cases he:er=0
 ·subst he
  by_cases lH:6000<l.length
  ·have VZ:Hid (R=2):=by show _=_;rw[<-HR.o];unfold Q';rw[if_pos Xj.o,if_pos lH]
   go_wp2
   go_ret
   exact⟨Zm VZ.o.symm,ZU.o⟩
  have Zy:Hid (R=if Ry m.vars given=0 then (if Y4 (l.map λs=>claE m.vars s.cla)=0 then (if l.all (U8 m.cons.length) then 0 else 5) else Y4 (l.map λs=>claE m.vars s.cla)) else Ry m.vars given):=by
   show _=_;rw[<-HR.o];unfold Q';rw[if_pos Xj.o,if_neg lH]
  clear HR;go_wp2_with fail
  refine (zQp m.vars given _ _ _ (Y3.o _ ZU.o).1 (HL.o _ ZU.o)).mono ?_;rintro e w2 ⟨rfl,ZY⟩;have ZI:=hI (ZU.o.trans (ZY.mono ZU.o.size));have tD:Hid (w.heap.size<w2.heap.size):=ZQ l1 ZY.size;have lG:Hid (w2.cell? ⟨w.heap.size,0,none⟩=some (.slice a1 m.vars.length c1)):=(ZY.cell (p:=⟨w.heap.size,0,none⟩) l1).trans k0;have lF:Hid (w2.cell? ⟨w.heap.size,1,none⟩=some (.slice a2 m.cons.length c2)):=(ZY.cell (p:=⟨w.heap.size,1,none⟩) l1).trans k1;clear ZY k0 k1 l1;obtain⟨el,AE⟩:∃el,Ry m.vars given=el:=⟨_,rfl⟩;rw[AE] at Zy ⊢;clear AE;by_cases Xm:el=0
  ·subst Xm
   have Ys:Hid (R=if Y4 (l.map λs=>claE m.vars s.cla)=0 then (if l.all (U8 m.cons.length) then 0 else 5) else Y4 (l.map λs=>claE m.vars s.cla)):=by show _=_;rw[Zy.o,if_pos rfl]
   clear Zy;go_wp2_with fail
   go_loopw [31] (λi wr=>∃k:Nat,k<=l.length/\i=.int .i64 k/\Hid (Y4 ((l.map λs=>claE m.vars s.cla).take k)=0)/\Bw w2 wr) (λi _=>l.length - (intOf i).toNat)
   case atStart=>exact⟨0,by omega,rfl,rfl,Z6 _ _⟩
   obtain⟨k,hk,rfl,hall,Z3⟩:=hrel;have ZW:=hI Z3;have Y7:=hI (ZI.o.trans (Z3.mono ZI.o.size));have i0:=(Z3.cell (p:=⟨w.heap.size,0,none⟩) tD.o).trans lG.o;have lr:w.heap.size<wr.heap.size:=ZQ tD.o Z3.size;clear Z3;by_cases Z7:k<l.length
   ·obtain⟨t,ht⟩:∃t,l[k]? = some t:=⟨l[k],by simp[Z7]⟩
    obtain⟨b,off,x,Wv,hb,q0,q1,q2,Sx⟩:=Yx.o k t ht;subst Wv;have XN:=(Y7.o.cell (p:=⟨b,off+k * 3,none⟩) hb).trans q0;have X':=(Y7.o.cell (p:=⟨b,off+k * 3+1,none⟩) hb).trans q1;have Yb:=(Y7.o.cell (p:=⟨b,off+k * 3+2,none⟩) hb).trans q2;have Gx:Hid (∀w',Bw w w'->LArg w' x t.cla):=λw' h=>LArg.below h Sx
    obtain⟨ax,cx,rfl,_,_⟩:=Sx;obtain⟨er,Yy⟩:∃er,claE m.vars t.cla=er:=⟨_,rfl⟩;have HE1:=hI Yy;have HZ:Hid ((l.map λs=>claE m.vars s.cla)[k]? = some er):=by show _=_;rw[YN,ht,<-Yy];rfl
    clear ht q0 q1 q2 Yy hb;go_wp2_with fail
    refine (lJ m.vars t.cla _ _ _ (Y3.o _ (Y7.o.alloc Y7.o.size _)).1 (Gx.o _ (Y7.o.alloc Y7.o.size _))).mono ?_;rintro e w3 ⟨rfl,ZG⟩;rw[HE1.o];have ZM:Hid (Bw w2 w3):=(ZW.o.alloc ZW.o.size _).trans (ZG.mono (by have:=ZW.o.size;simp;omega))
    clear ZG XN X' Yb i0;by_cases he:er=0
    ·subst he
     have HN:Hid (Y4 ((l.map λs=>claE m.vars s.cla).take (k+1))=0):=JG _ k hall.o HZ.o
     go_wp2
     go_roundw
     case rel=>exact⟨k+1,by omega,by go_num,HN,ZM.o⟩
     case measure=>simp[intOf];omega
    have HF:=L_ _ k er hall.o HZ.o he;have VZ:Hid (R=er):=by show _=_;rw[Ys.o,HF,if_neg he]
    have V3:(er != 0)=true:=by simpa using he
    have Yp:Hid (Bw w w3):=ZI.o.trans (ZM.o.mono ZI.o.size);clear hall he HF;go_wp2
    go_ret
    exact⟨Zm VZ.o.symm,Yp.o⟩
   have Xa:k=l.length:=by omega
   have Wq:Hid (R=if l.all (U8 m.cons.length) then 0 else 5):=by
    show _=_;have h1:=hall.o;rw[Xa,Zi (by simp)] at h1
    rw[Ys.o,if_pos h1]
   have tC:=hI i0;have Ck:Hid (wr.cell? ⟨w.heap.size,1,none⟩=some (.slice a2 m.cons.length c2)):=(ZW.o.cell (p:=⟨w.heap.size,1,none⟩) tD.o).trans lF.o;have tB:=hI lr;obtain⟨W,hW⟩:∃W:World,W=wr:=⟨_,rfl⟩;rw[<-hW] at tC Ck tB Y7 ⊢;clear hall Xa i0 Ys lG lF lr ZW hW;go_wp2_with fail
   go_loopw [46] (λi wx=>∃k:Nat,k<=l.length/\i=.int .i64 k/\Hid ((l.take k).all (U8 m.cons.length)=true)/\Bw W wx) (λi _=>l.length - (intOf i).toNat)
   case atStart=>exact⟨0,by omega,rfl,rfl,Z6 _ _⟩
   obtain⟨k,hk,rfl,hall,Z3⟩:=hrel;have ZW:=hI Z3;have Vq:=hI (Y7.o.trans (Z3.mono Y7.o.size));have i1:=(Z3.cell (p:=⟨w.heap.size,1,none⟩) tB.o).trans Ck.o;have lr:w.heap.size<wr.heap.size:=ZQ tB.o Z3.size;clear Z3;by_cases Z7:k<l.length
   ·obtain⟨t,ht⟩:∃t,l[k]? = some t:=⟨l[k],by simp[Z7]⟩
    obtain⟨b,off,x,Wv,hb,q0,q1,q2,Sx⟩:=Yx.o k t ht;subst Wv;have XN:=(Vq.o.cell (p:=⟨b,off+k * 3,none⟩) hb).trans q0;have X':=(Vq.o.cell (p:=⟨b,off+k * 3+1,none⟩) hb).trans q1;have Yb:=(Vq.o.cell (p:=⟨b,off+k * 3+2,none⟩) hb).trans q2;obtain⟨ax,cx,rfl,_,_⟩:=Sx;have HT:Hid (l[k]? = some t):=ht;have ZM:Hid (∀o,Bw W (wr.alloc o)):=λo=>ZW.o.alloc ZW.o.size _
    have TG:Hid (U8 m.cons.length t=true->(l.take (k+1)).all (U8 m.cons.length)=true):=λhq=>by rw[Y1,HT.o,List.all_append,hall.o];simp[hq]
    have YE:Hid (U8 m.cons.length t=false->R=5):=λhq=>by
     have h5:l.all (U8 m.cons.length)=false:=by
      cases h6:l.all (U8 m.cons.length)
      ·rfl
      rw[W8.1 h6 t (Zz HT.o)] at hq;cases hq
     rw[Wq.o,h5];rfl
    clear ht q0 q1 q2 hb hall;by_cases X6:t.kind=1
    ·have g1:(t.kind==1)=true:=by simpa using X6
     by_cases US:t.con<0
     ·have VZ:Hid (R=5):=YE.o (by unfold U8;simp[X6,US])
      clear X6;go_wp2
      go_ret
      exact⟨Zm VZ.o.symm,Vq.o.alloc Vq.o.size _⟩
     by_cases XH:(m.cons.length:Int)<=t.con
     ·have VZ:Hid (R=5):=YE.o (by unfold U8;simp[X6,XH])
      clear X6;go_wp2
      go_ret
      exact⟨Zm VZ.o.symm,Vq.o.alloc Vq.o.size _⟩
     have HN:Hid ((l.take (k+1)).all (U8 m.cons.length)=true):=TG.o (by unfold U8;simp[X6];omega)
     clear X6 TG YE;go_wp2
     go_roundw
     case rel=>exact⟨k+1,by omega,by go_num,HN,ZM.o _⟩
     case measure=>simp[intOf];omega
    have g1:(t.kind==1)=false:=by simpa using X6
    have HN:Hid ((l.take (k+1)).all (U8 m.cons.length)=true):=TG.o (by unfold U8;simp[X6])
    clear X6 TG YE;go_wp2
    go_roundw
    case rel=>exact⟨k+1,by omega,by go_num,HN,ZM.o _⟩
    case measure=>simp[intOf];omega
   have Xa:k=l.length:=by omega
   have VZ:Hid (R=0):=by
    show _=_;have h1:=hall.o;rw[Xa,Zi (Z2 _)] at h1;rw[Wq.o,h1];rfl
   clear hall Xa;go_wp2
   go_ret
   exact⟨Zm VZ.o.symm,Vq.o⟩
  have VZ:Hid (R=el):=by show _=_;rw[Zy.o,if_neg Xm]
  have V3:(el != 0)=true:=by simpa using Xm
  clear Xm Zy;go_wp2
  go_ret
  exact⟨Zm VZ.o.symm,ZI.o⟩
 have VZ:Hid (R=er):=by
  show _=_;rw[<-HR.o];unfold Q';rw[Xj.o,if_neg he]
 have V3:(er != 0)=true:=by simpa using he
 clear he;go_wp2
 go_ret
 exact⟨Zm VZ.o.symm,ZU.o⟩
theorem za {w2 Y w3:World} {A:Prop} (h:Bw w2 Y/\A) (hw:w3=Y):Bw w2 w3:=hw▸h.1
theorem lE {w2 Y:World} {A:Prop} {v:Value} {l:List MLit} (h:Bw w2 Y/\A) (hl:LArg w2 v l):LArg Y v l:=LArg.below h.1 hl
theorem lD (l:List Int) (n:Int):hasB l n=l.any λk=>k==n:=by
 unfold hasB
 congr 1
 funext k
 exact Bool.beq_comm
theorem lA (l:List Int) (v:Value) (n:Int) (w:World) (hv:IArg w v l) :
 Calls prog 160 #[v,.int .i64 n] w λe w'=>e=.returned (.bool (hasB l n))/\w'=w:=by
 obtain⟨a,c,rfl,hm,hr⟩:=hv;have HV:=hI hr;obtain⟨R,hR⟩:∃R,hasB l n=R:=⟨_,rfl⟩;rw[hR];have HR:Hid ((l.any λk=>k==n)=R):=by show _=_;rw[<-hR,lD]
 unfold maxLen at hm;obtain⟨Y0,hm⟩:=hm;clear hr hR;go_enter func160,ntmps160
 go_wp2_with fail
 go_loop [5] (λi=>∃m:Nat,m<=l.length/\i=.int .i64 m/\Hid ((l.take m).any (λk=>k==n)=false)) (λi=>l.length - (intOf i).toNat)
 case atStart=>exact⟨0,by omega,rfl,rfl⟩
 obtain⟨m,Uo,rfl,hall⟩:=hrel;by_cases Z7:m<l.length
 ·obtain⟨z,hz⟩:∃z,l[m]? = some z:=⟨l[m],by simp[Z7]⟩
  obtain⟨b,off,ha,hb,hc⟩:=HV.o m z hz;have HZ:=hI hz;subst ha;clear hz;cases hq:(z==n)
  ·have HN:Hid ((l.take (m+1)).any (λk=>k==n)=false):=vH (λk=>k==n) l m z HZ.o hall.o hq
   go_wp2
   go_round
   case rel=>exact⟨m+1,by omega,by go_num,HN⟩
   case measure=>simp[intOf];omega
  have HN:Hid (R=true):=by rw[<-HR.o];exact vI (λk=>k==n) l m z HZ.o hq
  go_wp2
  go_ret
  exact⟨ZD HN.o.symm,rfl⟩
 have HN:Hid (R=false):=by rw[<-HR.o];exact vG _ l m Z7 hall.o
 go_wp2
 go_ret
 exact⟨ZD HN.o.symm,rfl⟩
theorem Kf (s:Sto) (v:Value) (w:World) (hv:RArg w v s) :
 Calls prog 93 #[v] w λe w'=>e=.returned (.bool (zAI s))/\w'=w:=by
 obtain⟨a,c,rfl,hm,hr⟩:=hv;have HV:=hI hr;obtain⟨R,hR⟩:∃R,zAI s=R:=⟨_,rfl⟩;rw[hR];have HR:Hid ((s.any λr=>decide (r.length=0))=R):=hR
 unfold maxLen at hm;obtain⟨Y0,hm⟩:=hm;clear hr hR;go_enter func93,ntmps93
 go_wp2_with fail
 go_loop [3] (λi=>∃m:Nat,m<=s.length/\i=.int .i64 m/\Hid ((s.take m).any (λr=>decide (r.length=0))=false)) (λi=>s.length - (intOf i).toNat)
 case atStart=>exact⟨0,by omega,rfl,rfl⟩
 obtain⟨m,Uo,rfl,hall⟩:=hrel;by_cases Z7:m<s.length
 ·obtain⟨r,hz⟩:∃r,s[m]? = some r:=⟨s[m],by simp[Z7]⟩
  obtain⟨b,off,x,ha,hb,hc,hx⟩:=HV.o m r hz;obtain⟨a5,c5,rfl,_,_⟩:=hx;have HZ:=hI hz;subst ha;clear hz;by_cases h0:r.length=0
  ·have HN:Hid (R=true):=by rw[<-HR.o];exact vI (λr:List Int=>decide (r.length=0)) s m r HZ.o (decide_eq_true h0)
   have g0:((r.length:Int)==0)=true:=by simp[h0]
   clear h0;go_wp2
   go_ret
   exact⟨ZD HN.o.symm,rfl⟩
  have HN:Hid ((s.take (m+1)).any (λr=>decide (r.length=0))=false):=vH (λr:List Int=>decide (r.length=0)) s m r HZ.o hall.o (decide_eq_false h0)
  have g0:((r.length:Int)==0)=false:=by simpa using h0
  clear h0;go_wp2
  go_round
  case rel=>exact⟨m+1,by omega,by go_num,HN⟩
  case measure=>simp[intOf];omega
 have HN:Hid (R=false):=by rw[<-HR.o];exact vG _ s m Z7 hall.o
 go_wp2
 go_ret
 exact⟨ZD HN.o.symm,rfl⟩
end Go.Proofs.YtndcpnlaadikoaaGreatDoor
