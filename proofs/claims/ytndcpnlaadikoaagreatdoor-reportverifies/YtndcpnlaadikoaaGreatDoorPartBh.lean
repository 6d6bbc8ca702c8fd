/- What the proof leans on, part 34. -/
import Derived.Test.YtndcpnlaadikoaaGreatDoorPartBg
set_option maxRecDepth 100000
set_option maxHeartbeats 6400000
open Go.Proofs.Tryz
namespace Go.Proofs.YtndcpnlaadikoaaGreatDoor
open Go.RowKit
theorem zU3 (m:Mod) (hm:Zs m=0):∀r∈Ym m.vars,∀x∈r,-50<=x/\x<=50:=by
 intro r hr x hx;obtain⟨v,hv⟩:=Wm.1 hr;have X8:v<m.vars.length:=by have:=(ZN.1 hv).1;rw[H5] at this;exact this
 have h:=(Ca m.vars).2 v x X8 (by rw[ZO,hv];exact hx)
 have hb:=Ae m hm v X8;omega
theorem zWS (s:Sto) (f:Nat->Int->Bool) (h:∀r∈s,∀x∈r,-50<=x/\x<=50):∀r∈V0 s f,∀x∈r,-50<=x/\x<=50:=by
 intro r hr x hx;obtain⟨k,hk⟩:=Wm.1 hr;obtain⟨q,hq,rfl⟩:=OX _ _ _ _ hk;exact h q (Zz hq) x (WC.1 hx).1
theorem zOm (m:Mod) (hm:Zs m=0) (j:Nat) (k:MCon) (hk:m.cons[j]? = some k) (c:Cla) (vs cs v:Value) (w:World) (Y8:MArg w vs cs m) (hv:LArg w v c) :
 Calls prog 41 #[modV vs cs m,.int .i64 (j:Int),v] w λe w'=>e=.returned (.bool (TI m.vars (XB m.vars k) (zAH m.vars c)))/\Bw w w':=by
 obtain⟨S1,ZS⟩:=lT m (Ym m.vars) hm (oV m.vars);have tH:Hid ((Ud (Ym m.vars) c).length=m.vars.length):=by show _=_;rw[Kl];unfold Vr;rw[Vs,H5]
 have Tl:Hid (∀r∈Ud (Ym m.vars) c,r.length<=6):=by rw[Kl];exact kG _ _ ZS
 have P6:Hid (∀r∈Ud (Ym m.vars) c,∀x∈r,-50<=x/\x<=50):=by rw[Kl];exact zWS _ _ (zU3 m hm)
 have H6:=hI S1;have Wp:=hI ZS;have HK:=hI hk;have To:=hI hm;have Y3:=hI Y8;have HV:=hI hv;have vh:Hid (zAI (TL k (Ud (Ym m.vars) c))=TI m.vars (XB m.vars k) (zAH m.vars c)):=by show _=_;rw[Kl];exact zTE m hm j k hk c
 obtain⟨⟨a,cap,rfl,_,_⟩,⟨a0,c0,rfl,_,_⟩⟩:=Y8;unfold modV;clear S1 ZS hm hv hk;go_enter func41,ntmps41
 go_wp2_with fail
 have Zt:Hid (Bw w (w.alloc (.cells #[.slice a m.vars.length cap,.slice a0 m.cons.length c0,.int .i64 m.goal,.int .i64 m.var] 25))):=Z4 _ _;have hN:(w.alloc (.cells #[.slice a m.vars.length cap,.slice a0 m.cons.length c0,.int .i64 m.goal,.int .i64 m.var] 25)).heap[w.heap.size]? = some (.cells #[.slice a m.vars.length cap,.slice a0 m.cons.length c0,.int .i64 m.goal,.int .i64 m.var] 25):=heap_alloc_new _ _;obtain⟨W,hW⟩:∃W,w.alloc (.cells #[.slice a m.vars.length cap,.slice a0 m.cons.length c0,.int .i64 m.goal,.int .i64 m.var] 25)=W:=⟨_,rfl⟩;rw[hW] at Zt hN ⊢;clear hW;have l0:=(Z8.1 hN).1;have q0:=Z_ hN 0 _ rfl;have q1:=Z_ hN 1 _ rfl;have q2:=Z_ hN 2 _ rfl;have q3:=Z_ hN 3 _ rfl
 replace Y3:Hid (MArg W (.slice a m.vars.length cap) (.slice a0 m.cons.length c0) m):=MArg.below Zt.o Y3.o
 replace HV:Hid (LArg W v c):=LArg.below Zt.o HV.o
 clear hN;go_region_held3 (λw'=>Bw W w'/\w'.cell? ⟨w.heap.size,0,none⟩=some (.slice a m.vars.length cap)/\w'.cell? ⟨w.heap.size,1,none⟩=some (.slice a0 m.cons.length c0)/\w'.cell? ⟨w.heap.size,2,none⟩=some (.int .i64 m.goal)/\w'.cell? ⟨w.heap.size,3,none⟩=some (.int .i64 m.var))
  ((refine (λ(hB:Bw W _)=>⟨hB,(hB.cell (p:=⟨w.heap.size,0,none⟩) l0).trans q0,(hB.cell (p:=⟨w.heap.size,1,none⟩) l0).trans q1,(hB.cell (p:=⟨w.heap.size,2,none⟩) l0).trans q2,(hB.cell (p:=⟨w.heap.size,3,none⟩) l0).trans q3⟩:Bw W _->_) ?_;first | exact (Z6 _ _).drew | exact Ue (by assumption) Yu | exact LG | exact hB5 | exact GG | exact hB3))
  (first
    | (go_at_call 96;refine (lP m To.o _ _ _ (yN (by assumption) Y3.o)).mono ?_;rintro e w3 ⟨x3,rfl,Pm,Gp⟩;have hB3:=Ue (by assumption) Gp)
    | (go_at_call 95;refine (lO (Ym m.vars) H6.o Wp.o c _ _ _ Pm (kI (by assumption) HV.o)).mono ?_;rintro e w4 ⟨x4,rfl,Gn,Gm⟩;have GG:=Ue (by assumption) Gm)
    | (go_at_call 94;refine (zOl m To.o j k HK.o (Ud (Ym m.vars) c) tH.o Tl.o P6.o _ _ _ _ (yN (by assumption) Y3.o) Gn).mono ?_;rintro e w5 ⟨x5,rfl,LU,Gl⟩;have hB5:=Ue (by assumption) Gl)
    | (go_at_call 93;refine (Kf _ _ _ LU).mono ?_;rintro e w6 ⟨rfl,sQ⟩;have LG:=kH (by assumption) sQ))
 go_wp2
 go_ret
 exact⟨by rw[vh.o];rfl,Zt.o.trans (hB5.mono Zt.o.size)⟩
theorem r9:(prog.info? 28).map (λi=>(i.zero,i.size,i.bytes))=some (some (.slice none 0 0),1,24):=by kernel_rfl
theorem yp:prog.underlying 26=some (.slice 28):=by kernel_rfl
def CRel (W:World) (cells:List Value) (L:List Cla):Prop:=cells.length=L.length/\∀(i:Nat) (t:Cla),L[i]? = some t->∃x,cells[i]? = some x/\LArg W x t
theorem CRel.nil (W:World):CRel W [] []:=⟨rfl,λi t h=>by simp at h⟩
theorem CRel.snoc {W:World} {cells:List Value} {L:List Cla} (h:CRel W cells L) {x:Value} {t:Cla} (hx:LArg W x t):CRel W (cells++[x]) (L++[t]):=by
 refine⟨by simp[h.1],λi u hu=>?_⟩
 by_cases hi:i<L.length
 ·rw[V8 hi] at hu
  obtain⟨y,h1,h2⟩:=h.2 i u hu;exact⟨y,by rw[V8 (by rw[h.1];exact hi)];exact h1,h2⟩
 rw[V9 (by omega)] at hu
 have WJ:i - L.length=0:=by
  have:=(ZN.1 hu).1;simp at this;omega
 rw[WJ] at hu;have:u=t:=by simpa using hu.symm
 subst this;exact⟨x,by rw[V9 (by rw[h.1];omega),h.1,WJ];rfl,hx⟩
theorem CRel.arg {W w:World} {cells:List Value} {L:List Cla} (h:CRel W cells L) {base:Nat} {v:Value} (ho:w.ownsRow base 28 1 v cells.length cells) (hb:Bw W w):WQ w v L:=by
 rcases ho.2 with ⟨rfl,hn⟩ | ⟨g,cap,cur,rfl,hg,hh,X',Yb,_,_⟩
 ·have:L=[]:=Xf (by rw[<-h.1];exact hn)
  subst this;exact⟨none,0,rfl,⟨Z2 _,YI _⟩,λi z hz=>by simp at hz⟩
 refine⟨_,cap,by rw[h.1],⟨by rw[<-h.1];exact X',Yb⟩,λi t ht=>?_⟩
 obtain⟨x,h1,h2⟩:=h.2 i t ht;exact⟨g,0,x,rfl,(Z8.1 hh).1,by rw[Zn,ho.cellAt i (by have:=(ZN.1 h1).1;omega)];exact h1,LArg.below hb h2⟩
theorem zU4 (w:World) (T:TypeId):(w.alloc (.cells #[] T)).ownsRow w.heap.size T 1 (.slice (some ⟨w.heap.size,0,none⟩) 0 0) 0 [] :=
 ⟨rfl,.inr ⟨w.heap.size,0,#[],rfl,Z2 _,heap_alloc_new _ _,Z2 _,YI _,rfl,rfl⟩⟩
theorem zU5 {w:World} {x:Value} {t:Cla} (h:LArg w x t):x.oneCell'=true:=by
 obtain⟨a,c,rfl,_⟩:=h;rfl
theorem je {w:World} {ops:Array Oper} {rest:List Oper} {o:Oper} {a:Act} {Q:Exit->Act->World->Prop} (SH:o.guard=none) (s x:Operand)
 (ho:o.op=.call { callee:=.builtin .append,args:=#[s,x],argTypes:=#[26,26] }) (base:Nat)
 (v:Value) (k:Nat) (cells:List Value) (hs:a.eval s=v) (Z9:w.ownsRow base 28 1 v k cells)
 (g:Nat) (y:Value) (hy:y.oneCell'=true) (hx:a.eval x=.slice (some ⟨g,0,none⟩) 1 1) (hc:w.cell? ⟨g,0,none⟩=some y) (hk:k<=10000) (Yv:base<=w.heap.size)
 (h:∀v' w',w'.ownsRow base 28 1 v' (k+1) (cells++[y])->w.grownBy w' v.ownBlock->wpList prog ops Q rest (a.put o.dst v') w'):wpList prog ops Q (o :: rest) a w:=by
 obtain⟨i1,zg,GB,Km,I4⟩:=info_parts r9;refine wpList_append_own w SH s x 26 ho base 28 i1 (.slice none 0 0) 1 24 yp zg GB Km I4 rfl (by decide) v k cells hs Z9 ⟨g,0,none⟩ 1 1 [y] hx rfl ?_ ?_ (by unfold maxLen;omega) (by omega) Yv ?_
 ·intro j u hj
  match j,hj with
  | 0,hj=>simp at hj;subst hj;rw[L7];exact hc
 ·intro u hu
  rcases Zh.1 hu with rfl
  exact hy
 intro v' w' h1 h2 _;exact h v' w' h1 h2
theorem zLn (w:World) (ty:TypeId) (base n c:Nat) (v:Value) (xs:List Value) (Z9:w.ownsRow base 28 1 v n xs) :
 (Builtin.append_ #[26,26] ty #[v,.slice none 0 c]).run prog w=.ok v w:=by
 obtain⟨i0,hi,Ze,Y_,Zb⟩:=info_parts r9;rcases Z9.2 with ⟨rfl,rfl⟩ | ⟨g,cap,cur,rfl,_,_,L8,_⟩
 ·simp[Builtin.append_,run_underlying yp,sizeOf,typeInfo,hi,Builtin.lenOf,Builtin.firstCells]
 simp[Builtin.append_,run_underlying yp,sizeOf,typeInfo,hi,Builtin.lenOf,Builtin.firstCells,L8,storeCells]
theorem zHR {w:World} {ops:Array Oper} {rest:List Oper} {o:Oper} {a:Act} {Q:Exit->Act->World->Prop} (SH:o.guard=none) (s x:Operand)
 (ho:o.op=.call { callee:=.builtin .append,args:=#[s,x],argTypes:=#[26,26] }) (base:Nat)
 (v:Value) (hs:a.eval s=v) (Z9:w.ownsRow base 28 1 v 0 [])
 (W0:World) (WB:Bw W0 w) (u:Value) (l:List Cla) (hx:a.eval x=u) (hl:WQ W0 u l) (hn:l.length<=10000) (Yv:base<=w.heap.size)
 (h:∀v' w' cells,CRel W0 cells l->w'.ownsRow base 28 1 v' cells.length cells->w.grownBy w' v.ownBlock->wpList prog ops Q rest (a.put o.dst v') w'):wpList prog ops Q (o :: rest) a w:=by
 obtain⟨i0,hi,Ze,Y_,Zb⟩:=info_parts r9;obtain⟨q,c,rfl,hm,hc⟩:=hl;cases q with
 | none =>
   have Xm:l=[]:=by
    cases l with
    | nil=>rfl
    | cons z r=>obtain⟨b,off,_,hq,_⟩:=hc 0 z rfl;cases hq
   subst Xm;refine wpList_plain SH λK hK=>?_
   have hr:=zLn w o.type base 0 c v _ Z9;unfold Oper.wp execOp;simp only[ho,resolve,invoke,builtin,Sem.run_bind,Sem.run_pure,Result.andThen_ok,Qu,VH,T9,hs,hx,Tw,hr];exact hK _ _ (h v w [] (CRel.nil _) Z9 ⟨rfl,rfl,rfl,Z2 _,λ_ _ _=>rfl⟩)
 | some ad =>
   have Y9:∀(i:Nat) (t:Cla),l[i]? = some t->∃y,w.cell? (ad.add i)=some y/\LArg W0 y t:=λi t ht=>by
    obtain⟨b,off,y,hq,h0,h1,h2⟩:=hc i t ht;cases hq
    exact⟨y,by rw[L7];exact (WB.cell (p:=⟨b,off+i,none⟩) h0).trans h1,h2⟩
   let news:List Value:=(List.range l.length).map λi=>(w.cell? (ad.add i)).getD (.slice none 0 0)
   have TV:news.length=l.length:=by simp[news]
   have jd:∀(i:Nat) (t:Cla),l[i]? = some t->∃y,news[i]? = some y/\w.cell? (ad.add i)=some y/\LArg W0 y t:=λi t ht=>by
    obtain⟨y,h1,h2⟩:=Y9 i t ht;have hi:=(ZN.1 ht).1;exact⟨y,by simp only[news,YN,Qy hi,Nx,h1,RQ],h1,h2⟩
   have IU:∀(i:Nat) (y:Value),news[i]? = some y->w.cell? (ad.add i)=some y/\y.oneCell'=true:=λi y hy=>by
    have hi:i<l.length:=by rw[<-TV];exact (ZN.1 hy).1
    obtain⟨z,h1,h2,h3⟩:=jd i l[i] (by simp[hi])
    rw[hy] at h1;cases h1
    exact⟨h2,zU5 h3⟩
   refine wpList_append_own w SH s x 26 ho base 28 i0 (.slice none 0 0) 1 24 yp hi Ze Y_ Zb rfl (by decide) v 0 [] hs Z9 ad l.length c news hx (by rw[TV,Nat.mul_one]) (λj y hy=>(IU j y hy).1) (λy hy=>?_) (by unfold maxLen;omega) (by omega) Yv ?_
   ·obtain⟨i,hi⟩:=Wm.1 hy
    exact (IU i y hi).2
   intro v' w' h1 h2 h3;refine h v' w' news ⟨TV,λi t ht=>?_⟩ ?_ h2
   ·obtain⟨y,g1,_,g3⟩:=jd i t ht
    exact⟨y,g1,g3⟩
   rw[O2,Zn,<-TV] at h1;exact h1
theorem zRA (m:Mod) (A:List Nat) (l:List MStep) (k:Nat) (x:MStep) (h:l[k]? = some x):U2 m A (l.drop k)=(QS m A x&&U2 m (A++[zAH m.vars x.cla]) (l.drop (k+1))):=by
 have hk:=(ZN.1 h).1;have e:l[k]=x:=by rw[ZA hk] at h;exact Zl h
 rw[Yc hk,e];rfl
theorem zKH (m:Mod) (hm:Zs m=0) (given:List Cla) (hg:∀d∈given,claE m.vars d=0) (UM:given.length<=600) (l:List MStep) (zb:l.length<=6000) (hl:∀s∈l,claE m.vars s.cla=0) (hk:∀s∈l,s.kind=1->0<=s.con/\s.con<(m.cons.length:Int))
 (vs cs u v:Value) (w:World) (Y8:MArg w vs cs m) (hu:WQ w u given) (hv:Uc w v l) :
 Calls prog 11 #[modV vs cs m,u,v] w λe w'=>e=.returned (.bool (U2 m (given.map (zAH m.vars)) l))/\Bw w w':=by
 obtain⟨S1,ZS⟩:=lT m (Ym m.vars) hm (oV m.vars);have H6:=hI S1;have Wp:=hI ZS;have To:=hI hm;have Y3:=hI Y8;have HU:=hI hu;have HV:=hI hv;have HG:=hI hg;have HL:=hI hl;have HK:=hI hk;obtain⟨R,hR⟩:∃R,U2 m (given.map (zAH m.vars)) l=R:=⟨_,rfl⟩;have HR:Hid (U2 m ((given++(l.take 0).map (·.cla)).map (zAH m.vars)) (l.drop 0)=R):=by show _=_;simpa using hR
 rw[hR];obtain⟨⟨a,cap,rfl,_,_⟩,⟨a0,c0,rfl,_,_⟩⟩:=Y8;obtain⟨a1,c1,rfl,⟨Ql,Y0⟩,_⟩:=hv;obtain⟨a2,c2,rfl,⟨Qi,Wk⟩,_⟩:=hu;unfold maxLen at Y0 Wk;unfold modV;clear S1 ZS hm hg hl hk hR;go_enter func11,ntmps11
 have Zt:Hid (Bw w (w.alloc (.cells #[.slice a m.vars.length cap,.slice a0 m.cons.length c0,.int .i64 m.goal,.int .i64 m.var] 25))):=Z4 _ _;have HN:Hid ((w.alloc (.cells #[.slice a m.vars.length cap,.slice a0 m.cons.length c0,.int .i64 m.goal,.int .i64 m.var] 25)).heap[w.heap.size]? = some (.cells #[.slice a m.vars.length cap,.slice a0 m.cons.length c0,.int .i64 m.goal,.int .i64 m.var] 25)):=heap_alloc_new _ _;have Oo:Hid (((w.alloc (.cells #[.slice a m.vars.length cap,.slice a0 m.cons.length c0,.int .i64 m.goal,.int .i64 m.var] 25)).alloc (.cells #[] 28)).ownsRow (w.heap.size+1) 28 1 (.slice (some ⟨w.heap.size+1,0,none⟩) 0 0) 0 []):=by
  have h:=zU4 (w.alloc (.cells #[.slice a m.vars.length cap,.slice a0 m.cons.length c0,.int .i64 m.goal,.int .i64 m.var] 25)) 28;rw[show (w.alloc (.cells #[.slice a m.vars.length cap,.slice a0 m.cons.length c0,.int .i64 m.goal,.int .i64 m.var] 25)).heap.size=w.heap.size+1 by simp] at h
  exact h
 go_wp2_with (at_builtin;refine zHR rfl _ _ rfl (w.heap.size+1) _ rfl Oo.o (w.alloc (.cells #[.slice a m.vars.length cap,.slice a0 m.cons.length c0,.int .i64 m.goal,.int .i64 m.var] 25)) ?c1 _ given rfl ?c2 (by omega) ?c3 ?_)
 case c1=>exact Z4 _ _
 case c2=>exact WQ.below Zt.o HU.o
 case c3=>simp
 intro v3 w3 cells0 Wj ZX Z1;have ZM:Hid (Below (w.alloc (.cells #[.slice a m.vars.length cap,.slice a0 m.cons.length c0,.int .i64 m.goal,.int .i64 m.var] 25)).heap.size (w.alloc (.cells #[.slice a m.vars.length cap,.slice a0 m.cons.length c0,.int .i64 m.goal,.int .i64 m.var] 25)) w3):=(Z4 _ _).grown Z1 (by simp) (λg h=>by have:=(Oo.o.lt g h).1;simpa using this)
 have Kn:Hid ((w.alloc (.cells #[.slice a m.vars.length cap,.slice a0 m.cons.length c0,.int .i64 m.goal,.int .i64 m.var] 25)).heap.size=w.heap.size+1):=by show _=_;simp
 obtain⟨W,hW⟩:∃W,w.alloc (.cells #[.slice a m.vars.length cap,.slice a0 m.cons.length c0,.int .i64 m.goal,.int .i64 m.var] 25)=W:=⟨_,rfl⟩;rw[hW] at Zt HN ZM Kn Wj;clear hW Oo Z1;have yo:Hid (CRel W cells0 (given++(l.take 0).map (·.cla))):=by show CRel _ _ _;simpa using Wj
 have WL:Hid (w3.ownsRow W.heap.size 28 1 v3 cells0.length cells0):=by show World.ownsRow _ _ _ _ _ _ _;rw[Kn.o];exact ZX
 clear Wj ZX
 replace Y3:Hid (MArg W (.slice a m.vars.length cap) (.slice a0 m.cons.length c0) m):=MArg.below Zt.o Y3.o
 replace HV:Hid (Uc W (.slice a1 l.length c1) l):=Uc.below Zt.o HV.o
 have HQ:Hid (∀Y,Bw W Y->w.heap.size<Y.heap.size/\Y.cell? ⟨w.heap.size,0,none⟩=some (.slice a m.vars.length cap)/\Y.cell? ⟨w.heap.size,1,none⟩=some (.slice a0 m.cons.length c0)/\Y.cell? ⟨w.heap.size,2,none⟩=some (.int .i64 m.goal)/\Y.cell? ⟨w.heap.size,3,none⟩=some (.int .i64 m.var)):=λY hY=>by
  have h:=(hY.block _ (Z8.1 HN.o).1).trans HN.o;exact⟨(Z8.1 h).1,Z_ h 0 _ rfl,Z_ h 1 _ rfl,Z_ h 2 _ rfl,Z_ h 3 _ rfl⟩
 have UG:Hid (∀Y,Bw W Y->Bw w Y):=λY hY=>Zt.o.trans (hY.mono Zt.o.size)
 clear HN HU;go_wp2_with fail
 go_loopw [7,8,9,10] (λo i _ _ wr=>∃(k:Nat) (cells:List Value),k<=l.length/\i=.int .i64 k/\wr.ownsRow W.heap.size 28 1 o cells.length cells/\Hid (CRel W cells (given++(l.take k).map (·.cla)))/\Hid (U2 m ((given++(l.take k).map (·.cla)).map (zAH m.vars)) (l.drop k)=R)/\Bw W wr) (λ_ i _ _ _=>l.length - (intOf i).toNat)
 case atStart=>exact⟨0,cells0,by omega,rfl,WL.o,yo,HR,ZM.o⟩
 obtain⟨k,cells,hk,rfl,Z9,Wj,ZZ,Z3⟩:=hrel;have Yo:=hI Z9;have KA:=hI Wj
 have Yx:=hI ZZ
 have ZW:=hI Z3;obtain⟨an,cn,rfl⟩:=ZJ Z9;have XD:cells.length=given.length+k:=by
  have:=Wj.o.1;rw[this];simp;omega
 have hcl6:cells.length<=6600:=by omega
 clear XD Z9 Wj ZZ Z3;by_cases Z7:k<l.length
 ·obtain⟨x,hx⟩:∃x,l[k]? = some x:=⟨l[k],by simp[Z7]⟩
  have jc:Hid (claE m.vars x.cla=0):=HL.o x (Zz hx);have HXK:Hid (x.kind=1->0<=x.con/\x.con<(m.cons.length:Int)):=HK.o x (Zz hx);have WR:Hid ((QS m ((given++(l.take k).map (·.cla)).map (zAH m.vars)) x&&U2 m ((given++(l.take (k+1)).map (·.cla)).map (zAH m.vars)) (l.drop (k+1)))=R):=by
   show _=_;rw[<-Yx.o,zRA m _ l k x hx,Y1,hx];simp
  obtain⟨_,_,WT,_,Yq⟩:=HV.o;cases WT
  obtain⟨b,off,xv,hb,YF,h0,h1,h2,Pg⟩:=Yq k x hx;subst hb;have QN:=hI Pg;obtain⟨a5,c5,rfl,_,_⟩:=Pg;have g0:=(ZW.o.cell (p:=⟨b,off+k * 3,none⟩) YF).trans h0;have g1:=(ZW.o.cell (p:=⟨b,off+k * 3+1,none⟩) YF).trans h1;have g2:=(ZW.o.cell (p:=⟨b,off+k * 3+2,none⟩) YF).trans h2;have gl:=ZQ YF ZW.o.size;obtain⟨lC,q0,q1,q2,q3⟩:=HQ.o _ ZW.o;have HCN:Hid (CRel W (cells++[.slice a5 x.cla.length c5]) (given++(l.take (k+1)).map (·.cla))):=by
   show CRel _ _ _;rw[Y1,hx];simp only[Option.toList_some,YY,VH,T9];rw[<-SO];exact KA.o.snoc QN.o
  clear Yq hx h0 h1 h2 YF Yx;obtain⟨A,hA⟩:∃A,(given++(l.take k).map (·.cla))=A:=⟨_,rfl⟩
  have HA:Hid ((∀d∈A,claE m.vars d=0)):=λd hd=>by
   rw[<-hA] at hd;rcases Xn.1 hd with h | h
   ·exact HG.o d h
   obtain⟨s,hs,rfl⟩:=Zj.1 h;exact HL.o s (SR hs)
  rw[hA] at KA WR;clear hA;go_upto_region 6 with (fail)
  have Yp:Hid (Bw wr (wr.alloc (.cells #[.int .i64 x.kind,.int .i64 x.con,.slice a5 x.cla.length c5] 39))):=Z4 _ _;have L6:Hid ((wr.alloc (.cells #[.int .i64 x.kind,.int .i64 x.con,.slice a5 x.cla.length c5] 39)).heap[wr.heap.size]? = some (.cells #[.int .i64 x.kind,.int .i64 x.con,.slice a5 x.cla.length c5] 39)):=heap_alloc_new _ _;obtain⟨W4,jb⟩:∃W4,wr.alloc (.cells #[.int .i64 x.kind,.int .i64 x.con,.slice a5 x.cla.length c5] 39)=W4:=⟨_,rfl⟩;rw[jb] at Yp L6 ⊢;clear jb g0 g1 g2 gl lC q0 q1 q2 q3;have Q3:Hid (Bw W W4):=ZW.o.trans (Yp.o.mono ZW.o.size);have BA:Hid (W4.ownsRow W.heap.size 28 1 (.slice an cells.length cn) cells.length cells):=YZ Yo.o Yp.o;obtain⟨S,hS⟩:∃S,wr.heap.size=S:=⟨_,rfl⟩;rw[hS] at L6 ⊢;have X9:Hid (S<W4.heap.size):=(Z8.1 L6.o).1;clear hS Yp;have Vc:Hid (∀Y,Bw W4 Y->S<Y.heap.size/\Y.cell? ⟨S,0,none⟩=some (.int .i64 x.kind)/\Y.cell? ⟨S,1,none⟩=some (.int .i64 x.con)/\Y.cell? ⟨S,2,none⟩=some (.slice a5 x.cla.length c5)):=λY hY=>by
   have h:=(hY.block _ X9.o).trans L6.o;exact⟨(Z8.1 h).1,Z_ h 0 _ rfl,Z_ h 1 _ rfl,Z_ h 2 _ rfl⟩
  obtain⟨lC,q0,q1,q2,q3⟩:=HQ.o _ Q3.o;obtain⟨lS,s0,s1,s2⟩:=Vc.o _ (Z6 _ _);obtain⟨G,hG⟩:∃G,QS m (A.map (zAH m.vars)) x=G:=⟨_,rfl⟩;have yn:=hI hG;rw[hG] at WR;clear hG;go_cut [10] (λbv wx=>Hid (bv=.bool G/\Bw W4 wx))
  case first =>
   by_cases X6:x.kind=1
   ·obtain⟨XN,X'⟩:=HXK.o X6
    obtain⟨j,hj⟩:∃j:Nat,x.con=(j:Int):=⟨x.con.toNat,by omega⟩
    have OW:j<m.cons.length:=by omega
    obtain⟨kk,YD⟩:∃kk,m.cons[j]? = some kk:=⟨m.cons[j],by simp[OW]⟩
    have W_:=hI YD;have F2:Hid (TI m.vars (XB m.vars kk) (zAH m.vars x.cla)=G):=by
     show _=_;rw[<-yn.o];unfold QS;rw[if_pos X6,hj,YK,ZO,YD];rfl
    have t1:(x.kind==1)=true:=by simpa using X6
    have t2:(x.kind==2)=false:=by rw[X6];rfl
    rw[hj] at s1;clear X6 XN X' hj YD;go_wp2_with fail
    refine (zOm m To.o j kk W_.o x.cla _ _ _ W4 (MArg.below Q3.o Y3.o) (LArg.below Q3.o QN.o)).mono ?_;rintro e w5 ⟨rfl,Yd⟩;rw[F2.o];have Xx:=hI Yd;obtain⟨lS5,r0,r1,r2⟩:=Vc.o _ Yd;clear Yd s0 s1 s2;cases G
    ·go_wp2_with fail
     go_meet
     exact⟨rfl,Xx.o⟩
    go_wp2_with fail
    go_meet
    exact⟨rfl,Xx.o⟩
   have t1:(x.kind==1)=false:=by simpa using X6
   by_cases WY:x.kind=2
   ·have t2:(x.kind==2)=true:=by simpa using WY
    by_cases hc:x.con=0
    ·have t3:(x.con==0)=true:=by simpa using hc
     have F2:Hid (N9 m.vars (A.map (zAH m.vars)) (zAH m.vars x.cla)=G):=by
      show _=_;rw[<-yn.o];unfold QS;rw[if_neg X6,if_pos ⟨WY,hc⟩]
     have r8:Hid (∀d∈A,d.length<=40):=λd hd=>by
      have h:=HA.o d hd;unfold claE at h;by_cases P1:40<d.length
      ·rw[if_pos P1] at h;cases h
      omega
     have ja:Hid (∀d∈A,∀y∈d,0<=y.var/\y.var<(m.vars.length:Int)):=λd hd=>cF m d (HA.o d hd)
     clear X6 WY hc;go_wp2_with fail
     refine (zM3 m To.o A r8.o ja.o x.cla _ _ _ _ W4 H6.o Wp.o (MArg.below Q3.o Y3.o) (KA.o.arg BA.o Q3.o) (LArg.below Q3.o QN.o)).mono ?_;rintro e w5 ⟨T,rfl,hT,Yd⟩;have HTG:Hid (zAI T=G):=by
      show _=_;rw[<-F2.o];exact zOZ m.vars (Py m To.o) (RH m To.o).1 A ja.o x.cla T hT
     rw[HTG.o];have Xx:=hI Yd;clear Yd hT;cases G
     ·go_wp2_with fail
      go_meet
      exact⟨rfl,Xx.o⟩
     go_wp2_with fail
     go_meet
     exact⟨rfl,Xx.o⟩
    have t3:(x.con==0)=false:=by simpa using hc
    have F2:Hid (G=false):=by
     show _=_;rw[<-yn.o];unfold QS;rw[if_neg X6,if_neg (λh=>hc h.2)]
    clear X6 WY hc;go_wp2_with fail
    go_meet
    exact⟨by rw[F2.o],Z6 _ _⟩
   have t2:(x.kind==2)=false:=by simpa using WY
   have F2:Hid (G=false):=by
    show _=_;rw[<-yn.o];unfold QS;rw[if_neg X6,if_neg (λh=>WY h.1)]
   clear X6 WY;go_wp2_with fail
   go_meet
   exact⟨by rw[F2.o],Z6 _ _⟩
  obtain⟨rfl,UL⟩:=hcut.o;have U':=hI (Q3.o.trans (UL.mono Q3.o.size));have NU:Hid (wc.ownsRow W.heap.size 28 1 (.slice an cells.length cn) cells.length cells):=YZ BA.o UL;obtain⟨lS5,r0,r1,r2⟩:=Vc.o _ UL;clear hcut UL s0 s1 s2 lS q0 q1 q2 q3 lC;cases G
  ·have HE:Hid (R=false):=by show _=_;rw[<-WR.o];rfl
   go_wp2
   go_ret
   exact⟨by rw[HE.o];rfl,UG.o _ U'.o⟩
  have Xr:=NU.o;have Y':=U'.o.size;have XA:Hid (U2 m ((given++(l.take (k+1)).map (·.cla)).map (zAH m.vars)) (l.drop (k+1))=R):=by show _=_;rw[<-WR.o,Qq]
  go_wp2_with (at_builtin;refine je rfl _ _ rfl W.heap.size _ cells.length cells rfl (Xr.alloc _) wc.heap.size (.slice a5 x.cla.length c5) rfl rfl ?c1 ?c2 ?c3 ?_)
  case c1=>exact Zu _ _ _ 0 (by simp)
  case c2=>omega
  case c3=>simp;omega
  intro v6 w6 YS Z1;have Rh:Hid (w6.ownsRow W.heap.size 28 1 v6 (cells++[Value.slice a5 x.cla.length c5]).length (cells++[.slice a5 x.cla.length c5])):=by
   show World.ownsRow _ _ _ _ _ _ _;rw[ZC];exact YS
  have Sd:Hid (Bw W w6):=(U'.o.alloc U'.o.size _).grown Z1 (by simp;omega) (λg h=>(Xr.lt g h).1)
  clear YS Z1 Xr;go_wp2
  go_roundw
  case rel=>exact⟨k+1,_,by omega,by go_num,Rh.o,HCN,XA,Sd.o⟩
  case measure=>simp[intOf];omega
 have HE:Hid (R=true):=by
  show _=_;rw[<-Yx.o,QA (by omega)];rfl
 go_wp2
 go_ret
 exact⟨by rw[HE.o];rfl,UG.o _ ZW.o⟩
def PT (N bm bp ba:Nat) (m:Mod) (vs cs pv:Value) (ahead:List Nat) (w:World):Prop :=
 (N<=ba/\N<=w.heap.size) /\
 Old N w (λu=>MArg u vs cs m/\zGg u pv (m.cons.map (XB m.vars))/\u.cell? ⟨bm,0,none⟩=some vs/\u.cell? ⟨bp,0,none⟩=some pv/\TabT u) /\
 (∀z∈ahead,z<2 ^ 36) /\
 ∃av,w.ownsRow N 139 1 (.slice (some ⟨ba,0,none⟩) 1 1) 1 [av]/\w.ownsRow N 136 1 av ahead.length (u64s ahead)/\av.ownBlock≠some ba
section
variable {N bm bp ba:Nat} {m:Mod} {vs cs pv:Value} {ahead:List Nat} {w w':World}
theorem PT.below (h:PT N bm bp ba m vs cs pv ahead w) (hb:Bw w w'):PT N bm bp ba m vs cs pv ahead w':=by
 obtain⟨⟨h1,h2⟩,h3,h4,av,h5,h6,h7⟩:=h;exact⟨⟨h1,ZT h2 hb.size⟩,h3.below (hb.mono h2),h4,av,YZ h5 hb,YZ h6 hb,h7⟩
theorem PT.old (h:PT N bm bp ba m vs cs pv ahead w):MArg w vs cs m/\zGg w pv (m.cons.map (XB m.vars))/\w.cell? ⟨bm,0,none⟩=some vs/\w.cell? ⟨bp,0,none⟩=some pv/\TabT w/\bm<w.heap.size/\bp<w.heap.size:=by
 obtain⟨_,⟨w0,g0,⟨g1,g2,g3,g4,g5⟩,gb⟩,_⟩:=h;have l1:=World.block_lt_of_cell? w0 _ g3;have l2:=World.block_lt_of_cell? w0 _ g4;have hs:=gb.size;simp only at l1 l2;exact⟨MArg.below gb g1,zGg.below gb g2,(gb.cell (p:=⟨bm,0,none⟩) l1).trans g3,(gb.cell (p:=⟨bp,0,none⟩) l2).trans g4,g5.below gb,by omega,by omega⟩
theorem PT.put {z:Nat} {v3 av:Value} {w2:World} (h:PT N bm bp ba m vs cs pv ahead w) (hz:z<2 ^ 36) (ho:w.ownsRow N 139 1 (.slice (some ⟨ba,0,none⟩) 1 1) 1 [av]) (hr:w.ownsRow N 136 1 av ahead.length (u64s ahead)) (ZP:av.ownBlock≠some ba)
 (hw:w2.ownsRow N 136 1 v3 (ahead++[z]).length (u64s (ahead++[z]))) (hg:w.grownBy w2 av.ownBlock) :
 PT N bm bp ba m vs cs pv (ahead++[z]) (w2.setCell ⟨ba,0,none⟩ v3)/\Below N w (w2.setCell ⟨ba,0,none⟩ v3):=by
 obtain⟨⟨h1,h2⟩,h3,h4,_⟩:=h;have Z5:Below N w w2:=(Z6 _ _).grown hg h2 (λk hk=>(hr.lt k hk).1)
 have hb:Below N w (w2.setCell ⟨ba,0,none⟩ v3):=Z5.setCell h1 _;have hba:ba<w.heap.size:=(ho.lt ba rfl).2;have h6:w2.ownsRow N 139 1 (.slice (some ⟨ba,0,none⟩) 1 1) 1 [av]:=ho.kept hg (Or.inr λhe=>ZP he.symm)
 have OJ:v3.ownBlock≠some ba:=by
  intro he;rcases hw.2 with ⟨hq,_⟩ | ⟨g,cap,cur,hq,_,hh,_⟩
  ·rw[hq] at he;cases he
  rw[hq] at he;cases he
  rcases h6.2 with ⟨YA,_⟩ | ⟨g2,cap2,cur2,YA,_,GD,_⟩
  ·cases YA
  cases YA
  rw[hh] at GD
  injection GD with h9
  injection h9 with _ h8
  exact absurd h8 (by decide)
 refine⟨⟨⟨h1,ZT h2 hb.size⟩,h3.below hb,λy hy=>?_,v3,(h6.stored 0 v3).1,LT hw λg Db=>?_,OJ⟩,hb⟩
 ·rcases Xn.1 hy with h | h
  ·exact h4 y h
  rw[Zh.1 h];exact hz
 exact Below.heap_setCell _ _ _ _ (λh=>OJ (by rw[Db];exact congrArg some h))
end
theorem zTF (N bm bp ba:Nat) (m:Mod) (vs cs pv u:Value) (ahead:List Nat) (s:MStep) (w:World) (hm:Zs m=0) (hT:PT N bm bp ba m vs cs pv ahead w) (hu:LArg w u s.cla) (hk:s.kind=1->0<=s.con/\s.con<(m.cons.length:Int)) (SC:ahead.length<=100000) :
 Calls prog 139 #[.agg #[.int .i64 s.kind,.int .i64 s.con,u],.pointer (some ⟨bm,0,none⟩),.pointer (some ⟨bp,0,none⟩),.pointer (some ⟨ba,0,none⟩)] w λe w'=>e=.returned (.bool (QS m ahead s)) /\
  PT N bm bp ba m vs cs pv (ahead++[zAH m.vars s.cla]) w'/\Below N w w':=by
 have HM:=hI hm;have HK:=hI hk;have HN:=hI hT.1.2;obtain⟨Y8,i_,d0,d1,OQ,lm,lp⟩:=hT.old;have Y3:Hid (∀w',Bw w w'->MArg w' vs cs m):=λw' h=>MArg.below h Y8
 have ym:Hid (∀w',Bw w w'->zGg w' pv (m.cons.map (XB m.vars))):=λw' h=>zGg.below h i_
 have HTB:Hid (∀w',Bw w w'->TabT w'):=λw' h=>OQ.below h
 have HU:Hid (∀w',Bw w w'->LArg w' u s.cla):=λw' h=>LArg.below h hu
 have HT:Hid (∀w',Bw w w'->PT N bm bp ba m vs cs pv ahead w'):=λw' h=>hT.below h
 obtain⟨⟨a1,c1,rfl,_,_⟩,⟨a2,c2,rfl,_,_⟩⟩:=Y8;obtain⟨a3,c3,rfl,_,_⟩:=hu;obtain⟨a4,c4,Cv,hm4,_⟩:=i_;rw[YU] at Cv hm4;unfold maxLen at hm4;obtain⟨OY,hm4⟩:=hm4;subst Cv;obtain⟨i0,hi,Ze,Y_,Zb⟩:=info_parts Da;obtain⟨h,hh⟩:∃h,zAH m.vars s.cla=h:=⟨_,rfl⟩;have HH:=hI hh;have VC:Hid (h<2 ^ 36):=by rw[<-hh];exact lI m hm s.cla
 obtain⟨R,hR⟩:∃R,QS m ahead s=R:=⟨_,rfl⟩;have HR:Hid (R=if s.kind=1 then TI m.vars (XB m.vars (m.cons.getD s.con.toNat Ao)) h else if s.kind=2/\s.con=0 then N9 m.vars ahead h else false):=by show _=_;rw[<-hR,<-hh];rfl
 rw[hR,hh];clear hT hm hk OQ hh hR;go_enter func139,ntmps139
 go_wp2_with fail
 refine (Jp m.vars (LZ m HM.o) s.cla _ _ _ (Y3.o _ (Z4 _ _)).1 (HU.o _ (Z4 _ _))).mono ?_;rintro e w1 ⟨rfl,Z5⟩;rw[HH.o];have ZU:Hid (Bw w w1):=(Z4 _ _).trans (Z5.mono (by simp))
 have l1:w.heap.size<w1.heap.size:=by have:=Z5.size;simp at this;omega
 have k0:w1.cell? ⟨w.heap.size,0,none⟩=some (.int .i64 s.kind):=(Z5.cell (by simp)).trans (Zu _ _ _ 0 (by simp))
 have k1:w1.cell? ⟨w.heap.size,1,none⟩=some (.int .i64 s.con):=(Z5.cell (by simp)).trans (Zu _ _ _ 1 (by simp))
 have d0':=(ZU.o.cell (p:=⟨bm,0,none⟩) lm).trans d0;have d1':=(ZU.o.cell (p:=⟨bp,0,none⟩) lp).trans d1;have lm1:bm<w1.heap.size:=by omega
 have lp1:bp<w1.heap.size:=by omega
 clear Z5 d0 d1 lm lp;go_upto_block 0 with (fail)
 go_cut [7] (λv wx=>v=.bool R/\Hid (Bw w1 wx))
 case first =>
  have ZK:Hid (w1.heap.size=w1.heap.size):=rfl;by_cases X6:s.kind=1
  ·obtain⟨US,XH⟩:=HK.o X6
   obtain⟨j,hj⟩:∃j:Nat,s.con=(j:Int):=⟨s.con.toNat,by omega⟩
   have OW:j<m.cons.length:=by omega
   obtain⟨k,YD⟩:∃k,m.cons[j]? = some k:=⟨m.cons[j],by simp[OW]⟩
   have VZ:Hid (R=TI m.vars (XB m.vars k) h):=by
    show _=_;rw[HR.o,if_pos X6,hj,YK,ZO,YD];rfl
   rw[hj] at k1;have g1:(s.kind==1)=true:=by simpa using X6
   obtain⟨a',c',UC,_,Uz⟩:=ym.o w1 ZU.o;obtain⟨b4,o4,x,Wv,Zd,tW,CS⟩:=Uz j (XB m.vars k) (by rw[YN,YD];rfl)
   have GZ:a4=some ⟨b4,o4,none⟩:=by injection UC with e1;exact e1.trans Wv
   clear UC Uz Wv;subst GZ;have G5:Hid (∀Y,Bw w1 Y->PArg Y x (XB m.vars k)):=λY hY=>PArg.below hY CS
   obtain⟨ax,cx,rfl,_,_⟩:=CS;have QL:Hid (∀Y,Bw w1 Y->Calls prog 119 #[.slice a1 m.vars.length c1,.slice ax (XB m.vars k).length cx,.int .u64 (h:Int)] Y λe w'=>e=.returned (.bool (TI m.vars (XB m.vars k) h))/\Bw Y w'):=λY hY =>
    n8 m.vars (LZ m HM.o) _ _ VC.o _ _ Y (Y3.o _ (ZU.o.trans (hY.mono ZU.o.size))).1 (G5.o _ hY)
   clear X6 YD hj US XH HR;go_wp2_with fail
   go_region_held3 (λw'=>Bw w1 w'/\w'.cell? ⟨bm,0,none⟩=some (.slice a1 m.vars.length c1)/\w'.cell? ⟨bp,0,none⟩=some (.slice (some ⟨b4,o4,none⟩) m.cons.length c4)/\w'.cell? ⟨w.heap.size,1,none⟩=some (.int .i64 (j:Int))/\w'.cell? ⟨b4,o4+j,none⟩=some (.slice ax (XB m.vars k).length cx))
    ((refine (λ(hB:Bw w1 _)=>⟨hB,(hB.cell (p:=⟨bm,0,none⟩) lm1).trans d0',(hB.cell (p:=⟨bp,0,none⟩) lp1).trans d1',(hB.cell (p:=⟨w.heap.size,1,none⟩) l1).trans k1,(hB.cell (p:=⟨b4,o4+j,none⟩) Zd).trans tW⟩:Bw w1 _->_) ?_;first | exact (Z6 _ _).drew | exact N7 (by assumption) Yu))
    (first
      | (go_at_call 119;refine (QL.o _ (show Bw w1 _/\_ by assumption).1).mono ?_;rintro e w5 ⟨rfl,Yu⟩;have hB5:=N7 (by assumption) Yu))
   have Xx:=hI hB5;go_wp2_with fail
   go_meet
   exact⟨by rw[VZ.o],Xx⟩
  have g1:(s.kind==1)=false:=by simpa using X6
  by_cases WY:s.kind=2/\s.con=0
  ·have VZ:Hid (R=N9 m.vars ahead h):=by show _=_;rw[HR.o,if_neg X6,if_pos WY]
   have g2:(s.kind==2)=true:=by simpa using WY.1
   have g3:(s.con==0)=true:=by simpa using WY.2
   obtain⟨⟨hNb,i'⟩,_,Pv,av,ho,hr,ZP⟩:=HT.o w1 ZU.o;have He:Hid (PArg w1 av ahead):=EQ hr Pv;obtain⟨aa,ca,rfl⟩:=ZJ hr;have i8:w1.cell? ⟨ba,0,none⟩=some (.slice aa ahead.length ca):=ho.cellAt 0 (by omega)
   have lba:ba<w1.heap.size:=(ho.lt ba rfl).2;clear X6 WY HR ho hr ZP Pv;go_wp2_with fail
   refine (n9 m.vars (LZ m HM.o) (RH m HM.o).1 ahead h VC.o _ _ _ (Y3.o _ ZU.o).1 He.o (HTB.o _ ZU.o)).mono ?_;rintro e w5 ⟨rfl,Yd⟩;have Xx:=hI Yd;clear Yd;go_wp2_with fail
   go_meet
   exact⟨by rw[VZ.o],Xx⟩
  have VZ:Hid (R=false):=by show _=_;rw[HR.o,if_neg X6,if_neg WY]
  by_cases SK:s.kind=2
  ·have g2:(s.kind==2)=true:=by simpa using SK
   have g3:(s.con==0)=false:=by
    have:s.con≠0:=λh0=>WY ⟨SK,h0⟩
    simpa using this
   clear X6 WY SK HR;go_wp2_with fail
   go_meet
   exact⟨by rw[VZ.o],Z6 _ _⟩
  have g2:(s.kind==2)=false:=by simpa using SK
  clear X6 WY SK HR;go_wp2_with fail
  go_meet
  exact⟨by rw[VZ.o],Z6 _ _⟩
 obtain⟨hv,UL⟩:=hcut;subst hv;have U':Hid (Bw w wc):=ZU.o.trans (UL.o.mono ZU.o.size);have CI:Hid (PT N bm bp ba m (.slice a1 m.vars.length c1) (.slice a2 m.cons.length c2) (.slice a4 m.cons.length c4) ahead wc):=HT.o wc U'.o;obtain⟨⟨hNb,i'⟩,_,_,av,ho,hr,ZP⟩:=CI.o;obtain⟨aa,ca,rfl⟩:=ZJ hr;have i8:wc.cell? ⟨ba,0,none⟩=some (.slice aa ahead.length ca):=ho.cellAt 0 (by omega)
 have lba:ba<wc.heap.size:=(ho.lt ba rfl).2;clear d0' d1' k0 k1 l1 lm1 lp1;go_wp2_with (at_builtin;refine wpList_append_own _ rfl _ _ 139 rfl N 136 i0 (.int .u64 0) 1 8 underlying139 hi Ze Y_ Zb rfl (by decide) _ _ _ rfl (hr.alloc _) ⟨wc.heap.size,0,none⟩ 1 1 [.int .u64 (h:Int)] rfl rfl ?c1 ?c2 ?c3 ?c4 ?c5 ?_)
 case c1=>exact nO wc h
 case c2=>intro u hu;rcases Zh.1 hu with rfl;rfl
 case c3=>unfold maxLen;omega
 case c4=>omega
 case c5=>simp;omega
 intro v3 w3 ZX Z1 _;have Zw:w3.ownsRow N 136 1 v3 (ahead++[h]).length (u64s (ahead++[h])):=by
  unfold u64s;rw[ZC,YY];exact ZX
 have SA:=(CI.o.below (Z4 _ _)).put VC.o (ho.alloc _) (hr.alloc _) ZP Zw Z1;have HP:=hI SA.1;have Yp:Hid (Below N w (w3.setCell ⟨ba,0,none⟩ v3)):=(U'.o.mono HN.o).trans (((Z6 _ _).alloc i' _).trans SA.2);have LQ:w3.ownsRow N 139 1 (.slice (some ⟨ba,0,none⟩) 1 1) 1 [.slice aa ahead.length ca]:=(ho.alloc _).kept Z1 (Or.inr (λh=>ZP h.symm))
 have nM:w3.cell? ⟨ba,0,none⟩=some (.slice aa ahead.length ca):=LQ.cellAt 0 (by omega)
 have nL:w3.frozen? ⟨ba,0,none⟩=false:=LQ.frozenAt 0;obtain⟨av',cv',rfl⟩:=ZJ Zw;rw[show (ahead++[h]).length=ahead.length+1 by simp] at HP Yp
 clear ZX Z1 Zw hr ho i8 LQ SA ZP;go_wp2
 go_ret
 exact⟨rfl,HP.o,Yp.o⟩
end Go.Proofs.YtndcpnlaadikoaaGreatDoor
