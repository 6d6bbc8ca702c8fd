/- What the proof leans on, part 20. -/
import Derived.Test.YtndcpnlaadikoaaGreatDoorPartAs
import Derived.Deep.DeepCutAuto
set_option maxRecDepth 100000
set_option maxHeartbeats 6400000
open Go.Proofs.Tryz
namespace Go.Proofs.YtndcpnlaadikoaaGreatDoor
open Go.RowKit
theorem lR {w:World} {b1 b2 s1 s2 n1 n2:Nat} {t1 t2:TypeId} {x v:Value} {xs ys:List Value} (h1:w.ownsRow b1 t1 s1 x n1 xs) (h2:w.ownsRow b2 t2 s2 v n2 ys) (ht:t1≠t2):x.ownBlock=none∨x.ownBlock≠v.ownBlock:=by
 rcases h1.2 with ⟨rfl,_⟩ | ⟨g,cap,cur,rfl,_,hh,_⟩
 ·exact Or.inl rfl
 rcases h2.2 with ⟨rfl,_⟩ | ⟨g2,cap2,cur2,rfl,_,GD,_⟩
 ·exact Or.inr (λh=>by cases h)
 refine Or.inr λh=>?_
 have hg:g=g2:=by injection h
 subst hg;rw[hh] at GD
 injection GD with h9
 injection h9 with _ h8
 exact ht h8
def NV (N:Nat) (v:Value) (cells:List Value) (M:Sto) (k:Nat) (w:World):Prop :=
 w.ownsRow N 42 1 v k cells/\∀j r,j<k->M[j]? = some r->∃x,cells[j]? = some x/\w.ownsRow N 3 1 x r.length (r.map (Value.int .i64))
theorem NV.below {N k:Nat} {v:Value} {cells:List Value} {M:Sto} {w w':World} (h:NV N v cells M k w) (hb:Bw w w'):NV N v cells M k w':=by
 refine⟨YZ h.1 hb,λj r hj hr=>?_⟩
 obtain⟨x,h1,h2⟩:=h.2 j r hj hr;exact⟨x,h1,YZ h2 hb⟩
theorem NV.push {N k:Nat} {v v' x:Value} {cells:List Value} {M:Sto} {r:List Int} {w w':World} (h:NV N v cells M k w) (hr:M[k]? = some r) (hx:w.ownsRow N 3 1 x r.length (r.map (Value.int .i64))) (hw:w'.ownsRow N 42 1 v' (k+1) (cells++[x])) (hg:w.grownBy w' v.ownBlock):NV N v' (cells++[x]) M (k+1) w':=by
 have Zr:cells.length=k:=by have:=h.1.1;omega
 have keep:∀{y:Value} {q:List Int},w.ownsRow N 3 1 y q.length (q.map (Value.int .i64))->w'.ownsRow N 3 1 y q.length (q.map (Value.int .i64)):=λhy=>hy.kept hg (lR hy h.1 (by decide))
 refine⟨hw,λj q hj hq=>?_⟩
 by_cases T1:j=k
 ·subst T1
  rw[hr] at hq;cases hq
  exact⟨x,by rw[V9 (by omega),Zr];simp,keep hx⟩
 obtain⟨y,h1,h2⟩:=h.2 j q (by omega) hq
 exact⟨y,by rw[V8 (by omega)];exact h1,keep h2⟩
theorem NV.arg {N:Nat} {v:Value} {cells:List Value} {M:Sto} {w:World} (h:NV N v cells M M.length w):RArg w v M:=by
 rcases h.1.2 with ⟨rfl,hn⟩ | ⟨g,cap,cur,rfl,hg,hh,X',Yb,_,_⟩
 ·have:M=[]:=Xf hn
  subst this;exact⟨none,0,rfl,⟨Z2 _,YI _⟩,λi z hz=>by simp at hz⟩
 refine⟨_,cap,rfl,⟨X',Yb⟩,λi r hr=>?_⟩
 have hi:i<M.length:=(ZN.1 hr).1;obtain⟨x,h1,h2⟩:=h.2 i r hi hr;exact⟨g,0,x,rfl,(Z8.1 hh).1,by rw[Zn,h.1.cellAt i (by omega)];exact h1,JA h2⟩
theorem lQ:(prog.info? 42).map (λi=>(i.zero,i.size,i.bytes))=some (some (.slice none 0 0),1,24):=by kernel_rfl
theorem yAt:prog.underlying 153=some (.slice 42):=by kernel_rfl
theorem Et {w:World} {ops:Array Oper} {rest:List Oper} {o:Oper} {a:Act} {Q:Exit->Act->World->Prop} (SH:o.guard=none) (s x:Operand)
 (ho:o.op=.call { callee:=.builtin .append,args:=#[s,x],argTypes:=#[153,153] }) (base:Nat)
 (v:Value) (k:Nat) (cells:List Value) (hs:a.eval s=v) (Z9:w.ownsRow base 42 1 v k cells)
 (g:Nat) (y:Value) (hy:y.oneCell'=true) (hx:a.eval x=.slice (some ⟨g,0,none⟩) 1 1) (hc:w.cell? ⟨g,0,none⟩=some y) (hk:k<=1000) (Yv:base<=w.heap.size)
 (h:∀v' w',w'.ownsRow base 42 1 v' (k+1) (cells++[y])->w.grownBy w' v.ownBlock->wpList prog ops Q rest (a.put o.dst v') w'):wpList prog ops Q (o :: rest) a w:=by
 obtain⟨i1,zg,GB,Km,I4⟩:=info_parts lQ;refine wpList_append_own w SH s x 153 ho base 42 i1 (.slice none 0 0) 1 24 yAt zg GB Km I4 rfl (by decide) v k cells hs Z9 ⟨g,0,none⟩ 1 1 [y] hx rfl ?_ ?_ (by unfold maxLen;omega) (by omega) Yv ?_
 ·intro j u hj
  match j,hj with
  | 0,hj=>simp at hj;subst hj;rw[L7];exact hc
 ·intro u hu
  rcases Zh.1 hu with rfl
  exact hy
 intro v' w' h1 h2 _;exact h v' w' h1 h2
theorem lP (m:Mod) (hm:Zs m=0) (vs cs:Value) (w:World) (Y8:MArg w vs cs m) :
 Calls prog 96 #[modV vs cs m] w λe w'=>∃x,e=.returned x/\RArg w' x (Ym m.vars)/\Bw w w':=by
 have Ww:Hid (Vb m.vars):=LZ m hm;have h6:m.vars.length<=6:=(RH m hm).2.1;obtain⟨⟨a1,c1,rfl,WS,VR⟩,⟨a2,c2,rfl,_,_⟩⟩:=Y8;have R9:=hI VR
 unfold maxLen at WS;obtain⟨K5,WS⟩:=WS;obtain⟨i0,hi,Ze,Y_,Zb⟩:=info_parts Hl;obtain⟨i1,zg,GB,Km,I4⟩:=info_parts lQ;have GA:Hid ((Ym m.vars).length=m.vars.length):=by show _=_;simp[Ym]
 unfold modV;clear VR hm;go_enter func96,ntmps96
 go_wp2_with fail
 have Zt:Hid (Bw w (w.alloc (.cells #[.slice a1 m.vars.length c1,.slice a2 m.cons.length c2,.int .i64 m.goal,.int .i64 m.var] 25))):=Z4 _ _;have I3:Hid ((w.alloc (.cells #[.slice a1 m.vars.length c1,.slice a2 m.cons.length c2,.int .i64 m.goal,.int .i64 m.var] 25)).cell? ⟨w.heap.size,0,none⟩=some (.slice a1 m.vars.length c1)):=Zu _ _ _ 0 (by simp)
 have zf:Hid ((w.alloc (.cells #[.slice a1 m.vars.length c1,.slice a2 m.cons.length c2,.int .i64 m.goal,.int .i64 m.var] 25)).heap.size=w.heap.size+1):=by show _=_;simp
 obtain⟨W,hW⟩:∃W,w.alloc (.cells #[.slice a1 m.vars.length c1,.slice a2 m.cons.length c2,.int .i64 m.goal,.int .i64 m.var] 25)=W:=⟨_,rfl⟩;rw[hW] at Zt I3 zf ⊢;clear hW;go_loopw [3,4] (λo i wr=>∃(k:Nat) (cells:List Value),k<=m.vars.length/\i=.int .i64 k/\NV W.heap.size o cells (Ym m.vars) k wr/\Bw W wr) (λ_ i _=>m.vars.length - (intOf i).toNat)
 case atStart=>exact⟨0,[],by omega,rfl,⟨ZH _ _ _ _,λj r hj=>by omega⟩,Z6 _ _⟩
 obtain⟨k,cells,hk,rfl,ZS,Z3⟩:=hrel;have WM:=hI ZS;have ZW:=hI Z3;have Y7:=hI (Zt.o.trans (Z3.mono Zt.o.size));have k0:=(Z3.cell (p:=⟨w.heap.size,0,none⟩) (by rw[zf.o];simp)).trans I3.o
 obtain⟨ao,co,rfl⟩:=ZJ ZS.1;clear ZS Z3;by_cases Z7:k<m.vars.length
 ·obtain⟨t,ht⟩:∃t,m.vars[k]? = some t:=⟨m.vars[k],by simp[Z7]⟩
  have Cr:Hid ((Ym m.vars)[k]? = some (NW t.lo (t.hi+1 - t.lo).toNat)):=by show _=_;unfold Ym;rw[YN,ht];rfl
  have MO:ZF m.vars k=t:=by unfold ZF;rw[ZO,ht];rfl
  have Ug:=Ww.o.2 k Z7;have Y':=Ww.o.1.2 k;unfold WN at Y';rw[MO] at Ug Y';obtain⟨_,b,off,Wv,hb,e0,e1,e2⟩:=R9.o k t ht;subst Wv;obtain⟨lo,YM⟩:∃lo,t.lo=lo:=⟨_,rfl⟩;obtain⟨hh,Wc⟩:∃hh,t.hi=hh:=⟨_,rfl⟩;rw[YM] at e1 Ug Y' Cr;rw[Wc] at e2 Ug Y' Cr;have f1:=(Y7.o.cell (p:=⟨b,off+k * 3+1,none⟩) hb).trans e1;have HF:Hid (∀Y,Bw wr Y->Y.cell? ⟨w.heap.size,0,none⟩=some (.slice (some ⟨b,off,none⟩) m.vars.length c1)/\Y.cell? ⟨b,off+k * 3+2,none⟩=some (.int .i64 hh)):=λY hY =>
   ⟨(hY.cell (p:=⟨w.heap.size,0,none⟩) (World.block_lt_of_cell? wr _ k0)).trans k0,(hY.cell (p:=⟨b,off+k * 3+2,none⟩) (ZQ hb Y7.o.size)).trans ((Y7.o.cell (p:=⟨b,off+k * 3+2,none⟩) hb).trans e2)⟩
  obtain⟨wo,I2⟩:∃wo:World,wo=wr:=⟨_,rfl⟩;clear ht e0 e1 e2 MO YM Wc;go_wp2_with fail
  rw[<-I2] at WM ZW Y7 HF ⊢;clear k0 f1 I2 hb;go_loopw [5,6] (λl n wx=>∃j:Nat,lo+(j:Int)<=hh+1/\n=.int .i64 (lo+(j:Int))/\wx.ownsRow wo.heap.size 3 1 l (NW lo j).length ((NW lo j).map (Value.int .i64))/\Bw wo wx) (λ_ n _=>(hh+1 - intOf n).toNat)
  case atStart=>exact⟨0,by omega,by simp,ZH _ _ _ _,Z6 _ _⟩
  obtain⟨j,hj,rfl,Z9,WV⟩:=hrel;have X2:=hI WV;obtain⟨k0,f2⟩:=HF.o _ WV;obtain⟨acc,YX⟩:∃acc,NW lo j=acc:=⟨_,rfl⟩;have OT:acc.length<=6:=by rw[<-YX,zSb];omega
  have Uk:=hI YX;rw[YX] at Z9;have Yo:=hI Z9;obtain⟨al,cl,rfl⟩:=ZJ Z9;clear YX WV;by_cases T3:lo+(j:Int)<=hh
  ·obtain⟨z,hz⟩:∃z,z=lo+(j:Int):=⟨_,rfl⟩
   have HZ:=hI hz;have HN:Hid (NW lo (j+1)=acc++[z]):=by show _=_;rw[<-Uk.o,hz];exact zQn lo j
   have hzb:-50<=z/\z<=50/\z<=hh:=by omega
   have HJ:Hid (lo+((j+1:Nat):Int)<=hh+1):=by show _<=_;omega
   rw[<-hz];clear hz T3 hj;go_wp2_with (at_builtin;refine wpList_append_own _ rfl _ _ 42 rfl wo.heap.size 3 i0 (.int .i64 0) 1 8 underlying42 hi Ze Y_ Zb rfl (by decide) _ _ _ rfl (Z9.alloc _) ⟨wr.heap.size,0,none⟩ 1 1 [.int .i64 z] rfl rfl ?c1 ?c2 ?c3 ?c4 ?c5 ?_)
   case c1=>exact Jk wr z
   case c2=>intro u hu;rcases Zh.1 hu with rfl;rfl
   case c3=>unfold maxLen;omega
   case c4=>omega
   case c5=>have:=X2.o.size;simp;omega
   intro v3 w3 ZX Z1 _;have WL:Hid (w3.ownsRow wo.heap.size 3 1 v3 (NW lo (j+1)).length ((NW lo (j+1)).map (Value.int .i64))):=by
    show w3.ownsRow _ _ _ _ _ _;rw[HN.o,ZC,YY];exact ZX
   have ZM:Hid (Bw wo w3):=(X2.o.alloc X2.o.size _).grown Z1 (by have:=X2.o.size;simp;omega) (λg h=>(Z9.lt g h).1)
   clear ZX Z1 Z9 k0 f2;go_wp2
   go_roundw
   case rel=>exact⟨j+1,HJ.o,by rw[HZ.o];go_num,WL.o,ZM.o⟩
   case measure=>simp[intOf];omega
  have M5:j=(hh+1 - lo).toNat:=by omega
  have tI:Hid ((Ym m.vars)[k]? = some acc):=by show _=_;rw[Cr.o,<-Uk.o,M5]
  have Zy:Hid (NV W.heap.size (.slice ao k co) cells (Ym m.vars) k wr):=WM.o.below X2.o;have Us:Hid (wr.ownsRow W.heap.size 3 1 (.slice al acc.length cl) acc.length (acc.map (Value.int .i64))):=⟨Yo.o.1,by
   rcases Yo.o.2 with h | ⟨g,cap,cur,h1,h2,h3⟩
   ·exact Or.inl h
   ·exact Or.inr ⟨g,cap,cur,h1,ZT ZW.o.size h2,h3⟩⟩
  have N6:Hid (Bw W wr):=ZW.o.trans (X2.o.mono ZW.o.size);have Xr:=Zy.o.1;have Cq:cells.length=k:=by have:=Xr.1;omega
  clear M5 Z9;clear Cq;go_wp2_with (at_builtin;refine Et rfl _ _ rfl W.heap.size _ k cells rfl (Xr.alloc _) wr.heap.size (.slice al acc.length cl) rfl rfl ?c1 ?c2 ?c3 ?_)
  case c2=>omega
  case c3=>have:=N6.o.size;simp;omega
  intro v3 w3 ZX Z1;have WG:Hid (NV W.heap.size v3 (cells++[.slice al acc.length cl]) (Ym m.vars) (k+1) w3):=(Zy.o.below (Z4 _ _)).push tI.o (Us.o.alloc _) ZX Z1;have ZM:Hid (Bw W w3):=(N6.o.alloc N6.o.size _).grown Z1 (by have:=N6.o.size;simp;omega) (λg h=>(Xr.lt g h).1)
  clear ZX Z1 Xr;go_wp2
  go_roundw
  case rel=>exact⟨k+1,_,by omega,by go_num,WG.o,ZM.o⟩
  case measure=>simp[intOf];omega
 have Xa:k=m.vars.length:=by omega
 have HF:Hid (RArg wr (.slice ao k co) (Ym m.vars)):=by
  have h:=WM.o;have h2:NV W.heap.size (.slice ao k co) cells (Ym m.vars) (Ym m.vars).length wr:=by rw[GA.o,<-Xa];exact h
  exact h2.arg
 clear Xa;go_wp2
 go_ret
 exact⟨_,rfl,HF.o,Y7.o⟩
theorem Cp (l:MLit) (x:Int) (w:World) :
 Calls prog 110 #[.agg #[.int .i64 l.var,.int .i64 l.op,.int .i64 l.n],.int .i64 x] w λe w'=>e=.returned (.bool (litV x l))/\Bw w w':=by
 obtain⟨v,op,n⟩:=l;obtain⟨R,hR⟩:∃R,litV x ⟨v,op,n⟩=R:=⟨_,rfl⟩;rw[hR];have HR:=hI hR;clear hR
 dsimp only
 by_cases h1:op=1
 ·subst h1
  have HE:Hid (R=decide (x<=n)):=HR.o.symm;cases hq:decide (x<=n) <;> rw[hq] at HE
  all_goals
   go_enter func110,ntmps110
   go_wp2
   go_ret
   exact⟨ZD HE.o.symm,Z4 _ _⟩
 have g1:(op==1)=false:=by simpa using h1
 by_cases h2:op=2
 ·subst h2
  have HE:Hid (R=decide (n<=x)):=HR.o.symm;cases hq:decide (n<=x) <;> rw[hq] at HE
  all_goals
   go_enter func110,ntmps110
   go_wp2
   go_ret
   exact⟨ZD HE.o.symm,Z4 _ _⟩
 have g2:(op==2)=false:=by simpa using h2
 by_cases h3:op=3
 ·subst h3
  have HE:Hid (R=(x==n)):=HR.o.symm;cases hq:(x==n) <;> rw[hq] at HE
  all_goals
   go_enter func110,ntmps110
   go_wp2
   go_ret
   exact⟨ZD HE.o.symm,Z4 _ _⟩
 have g3:(op==3)=false:=by simpa using h3
 by_cases h4:op=4
 ·subst h4
  have HE:Hid (R=(x != n)):=HR.o.symm;cases hq:(x != n) <;> rw[hq] at HE
  all_goals
   go_enter func110,ntmps110
   go_wp2
   go_ret
   exact⟨ZD HE.o.symm,Z4 _ _⟩
 have g4:(op==4)=false:=by simpa using h4
 have HE:Hid (R=false):=by
  show _=_;rw[<-HR.o];unfold litV;rw[if_neg h1,if_neg h2,if_neg h3,if_neg h4]
 go_enter func110,ntmps110
 go_wp2
 go_ret
 exact⟨ZD HE.o.symm,Z4 _ _⟩
def UJ (W:World) (v:Value) (cells:List Value) (M:Sto) (k:Nat) (w:World):Prop :=
 w.ownsRow W.heap.size 42 1 v k cells/\(∀(j:Nat) (r:List Int),j<k->M[j]? = some r->∃x,cells[j]? = some x/\(IArg W x r∨w.ownsRow W.heap.size 3 1 x r.length (r.map (Value.int .i64))))/\Bw W w
theorem UJ.nil (W:World) (M:Sto):UJ W (.slice none 0 0) [] M 0 W:=⟨ZH _ _ _ _,λj r hj=>by omega,Z6 _ _⟩
theorem UJ.below {W:World} {k:Nat} {v:Value} {cells:List Value} {M:Sto} {w w':World} (h:UJ W v cells M k w) (hb:Bw w w'):UJ W v cells M k w':=by
 refine⟨YZ h.1 hb,λj r hj hr=>?_,h.2.2.trans (hb.mono h.2.2.size)⟩
 obtain⟨x,h1,h2⟩:=h.2.1 j r hj hr;exact⟨x,h1,h2.imp id λh3=>YZ h3 hb⟩
theorem UJ.push {W:World} {k:Nat} {v v' x:Value} {cells:List Value} {M:Sto} {r:List Int} {w w':World} (h:UJ W v cells M k w) (hr:M[k]? = some r) (hx:IArg W x r∨w.ownsRow W.heap.size 3 1 x r.length (r.map (Value.int .i64)))
 (hw:w'.ownsRow W.heap.size 42 1 v' (k+1) (cells++[x])) (hg:w.grownBy w' v.ownBlock):UJ W v' (cells++[x]) M (k+1) w':=by
 have Zr:cells.length=k:=by have:=h.1.1;omega
 have keep:∀{y:Value} {q:List Int},w.ownsRow W.heap.size 3 1 y q.length (q.map (Value.int .i64))->w'.ownsRow W.heap.size 3 1 y q.length (q.map (Value.int .i64)):=λhy=>hy.kept hg (lR hy h.1 (by decide))
 refine⟨hw,λj q hj hq=>?_,h.2.2.grown hg h.2.2.size (λg hg2=>(h.1.lt g hg2).1)⟩
 by_cases T1:j=k
 ·subst T1
  rw[hr] at hq;cases hq
  exact⟨x,by rw[V9 (by omega),Zr];simp,hx.imp id keep⟩
 obtain⟨y,h1,h2⟩:=h.2.1 j q (by omega) hq
 exact⟨y,by rw[V8 (by omega)];exact h1,h2.imp id keep⟩
theorem UJ.arg {W:World} {v:Value} {cells:List Value} {M:Sto} {w:World} (h:UJ W v cells M M.length w):RArg w v M:=by
 have row:∀{x:Value} {r:List Int},(IArg W x r∨w.ownsRow W.heap.size 3 1 x r.length (r.map (Value.int .i64)))->IArg w x r:=λhx=>hx.elim (λh1=>IArg.below h.2.2 h1) JA
 rcases h.1.2 with ⟨rfl,hn⟩ | ⟨g,cap,cur,rfl,hg,hh,X',Yb,_,_⟩
 ·have:M=[]:=Xf hn
  subst this;exact⟨none,0,rfl,⟨Z2 _,YI _⟩,λi z hz=>by simp at hz⟩
 refine⟨_,cap,rfl,⟨X',Yb⟩,λi r hr=>?_⟩
 have hi:i<M.length:=(ZN.1 hr).1;obtain⟨x,h1,h2⟩:=h.2.1 i r hi hr;exact⟨g,0,x,rfl,(Z8.1 hh).1,by rw[Zn,h.1.cellAt i (by omega)];exact h1,row h2⟩
def S3 (n:Nat):Sto:=List.replicate n []
theorem ze (n:Nat) (hn:n<=600) (w:World) :
 Calls prog 157 #[.int .i64 (n:Int)] w λe w'=>∃x,e=.returned x/\RArg w' x (S3 n)/\Bw w w':=by
 have HL:Hid ((S3 n).length=n):=by show _=_;simp[S3]
 go_enter func157,ntmps157
 go_wp2_with fail
 go_loopw [3,4] (λo i wr=>∃(k:Nat) (cells:List Value),k<=n/\i=.int .i64 k/\UJ w o cells (S3 n) k wr) (λ_ i _=>n - (intOf i).toNat)
 case atStart=>exact⟨0,[],by omega,rfl,UJ.nil _ _⟩
 obtain⟨k,cells,hk,rfl,ZS⟩:=hrel;have WM:=hI ZS;obtain⟨ao,co,rfl⟩:=ZJ ZS.1;by_cases Z7:k<n
 ·have Cr:Hid ((S3 n)[k]? = some []):=by show _=_;unfold S3;rw[O6,if_pos Z7]
  have Xr:=ZS.1;have Y':=ZS.2.2.size;clear ZS;go_wp2_with (at_builtin;refine Et rfl _ _ rfl w.heap.size _ k cells rfl (Xr.alloc _) wr.heap.size (.slice none 0 0) rfl rfl ?c1 ?c2 ?c3 ?_)
  case c1=>exact Zu _ _ _ 0 (by simp)
  case c2=>omega
  case c3=>simp;omega
  intro v3 w3 ZX Z1;have WG:Hid (UJ w v3 (cells++[.slice none 0 0]) (S3 n) (k+1) w3):=(WM.o.below (Z4 _ _)).push Cr.o (Or.inr (ZH _ _ _ _)) ZX Z1;clear ZX Z1 Xr;go_wp2
  go_roundw
  case rel=>exact⟨k+1,_,by omega,by go_num,WG.o⟩
  case measure=>simp[intOf];omega
 have Xa:k=n:=by omega
 have HF:Hid (RArg wr (.slice ao k co) (S3 n)/\Bw w wr):=by
  refine⟨?_,ZS.2.2⟩;subst Xa;have h2:UJ w (.slice ao k co) cells (S3 k) (S3 k).length wr:=by rw[HL.o];exact ZS
  exact h2.arg
 clear Xa ZS;go_wp2
 go_ret
 exact⟨_,rfl,HF.o.1,HF.o.2⟩
theorem Ue {w2 Y w3:World} {A:Prop} (h:Bw w2 Y/\A) (hb:Bw Y w3):Bw w2 w3:=h.1.trans (hb.mono h.1.size)
def Sv (l:MLit) (k:Nat) (z:Int):Bool:=decide ((k:Int)≠l.var) || !litV z l
def Ud (s:Sto) (c:Cla):Sto:=c.foldl (λs l=>V0 s (Sv l)) s
theorem zQo (s:Sto) (c:Cla) (l:MLit):Ud s (c++[l])=V0 (Ud s c) (Sv l):=by unfold Ud;rw[List.foldl_append];rfl
theorem zSc (s:Sto):∀c:Cla,(Ud s c).length=s.length:=λc=>by
 unfold Ud
 induction c generalizing s with
 | nil=>rfl
 | cons l r ih=>rw[Nt,ih,Vs]
theorem zSd (s:Sto) (p q:Nat->Int->Bool):V0 (V0 s p) q=V0 s λk z=>p k z&&q k z:=by
 refine AC _ _ (by rw[Vs,Vs,Vs]) λk r t hr ht=>?_
 obtain⟨a,ha,rfl⟩:=OX _ _ _ _ hr;obtain⟨b,hb,rfl⟩:=OX _ _ _ _ ha;rw[K0 s _ k b hb] at ht;cases ht
 rw[List.filter_filter]
 congr 1
 funext z
 exact Bool.and_comm _ _
theorem Kl (s:Sto) (c:Cla):Ud s c=Vr s c:=by
 unfold Ud Vr
 induction c generalizing s with
 | nil=>rw[List.foldl_nil];exact (pD _ _ λ_ _ _ _ _=>rfl).symm
 | cons l r ih =>
   rw[Nt,ih,zSd]
   congr 1
   funext k z
   unfold Sv oneB;rw[Qr,Bool.not_or,Bool.not_and]
   congr 2
   by_cases h:l.var=(k:Int)
   ·simp[h]
   have:(k:Int)≠l.var:=λe=>h e.symm
   simp[h,this]
theorem zd (r:List Int) (p:Int->Bool) (k:Nat) (z:Int) (h:r[k]? = some z):(r.take (k+1)).filter p=(r.take k).filter p++(if p z then [z] else []):=by
 rw[Y1,h,List.filter_append]
 congr 1
 cases hp:p z <;> simp[hp]
theorem lO (s:Sto) (S1:s.length<=6) (ZS:∀r∈s,r.length<=6) (c:Cla) (v u:Value) (w:World) (hv:RArg w v s) (hu:LArg w u c) :
 Calls prog 95 #[v,u] w λe w'=>∃x,e=.returned x/\RArg w' x (Ud s c)/\Bw w w':=by
 have Qc:=hI hv;have zf:=hI hu;have Ra:Hid (∀d:Cla,(Ud s d).length=s.length):=zSc s;have HSH:Hid (∀(d:Cla) (r:List Int),r∈Ud s d->r.length<=6):=λd r hr=>by
  rw[Kl] at hr;obtain⟨k,hk⟩:=Wm.1 hr;obtain⟨a,ha,rfl⟩:=OX _ _ _ _ hk;exact ZT (Tz _ _) (ZS a (Zz ha))
 obtain⟨a,ca,rfl,_,_⟩:=hv;obtain⟨b,cb,rfl,Re,_⟩:=hu;unfold maxLen at Re;obtain⟨Co,Cn⟩:=Re;obtain⟨i0,hi,Ze,Y_,Zb⟩:=info_parts Hl;go_enter func95,ntmps95
 go_wp2_with fail
 go_loopw [5,6] (λo i wr=>∃k:Nat,k<=c.length/\i=.int .i64 k/\RArg wr o (Ud s (c.take k))/\Bw w wr) (λ_ i _=>c.length - (intOf i).toNat)
 case atStart=>exact⟨0,by omega,rfl,Qc.o,Z6 _ _⟩
 obtain⟨k,hk,rfl,GY,Z3⟩:=hrel;have OH:=hI GY;have ZW:=hI Z3;obtain⟨D,hD⟩:∃D,Ud s (c.take k)=D:=⟨_,rfl⟩;have tH:Hid (D.length=s.length):=by show _=_;rw[<-hD];exact Ra.o _
 have HDS:Hid (∀r∈D,r.length<=6):=λr hr=>by rw[<-hD] at hr;exact HSH.o _ r hr
 rw[hD] at OH GY;obtain⟨ao,co,rfl,lN,_⟩:=GY;unfold maxLen at lN;obtain⟨hmo1,hmo2⟩:=lN;by_cases Z7:k<c.length
 ·obtain⟨l,hl⟩:∃l,c[k]? = some l:=⟨c[k],by simp[Z7]⟩
  have XA:Hid (Ud s (c.take (k+1))=V0 D (Sv l)):=by
   show _=_;rw[Y1,hl,<-hD];exact zQo s _ l
  obtain⟨E,hE⟩:∃E,V0 D (Sv l)=E:=⟨_,rfl⟩;have HE:=hI hE;have OI:Hid (E.length=D.length):=by show _=_;rw[<-hE];exact Vs _ _
  rw[hE] at XA;obtain⟨lb,lo,Tn,Pk,m0,m1,m2⟩:=LArg.nth zf.o k l hl;subst Tn;have g0:=(Z3.cell (p:=⟨lb,lo+k * 3,none⟩) Pk).trans m0;have g1:=(Z3.cell (p:=⟨lb,lo+k * 3+1,none⟩) Pk).trans m1;have g2:=(Z3.cell (p:=⟨lb,lo+k * 3+2,none⟩) Pk).trans m2;have HG:Hid (∀Y,Bw wr Y->lb<Y.heap.size/\Y.cell? ⟨lb,lo+k * 3,none⟩=some (.int .i64 l.var)/\Y.cell? ⟨lb,lo+k * 3+1,none⟩=some (.int .i64 l.op)/\Y.cell? ⟨lb,lo+k * 3+2,none⟩=some (.int .i64 l.n)):=λY hY=>by
   have h0:=ZQ Pk ZW.o.size;exact⟨ZQ h0 hY.size,(hY.cell (p:=⟨lb,lo+k * 3,none⟩) h0).trans g0,(hY.cell (p:=⟨lb,lo+k * 3+1,none⟩) h0).trans g1,(hY.cell (p:=⟨lb,lo+k * 3+2,none⟩) h0).trans g2⟩
  obtain⟨W,hW⟩:∃W:World,W=wr:=⟨_,rfl⟩;clear hl m0 m1 m2 hD hE g0 g1 g2;go_wp2_with fail
  rw[<-hW] at OH ZW HG ⊢;clear hW Z3 Pk;go_loopw [7,8] (λo i wr=>∃(j:Nat) (cells:List Value),j<=D.length/\i=.int .i64 j/\UJ W o cells E j wr) (λ_ i _=>D.length - (intOf i).toNat)
  case atStart=>exact⟨0,[],by omega,rfl,UJ.nil _ _⟩
  obtain⟨j,cells,hj,rfl,Pj⟩:=hrel;have OE:=hI Pj;obtain⟨an,cn,rfl⟩:=ZJ Pj.1;have X2:=hI Pj.2.2;clear Pj;by_cases T3:j<D.length
  ·obtain⟨r,hr⟩:∃r,D[j]? = some r:=⟨D[j],by simp[T3]⟩
   have I1:Hid (E[j]? = some (r.filter (Sv l j))):=by show _=_;rw[<-HE.o];exact K0 _ _ _ _ hr
   have N_:r.length<=6:=HDS.o r (Zz hr);obtain⟨_,_,Pu,_,Uz⟩:=OH.o;cases Pu
   obtain⟨ob,oo,xv,Gz,Q_,ocl,Vn⟩:=Uz j r hr;subst Gz;obtain⟨ax,cx,MS,SF,Pn⟩:=Vn;subst MS;unfold maxLen at SF;obtain⟨Kk,Gy⟩:=SF;have NU:Hid (∀Y,Bw wr Y->ob<Y.heap.size/\Y.cell? ⟨ob,oo+j,none⟩=some (.slice ax r.length cx)):=λY hY =>
    ⟨ZQ (ZQ Q_ X2.o.size) hY.size,(hY.cell (p:=⟨ob,oo+j,none⟩) (ZQ Q_ X2.o.size)).trans ((X2.o.cell (p:=⟨ob,oo+j,none⟩) Q_).trans ocl)⟩
   have Kj:Hid (∀(i:Nat) (z:Int),r[i]? = some z->∃b off,ax=some ⟨b,off,none⟩/\b<wr.heap.size/\∀Y,Bw wr Y->b<Y.heap.size/\Y.cell? ⟨b,off+i,none⟩=some (.int .i64 z)):=λi z hz=>by
    obtain⟨b,off,h1,h2,h3⟩:=Pn i z hz;have h4:=ZQ h2 X2.o.size;exact⟨b,off,h1,h4,λY hY=>⟨ZQ h4 hY.size,(hY.cell (p:=⟨b,off+i,none⟩) h4).trans ((X2.o.cell (p:=⟨b,off+i,none⟩) h2).trans h3)⟩⟩
   have lM:Hid (∀Y,Bw wr Y->lb<Y.heap.size/\Y.cell? ⟨lb,lo+k * 3,none⟩=some (.int .i64 l.var)/\Y.cell? ⟨lb,lo+k * 3+1,none⟩=some (.int .i64 l.op)/\Y.cell? ⟨lb,lo+k * 3+2,none⟩=some (.int .i64 l.n)):=λY hY=>HG.o Y (X2.o.trans (hY.mono X2.o.size))
   obtain⟨wo,I2⟩:∃wo:World,wo=wr:=⟨_,rfl⟩;clear hr Uz Pn ocl Q_;go_wp2_with fail
   rw[<-I2] at OE X2 NU Kj lM ⊢;clear I2;go_loopw [9,10] (λo i wr=>∃q:Nat,q<=r.length/\i=.int .i64 q/\wr.ownsRow wo.heap.size 3 1 o ((r.take q).filter (Sv l j)).length (((r.take q).filter (Sv l j)).map (Value.int .i64))/\Bw wo wr) (λ_ i _=>r.length - (intOf i).toNat)
   case atStart=>exact⟨0,by omega,rfl,ZH _ _ _ _,Z6 _ _⟩
   obtain⟨q,hq,rfl,Z9,WK⟩:=hrel;have NT:=hI WK;obtain⟨ol,oc⟩:=NU.o _ WK;obtain⟨acc,YX⟩:∃acc,(r.take q).filter (Sv l j)=acc:=⟨_,rfl⟩;have Uk:=hI YX;have OT:acc.length<=6:=by rw[<-YX];exact ZT (Tz _ _) (by rw[X_];omega)
   rw[YX] at Z9;have Yo:=hI Z9;obtain⟨al,cl,Ki⟩:=ZJ Z9;subst Ki;clear YX;by_cases Kh:q<r.length
   ·obtain⟨z,hz⟩:∃z,r[q]? = some z:=⟨r[q],by simp[Kh]⟩
    obtain⟨bx,ox,WV,YF,QM⟩:=Kj.o q z hz;subst WV;obtain⟨zl,zc⟩:=QM _ WK;obtain⟨ll,k0,k1,k2⟩:=lM.o _ WK;have Vp:Hid ((r.take (q+1)).filter (Sv l j)=acc++(if Sv l j z then [z] else [])):=by show _=_;rw[<-Uk.o];exact zd r _ q z hz
    clear QM hz WK;obtain⟨B,hB⟩:∃B,Sv l j z=B:=⟨_,rfl⟩;have HB:=hI hB;rw[hB] at Vp;clear hB;go_wp2_with fail
    go_cut [54] (λbv wx=>Hid (bv=.bool B/\Bw wr wx))
    case first =>
     by_cases Wy:(j:Int)=l.var
     ·have OD:Hid (B=!litV z l):=by
       show _=_;rw[<-HB.o];unfold Sv;simp[Wy]
      rw[<-Wy] at k0;have g:((j:Int) != (j:Int))=false:=by simp
      obtain⟨vr,op,n⟩:=l
      dsimp only at Wy k1 k2
      subst Wy;go_region_held3 (λw'=>Bw wr w'/\w'.cell? ⟨lb,lo+k * 3,none⟩=some (.int .i64 (j:Int))/\w'.cell? ⟨lb,lo+k * 3+1,none⟩=some (.int .i64 op)/\w'.cell? ⟨lb,lo+k * 3+2,none⟩=some (.int .i64 n)/\w'.cell? ⟨ob,oo+j,none⟩=some (.slice (some ⟨bx,ox,none⟩) r.length cx)/\w'.cell? ⟨bx,ox+q,none⟩=some (.int .i64 z))
       ((refine (λ(hB:Bw wr _)=>⟨hB,(hB.cell (p:=⟨lb,lo+k * 3,none⟩) ll).trans k0,(hB.cell (p:=⟨lb,lo+k * 3+1,none⟩) ll).trans k1,(hB.cell (p:=⟨lb,lo+k * 3+2,none⟩) ll).trans k2,(hB.cell (p:=⟨ob,oo+j,none⟩) ol).trans oc,(hB.cell (p:=⟨bx,ox+q,none⟩) zl).trans zc⟩:Bw wr _->_) ?_;first | exact (Z6 _ _).drew | exact Ue (by assumption) Yu))
       ((go_at_call 110;refine (Cp ⟨(j:Int),op,n⟩ z _).mono ?_;rintro e w3 ⟨rfl,Yu⟩;have hB3:=Ue (by assumption) Yu))
      go_wp2_with fail
      go_meet
      exact⟨by rw[OD.o],hB3⟩
     have OD:Hid (B=true):=by
      show _=_;rw[<-HB.o];unfold Sv;simp[Wy]
     have g:((j:Int) != l.var)=true:=by simpa using Wy
     go_quiet (fail)
     go_wp2_with fail
     go_meet
     exact⟨by rw[OD.o],below_drewN (Z6 _ _) _⟩
    obtain⟨rfl,UL⟩:=hcut.o;have ol2:=ZQ ol UL.size;have zl2:=ZQ zl UL.size;have oc2:=(UL.cell (p:=⟨ob,oo+j,none⟩) ol).trans oc;have zc2:=(UL.cell (p:=⟨bx,ox+q,none⟩) zl).trans zc;have YO:=YZ Yo.o UL;have U':=hI (NT.o.trans (UL.mono NT.o.size));have Tj:=(show Hid _ from YO)
    clear hcut UL Z9 oc zc ol zl k0 k1 k2 ll;cases B
    ·have TX:Hid ((r.take (q+1)).filter (Sv l j)=acc):=by
      show _=_;rw[Vp.o];simp
     clear Vp YO;go_wp2
     go_roundw
     case rel=>exact⟨q+1,by omega,by go_num,by rw[TX.o];exact Tj.o,U'.o⟩
     case measure=>simp[intOf];omega
    have TX:Hid ((r.take (q+1)).filter (Sv l j)=acc++[z]):=by
     show _=_;rw[Vp.o];simp
    clear Vp;go_wp2_with (at_builtin;refine wpList_append_own _ rfl _ _ 42 rfl wo.heap.size 3 i0 (.int .i64 0) 1 8 underlying42 hi Ze Y_ Zb rfl (by decide) _ _ _ rfl (YO.alloc _) ⟨wc.heap.size,0,none⟩ 1 1 [.int .i64 z] rfl rfl ?c1 ?c2 ?c3 ?c4 ?c5 ?_)
    case c1=>exact Jk wc z
    case c2=>intro u hu;rcases Zh.1 hu with rfl;rfl
    case c3=>unfold maxLen;omega
    case c4=>omega
    case c5=>have:=U'.o.size;simp;omega
    intro v3 w3 ZX Z1 _;have WL:Hid (w3.ownsRow wo.heap.size 3 1 v3 ((r.take (q+1)).filter (Sv l j)).length (((r.take (q+1)).filter (Sv l j)).map (Value.int .i64))):=by
     show w3.ownsRow _ _ _ _ _ _;rw[TX.o,ZC,YY];exact ZX
    have ZM:Hid (Bw wo w3):=(U'.o.alloc U'.o.size _).grown Z1 (by have:=U'.o.size;simp;omega) (λg h=>(YO.lt g h).1)
    clear ZX Z1 YO;go_wp2
    go_roundw
    case rel=>exact⟨q+1,by omega,by go_num,WL.o,ZM.o⟩
    case measure=>simp[intOf];omega
   have Cm:Hid (r.filter (Sv l j)=acc):=by show _=_;rw[<-Uk.o,Zi (by omega)]
   have QP:Hid (UJ W (.slice an j cn) cells E j wr):=OE.o.below NT.o;have Us:Hid (wr.ownsRow W.heap.size 3 1 (.slice al acc.length cl) acc.length (acc.map (Value.int .i64))):=World.ownsRow.mono Yo.o X2.o.size;have Xr:=QP.o.1;have Y':=QP.o.2.2.size;clear Z9 WK;go_wp2_with (at_builtin;refine Et rfl _ _ rfl W.heap.size _ j cells rfl (Xr.alloc _) wr.heap.size (.slice al acc.length cl) rfl rfl ?c1 ?c2 ?c3 ?_)
   case c1=>exact Zu _ _ _ 0 (by simp)
   case c2=>have:=tH.o;omega
   case c3=>simp;omega
   intro v3 w3 ZX Z1;have WG:Hid (UJ W v3 (cells++[.slice al acc.length cl]) E (j+1) w3):=(QP.o.below (Z4 _ _)).push (by rw[I1.o,Cm.o]) (Or.inr (Us.o.alloc _)) ZX Z1
   clear ZX Z1 Xr;go_wp2
   go_roundw
   case rel=>exact⟨j+1,_,by omega,by go_num,WG.o⟩
   case measure=>simp[intOf];omega
  have M5:j=E.length:=by have:=OI.o;omega
  have HF:Hid (RArg wr (.slice an j cn) E/\Bw w wr):=by
   refine⟨?_,ZW.o.trans (X2.o.mono ZW.o.size)⟩;have h:=OE.o;subst M5;exact h.arg
  clear M5;go_wp2
  go_roundw
  case rel=>exact⟨k+1,by omega,by go_num,by rw[XA.o];exact HF.o.1,HF.o.2⟩
  case measure=>simp[intOf];omega
 have HF:Hid (RArg wr (.slice ao D.length co) (Ud s c)):=by
  show RArg _ _ _;have h:=OH.o;rw[<-hD,Zi (by omega)] at h
  rw[<-hD,Zi (by omega)]
  exact h
 clear hD;go_wp2
 go_ret
 exact⟨_,rfl,HF.o,ZW.o⟩
theorem Es {α:Type} (l:List α) (p:α->Bool) (k:Nat) (z:α) (h:l[k]? = some z):(l.take (k+1)).any p=((l.take k).any p || p z):=by
 rw[Y1,h,RL];simp
theorem zSe (s:Sto) (l:MLit) (h0:0<=l.var) (h1:l.var<(s.length:Int)) (v:Value) (w:World) (hv:RArg w v s) :
 Calls prog 235 #[v,.agg #[.int .i64 l.var,.int .i64 l.op,.int .i64 l.n]] w λe w'=>(∃z:Int,e=.returned (.int .i64 z)/\decide (0<=z)=Wb s l)/\Bw w w':=by
 obtain⟨var,op,n⟩:=l
 dsimp only at h0 h1 ⊢
 obtain⟨x,rfl⟩:∃x:Nat,var=(x:Int):=⟨var.toNat,by omega⟩
 have lK:x<s.length:=by omega
 obtain⟨r,hr⟩:∃r,s[x]? = some r:=⟨s[x],by simp[lK]⟩
 have EF:Hid (Wb s ⟨(x:Int),op,n⟩=r.any λz=>litV z ⟨(x:Int),op,n⟩):=by
  show _=_;unfold Wb JD;rw[YK,ZO,hr];rfl
 rw[EF.o];obtain⟨a,ca,rfl,Y8,Uz⟩:=hv;unfold maxLen at Y8;obtain⟨tG,tF⟩:=Y8;obtain⟨ob,oo,xv,Gz,Q_,ocl,Vn⟩:=Uz x r hr;subst Gz;obtain⟨ax,cx,rfl,SF,Pn⟩:=Vn;unfold maxLen at SF;obtain⟨Kk,Gy⟩:=SF;obtain⟨f,hf⟩:∃f:Int->Bool,(λz=>litV z ⟨(x:Int),op,n⟩)=f:=⟨_,rfl⟩
 have OU:Hid (∀z,litV z ⟨(x:Int),op,n⟩=f z):=λz=>by rw[<-hf]
 rw[hf];obtain⟨R,hR⟩:∃R,r.any f=R:=⟨_,rfl⟩;have HR:=hI hR;rw[hR];have Kj:=hI Pn;have p1:(x:Int)<(s.length:Int):=by omega
 clear hr Uz Pn hf hR EF;go_enter func235,ntmps235
 go_wp2_with fail
 have Zt:=(show Hid (Bw w _) from Z4 w (.cells #[.int .i64 (x:Int),.int .i64 op,.int .i64 n] 76))
 have XL:=(show Hid _ from heap_alloc_new w (.cells #[.int .i64 (x:Int),.int .i64 op,.int .i64 n] 76))
 obtain⟨W,hW⟩:∃W,w.alloc (.cells #[.int .i64 (x:Int),.int .i64 op,.int .i64 n] 76)=W:=⟨_,rfl⟩;rw[hW] at Zt XL ⊢;clear hW;have HC:Hid (∀Y,Bw W Y->w.heap.size<Y.heap.size/\Y.cell? ⟨w.heap.size,0,none⟩=some (.int .i64 (x:Int))/\Y.cell? ⟨w.heap.size,1,none⟩=some (.int .i64 op)/\Y.cell? ⟨w.heap.size,2,none⟩=some (.int .i64 n)/\ob<Y.heap.size/\Y.cell? ⟨ob,oo+x,none⟩=some (.slice ax r.length cx)):=λY hY=>by
  have hN:=(hY.block _ (Z8.1 XL.o).1).trans XL.o;have hl:=ZQ Q_ Zt.o.size;exact⟨(Z8.1 hN).1,Z_ hN 0 _ rfl,Z_ hN 1 _ rfl,Z_ hN 2 _ rfl,ZQ hl hY.size,(hY.cell (p:=⟨ob,oo+x,none⟩) hl).trans ((Zt.o.cell (p:=⟨ob,oo+x,none⟩) Q_).trans ocl)⟩
 clear ocl Q_;go_loopw [5,6,7] (λy o i wr=>∃k:Nat,k<=r.length/\i=.int .i64 k/\y=.bool ((r.take k).any f)/\o=.bool ((r.take k).any λz=>!f z)/\Bw W wr) (λ_ _ i _=>r.length - (intOf i).toNat)
 case atStart=>exact⟨0,by omega,rfl,rfl,rfl,Z6 _ _⟩
 obtain⟨k,hk,rfl,rfl,rfl,Z3⟩:=hrel;obtain⟨c0,c1,c2,c3,c4,c5⟩:=HC.o _ Z3;obtain⟨Y,hY⟩:∃Y,(r.take k).any f=Y:=⟨_,rfl⟩;obtain⟨N,hN⟩:∃N,(r.take k).any (λz=>!f z)=N:=⟨_,rfl⟩
 have HY:=hI hY;have R6:=hI hN
 rw[hY,hN];clear hY hN;by_cases Z7:k<r.length
 ·obtain⟨z,hz⟩:∃z,r[k]? = some z:=⟨r[k],by simp[Z7]⟩
  obtain⟨bx,ox,WV,YF,QM⟩:=Kj.o k z hz;subst WV;have Xi:=ZQ YF Zt.o.size;have zl:=ZQ Xi Z3.size;have zc:=(Z3.cell (p:=⟨bx,ox+k,none⟩) Xi).trans ((Zt.o.cell (p:=⟨bx,ox+k,none⟩) YF).trans QM);have Za:Hid ((r.take (k+1)).any f=(Y || f z)):=by show _=_;rw[Es r f k z hz,HY.o]
  have ZK:Hid ((r.take (k+1)).any (λz=>!f z)=(N || !f z)):=by show _=_;rw[Es r (λz=>!f z) k z hz,R6.o]
  have ZW:=hI Z3;clear hz QM YF Xi Z3;go_wp2_with fail
  go_region_held3 (λw'=>Bw wr w'/\w'.cell? ⟨w.heap.size,0,none⟩=some (.int .i64 (x:Int))/\w'.cell? ⟨w.heap.size,1,none⟩=some (.int .i64 op)/\w'.cell? ⟨w.heap.size,2,none⟩=some (.int .i64 n)/\w'.cell? ⟨ob,oo+x,none⟩=some (.slice (some ⟨bx,ox,none⟩) r.length cx)/\w'.cell? ⟨bx,ox+k,none⟩=some (.int .i64 z))
   ((refine (λ(hB:Bw wr _)=>⟨hB,(hB.cell (p:=⟨w.heap.size,0,none⟩) c0).trans c1,(hB.cell (p:=⟨w.heap.size,1,none⟩) c0).trans c2,(hB.cell (p:=⟨w.heap.size,2,none⟩) c0).trans c3,(hB.cell (p:=⟨ob,oo+x,none⟩) c4).trans c5,(hB.cell (p:=⟨bx,ox+k,none⟩) zl).trans zc⟩:Bw wr _->_) ?_;first | exact (Z6 _ _).drew | exact Ue (by assumption) Yu))
   ((go_at_call 110;refine (Cp ⟨(x:Int),op,n⟩ z _).mono ?_;rintro e w3 ⟨rfl,Yu⟩;have hB3:=Ue (by assumption) Yu))
  rw[OU.o z];have ZM:=hI (ZW.o.trans (hB3.mono ZW.o.size));clear c0 c1 c2 c3 c4 c5 zl zc hB3 Yu;cases hq:f z
  ·rw[hq] at Za ZK
   clear hq;go_wp2
   go_roundw
   case rel=>exact⟨k+1,by omega,by go_num,by rw[Za.o];simp,by rw[ZK.o];simp,ZM.o⟩
   case measure=>simp[intOf];omega
  rw[hq] at Za ZK;clear hq;go_wp2
  go_roundw
  case rel=>exact⟨k+1,by omega,by go_num,by rw[Za.o];simp,by rw[ZK.o];simp,ZM.o⟩
  case measure=>simp[intOf];omega
 have HE:Hid (R=Y):=by show _=_;rw[<-HR.o,<-HY.o,Zi (by omega)]
 have ZW:=hI (Zt.o.trans (Z3.mono Zt.o.size));clear Z3;cases Y <;> cases N
 all_goals
  go_wp2
  go_ret
  exact⟨⟨_,rfl,by rw[HE.o];rfl⟩,ZW.o⟩
def WQ (w:World) (v:Value) (l:List Cla):Prop :=
 ∃a c,v=.slice a l.length c/\(l.length<=c/\c<=maxLen)/\∀(i:Nat) (t:Cla),l[i]? = some t->∃b off x,a=some ⟨b,off,none⟩/\b<w.heap.size/\w.cell? ⟨b,off+i,none⟩=some x/\LArg w x t
theorem WQ.below {w w':World} {v:Value} {l:List Cla} (hb:Bw w w') (h:WQ w v l):WQ w' v l:=by
 obtain⟨a,c,hv,hm,hr⟩:=h;refine⟨a,c,hv,hm,λi z hz=>?_⟩
 obtain⟨b,off,x,ha,Z7,hc,hx⟩:=hr i z hz;exact⟨b,off,x,ha,ZQ Z7 hb.size,(hb.cell (p:=⟨b,off+i,none⟩) Z7).trans hc,LArg.below hb hx⟩
theorem zSf (vs:List MVar) (l:MLit) (v:Value) (w:World) (hv:VArg w v vs) :
 Calls prog 192 #[v,.agg #[.int .i64 l.var,.int .i64 l.op,.int .i64 l.n]] w λe w'=>e=.returned (.int .i64 (litE vs l))/\Bw w w':=by
 obtain⟨a,c,rfl,hm,_⟩:=hv;unfold maxLen at hm;obtain⟨Y0,hm⟩:=hm;obtain⟨R,hR⟩:∃R,litE vs l=R:=⟨_,rfl⟩;rw[hR];unfold litE at hR;by_cases q1:l.var<0
 ·have HE:Hid (R=5):=by rw[<-hR,if_pos (Or.inl q1)];rfl
  clear hR;go_enter func192,ntmps192
  go_wp2
  go_ret
  exact⟨Zm HE.o.symm,Z4 _ _⟩
 by_cases q2:(vs.length:Int)<=l.var
 ·have HE:Hid (R=5):=by rw[<-hR,if_pos (Or.inr q2)];rfl
  clear hR;go_enter func192,ntmps192
  go_wp2
  go_ret
  exact⟨Zm HE.o.symm,Z4 _ _⟩
 rw[if_neg (by omega)] at hR
 by_cases q3:l.op<1
 ·have HE:Hid (R=7):=by rw[<-hR,if_pos (Or.inl q3)];rfl
  clear hR;go_enter func192,ntmps192
  go_wp2
  go_ret
  exact⟨Zm HE.o.symm,Z4 _ _⟩
 by_cases q4:4<l.op
 ·have HE:Hid (R=7):=by rw[<-hR,if_pos (Or.inr q4)];rfl
  clear hR;go_enter func192,ntmps192
  go_wp2
  go_ret
  exact⟨Zm HE.o.symm,Z4 _ _⟩
 rw[if_neg (by omega)] at hR
 by_cases q5:l.n < -1000
 ·have HE:Hid (R=3):=by rw[<-hR,if_pos (Or.inl q5)];rfl
  clear hR;go_enter func192,ntmps192
  go_wp2
  go_ret
  exact⟨Zm HE.o.symm,Z4 _ _⟩
 by_cases q6:1000<l.n
 ·have HE:Hid (R=3):=by rw[<-hR,if_pos (Or.inr q6)];rfl
  clear hR;go_enter func192,ntmps192
  go_wp2
  go_ret
  exact⟨Zm HE.o.symm,Z4 _ _⟩
 have HE:Hid (R=0):=by rw[<-hR,if_neg (by omega)];rfl
 clear hR;go_enter func192,ntmps192
 go_wp2
 go_ret
 exact⟨Zm HE.o.symm,Z4 _ _⟩
end Go.Proofs.YtndcpnlaadikoaaGreatDoor
