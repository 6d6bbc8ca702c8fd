/- What the proof leans on, part 12. -/
import Derived.Test.YtndcpnlaadikoaaGreatDoorPartAk
import Derived.Deep.OwnRows
import Derived.Deep.Onto
import Derived.Laws.EntriesVeiled
import Derived.Test.YtndcpnlaadikoaaGreatDoorPartAj
import Derived.Deep.CutBlock
set_option maxRecDepth 100000
set_option maxHeartbeats 3200000
open Go.Proofs.Tryz
namespace Go.Proofs.YtndcpnlaadikoaaGreatDoor
open Go.RowKit
theorem EQ {w:World} {base:Nat} {v:Value} {l:List Nat} (h:w.ownsRow base 136 1 v l.length (u64s l)) (hl:∀z∈l,z<2 ^ 36):PArg w v l:=by
 rcases h.2 with ⟨rfl,hn⟩ | ⟨g,cap,cur,rfl,hg,hh,X',Yb,_,_⟩
 ·have:l=[]:=Xf hn
  subst this;exact⟨none,0,rfl,⟨Z2 _,YI _⟩,λi z hz=>by simp at hz⟩
 refine⟨_,cap,rfl,⟨X',Yb⟩,λi z hz=>⟨hl z (Zz hz),g,0,rfl,(Z8.1 hh).1,?_⟩⟩
 have hi:i<l.length:=(ZN.1 hz).1;rw[Zn,h.cellAt i (by omega)]
 unfold u64s;rw[YN,hz];rfl
theorem aB (m:Mod) (hm:Zs m=0) (j:Nat) (c:MCon) (hc:m.cons[j]? = some c):(YC c).length<=8:=by
 obtain⟨Jz,Ar,_,_⟩:=As c (DH _ _ (Ik m hm j c hc)).2.1;have h1:=wM (PA (Tr c));rw[DA] at h1;show (Ob (PA (Tr c))).length<=8;have h2:(Tr c).length=c.vars.length+c.lits.length:=by simp[Tr]
 omega
theorem aA:(prog.info? 3).map (λi=>(i.zero,i.size,i.bytes))=some (some (.int .i64 0),1,8):=by kernel_rfl
theorem aw:prog.underlying 42=some (.slice 3):=by kernel_rfl
theorem aq (w:World) (n base:Nat) (hn:n<=6) (hb:base<=w.heap.size):(w.alloc (.cells (madeCells #[.int .i64 0] n) 3)).ownsRow base 3 1 (.slice (some ⟨w.heap.size,0,none⟩) n n) n ((XM n).map (Value.int .i64)):=by
 refine⟨by simp[XM],Or.inr ⟨w.heap.size,n,_,rfl,hb,heap_alloc_new w _,Z2 _,by unfold maxLen;omega,?_,?_⟩⟩
 ·have h:=congrArg List.length (toList_madeCells_one (.int .i64 0) n)
  simp at h;simpa using h
 rw[toList_madeCells_one];simp[XM]
def LO (N bs bm bc n:Nat) (W:World):World:=(((W.alloc (.cells (madeCells #[.int .i64 0] n) 3)).alloc (.cells #[.slice (some ⟨N,0,none⟩) n n] 42)).alloc (.cells #[.slice none 0 0] 139)).alloc (.cells #[.func (.func 196) #[] (zT N bs bm bc)] 252)
theorem ak {W:World} {N bs bm bc con n:Nat} {m:Mod} {vs cs sv:Value} {scope:List Int} (hN:W.heap.size=N) (hn:n<=6)
 (hW:MArg W vs cs m/\IArg W sv scope/\W.cell? ⟨bs,0,none⟩=some sv/\W.cell? ⟨bm,0,none⟩=some vs/\W.cell? ⟨bm,1,none⟩=some cs/\W.cell? ⟨bc,0,none⟩=some (.int .i64 con)) :
 PtsS N bs bm bc m con vs cs sv scope (XM n) [] (LO N bs bm bc n W)/\Below N W (LO N bs bm bc n W):=by
 subst hN;have nH:(XM n).length=n:=by simp[XM]
 have r1:=aq W n W.heap.size hn (Z2 _);have r3:=World.ownsRow_lit (base:=W.heap.size) (e:=139) (size:=1) ((W.alloc (.cells (madeCells #[.int .i64 0] n) 3)).alloc (.cells #[.slice (some ⟨W.heap.size,0,none⟩) n n] 42)) #[.slice none 0 0] 1 (by simp;omega) (by unfold maxLen;omega) rfl
 have e3:((W.alloc (.cells (madeCells #[.int .i64 0] n) 3)).alloc (.cells #[.slice (some ⟨W.heap.size,0,none⟩) n n] 42)).heap.size=W.heap.size+2:=by simp
 rw[e3] at r3;have Y':(LO W.heap.size bs bm bc n W).heap.size=W.heap.size+4:=by unfold LO;simp
 have hb:Bw W (LO W.heap.size bs bm bc n W):=(((Z4 _ _).alloc (by simp) _).alloc (by simp;omega) _).alloc (by simp;omega) _
 have q1:(LO W.heap.size bs bm bc n W).ownsRow W.heap.size 3 1 (.slice (some ⟨W.heap.size,0,none⟩) n n) n ((XM n).map (Value.int .i64)):=((r1.alloc _).alloc _).alloc _;refine⟨⟨by omega,⟨W,Z2 _,hW,hb⟩,by rw[nH];exact q1,?_,?_,.slice none 0 0,r3.alloc _,ZH _ _ _ _⟩,hb⟩
 ·rw[nH]
  unfold LO;rw[W7 _ _ _ (by simp),W7 _ _ _ (by simp)]
  exact Zu _ _ _ 0 (by simp)
 unfold LO;exact Zu _ _ _ 0 (by simp)
theorem nG (m:Mod) (con:Nat) (c:MCon) (vs cs:Value) (w:World) (hm:Zs m=0) (hc:m.cons[con]? = some c) (Y8:MArg w vs cs m) :
 Calls prog 120 #[modV vs cs m,.int .i64 con] w λe w'=>∃x,e=.returned x/\w'.ownsRow w.heap.size 136 1 x (XB m.vars c).length (u64s (XB m.vars c))/\Bw w w':=by
 have Y3:Hid (∀w',Bw w w'->MArg w' vs cs m):=λw' h=>MArg.below h Y8
 have HM:=hI hm;have HC:=hI hc;have H6:m.vars.length<=6:=(RH m hm).2.1;have VY:con<m.cons.length:=(ZN.1 hc).1;have TY:Hid (KX m (con:Int)=(YC c,0)):=by
  show _=_;have h1:KY m (con:Int)=0:=by unfold KY;rw[if_pos hm,if_neg (by omega)]
  unfold KX;rw[if_pos h1,YK,ZO,hc];rfl
 have Jh:=run_make_row' (P:=prog) 42 3 (.int .i64 0) 8 aw aA rfl .i64 .i64 m.vars.length (by omega) (by omega)
 obtain⟨⟨a1,c1,rfl,Y0,_⟩,⟨a2,c2,rfl,_,_⟩⟩:=Y8;unfold maxLen at Y0;obtain⟨Ql,Y0⟩:=Y0;unfold modV;clear hm hc;go_enter func120,ntmps120
 go_wp2_with fail
 refine (da m (con:Int) _ _ _ (Y3.o _ ((Z4 _ _).alloc (by simp) _))).mono ?_
 rw[TY.o];rintro e w1 ⟨x,rfl,hx,Z5⟩;have Z3:Bw w w1:=((Z4 _ _).alloc (by simp) _).trans (Z5.mono (by simp;omega))
 have VN:w1.cell? ⟨w.heap.size,0,none⟩=some (.slice a1 m.vars.length c1):=(Z5.cell (by simp;omega)).trans ((W7 _ _ _ (by simp)).trans (Zu _ _ _ 0 (by simp)))
 have Jx:w1.cell? ⟨w.heap.size,1,none⟩=some (.slice a2 m.cons.length c2):=(Z5.cell (by simp;omega)).trans ((W7 _ _ _ (by simp)).trans (Zu _ _ _ 1 (by simp)))
 have YA:w1.cell? ⟨w.heap.size+1,0,none⟩=some (.int .i64 con):=(Z5.cell (by simp)).trans (Zu _ _ _ 0 (by simp))
 have Xm:w.heap.size+1<w1.heap.size:=by have:=Z5.size;simp at this;omega
 have WS:w.heap.size<w1.heap.size:=by omega
 have HX:=hI hx;obtain⟨ax,cx,rfl,_,_⟩:=hx;have ZW:=hI Z3;have vf:Hid (∀v∈YC c,0<=v/\v<(m.vars.length:Int)):=(E6 m HM.o con c HC.o).1;have Wz:Hid ((YC c).length<=8):=aB m HM.o con c HC.o;have Rl:Hid (_):=ak (W:=w1.alloc (.cells #[.slice ax (YC c).length cx] 42)) (N:=w1.heap.size+1) (bs:=w1.heap.size) (bm:=w.heap.size) (bc:=w.heap.size+1) (con:=con) (n:=m.vars.length) (m:=m) (scope:=YC c) (by simp) H6
  ⟨Y3.o _ (ZW.o.alloc ZW.o.size _),IArg.below (Z4 _ _) HX.o,Zu _ _ _ 0 (by simp),(W7 _ _ _ WS).trans VN,(W7 _ _ _ WS).trans Jx,(W7 _ _ _ Xm).trans YA⟩
 clear Z5 Z3;go_wp2_with fail
 have Xx:Hid (Bw w (LO (w1.heap.size+1) w1.heap.size w.heap.size (w.heap.size+1) m.vars.length (w1.alloc (.cells #[.slice ax (YC c).length cx] 42)))):=(ZW.o.alloc ZW.o.size _).trans (Rl.o.2.mono (by have:=ZW.o.size;omega))
 have aj:Hid ((XM m.vars.length).length=m.vars.length):=by show _=_;simp[XM]
 refine (aJ (w1.heap.size+1) w1.heap.size w.heap.size (w.heap.size+1) m con c _ _ _ (YC c) HM.o HC.o vf.o Wz.o (YC c) 0 (XM m.vars.length) 0 [] (LO (w1.heap.size+1) w1.heap.size w.heap.size (w.heap.size+1) m.vars.length (w1.alloc (.cells #[.slice ax (YC c).length cx] 42))) rfl (YI _) aj.o (λx hx=>by have:=It hx;omega) (by omega) ?_ Rl.o.1).mono ?_
 ·have h2:6 ^ (YC c).length<=6 ^ 8:=SS (by omega) Wz.o
  simp only[Tw];omega
 rintro e w2 ⟨rfl,vals',ER,_,_,_,ZY⟩;have Sd:Hid (Bw w w2):=Xx.o.trans (ZY.mono (by have:=ZW.o.size;omega))
 obtain⟨Y',_,_,_,_,ov,ho,hr⟩:=ER;have He:Hid (w2.ownsRow w.heap.size 136 1 ov (XB m.vars c).length (u64s (XB m.vars c))):=World.ownsRow.mono hr (by have:=ZW.o.size;omega)
 obtain⟨ao,co,rfl⟩:=ZJ hr;have LR:w2.cell? ⟨w1.heap.size+1+1+1,0,none⟩=some (.slice ao ([]++VP m.vars c (YC c) (XM m.vars.length) 0).length co):=ho.cellAt 0 (by omega)
 have YM:w1.heap.size+1+1+1<w2.heap.size:=by omega
 clear hr ho ZY Rl;go_wp2
 go_ret
 exact⟨_,rfl,He.o,Sd.o⟩
theorem nF (m:Mod) (hm:Zs m=0) (j:Nat) (c:MCon) (hc:m.cons[j]? = some c):∀z∈XB m.vars c,z<2 ^ 36:=nP m.vars (LZ m hm) c _ _ _ (E6 m hm j c hc).1 (by omega)
structure Fr (X:Nat->Prop) (w w':World):Prop where
 os:w'.os=w.os
 tape:w'.tape=w.tape
 output:w'.output=w.output
 size:w.heap.size<=w'.heap.size
 block:∀k,k<w.heap.size->¬X k->w'.heap[k]? = w.heap[k]?
theorem Fr.refl (X:Nat->Prop) (w:World):Fr X w w:=⟨rfl,rfl,rfl,Z2 _,λ_ _ _=>rfl⟩
theorem Fr.trans {X:Nat->Prop} {a b c:World} (h:Fr X a b) (k:Fr X b c):Fr X a c :=
 ⟨k.os.trans h.os,k.tape.trans h.tape,k.output.trans h.output,ZT h.size k.size,λi hi hx=>(k.block i (ZQ hi h.size) hx).trans (h.block i hi hx)⟩
theorem Fr.below {X:Nat->Prop} {w w':World} (h:Bw w w'):Fr X w w':=⟨h.os,h.tape,h.output,h.size,λk hk _=>h.block k hk⟩
theorem Fr.cell {X:Nat->Prop} {w w':World} (h:Fr X w w') {p:Addr} (hp:p.block<w.heap.size) (hx:¬X p.block):w'.cell? p=w.cell? p:=WD (w:=w) (h.block p.block hp hx)
theorem Fr.setX {X:Nat->Prop} {a w:World} (h:Fr X a w) {p:Addr} (hp:X p.block) (u:Value):Fr X a (w.setCell p u) :=
 ⟨h.os,h.tape,h.output,by simpa using h.size,λk hk hx=>(Below.heap_setCell _ _ _ _ (λe=>hx (by rw[e];exact hp))).trans (h.block k hk hx)⟩
theorem Fr.setNew {X:Nat->Prop} {a w:World} (h:Fr X a w) {p:Addr} (hp:a.heap.size<=p.block) (u:Value):Fr X a (w.setCell p u) :=
 ⟨h.os,h.tape,h.output,by simpa using h.size,λk hk hx=>(Below.heap_setCell _ _ _ _ (by omega)).trans (h.block k hk hx)⟩
theorem Fr.alloc {X:Nat->Prop} {a w:World} (h:Fr X a w) (o:Obj):Fr X a (w.alloc o):=h.trans (Fr.below (Z4 _ _))
theorem Z_ {w:World} {b:Nat} {cs:Array Value} {t:TypeId} (h:w.heap[b]? = some (.cells cs t)) (i:Nat) (v:Value) (hv:cs[i]? = some v):w.cell? ⟨b,i,none⟩=some v:=by
 rw[Lib.cell_of_heap h];exact hv
theorem Z0 {w:World} {b:Nat} {cs:Array Value} {t:TypeId} (h:w.heap[b]? = some (.cells cs t)) (i:Nat):w.frozen? ⟨b,i,none⟩=false:=by
 unfold World.frozen?;simp only[h];simp
theorem V_ {w:World} {B:Nat} {e t:TypeId} {size n:Nat} {v:Value} {xs:List Value} (h:w.ownsRow B e size v n xs) {C:Nat} {cs:Array Value} (hC:w.heap[C]? = some (.cells cs t)) (ht:t≠e) (i:Nat) (u:Value):(w.setCell ⟨C,i,none⟩ u).ownsRow B e size v n xs:=by
 refine⟨h.1,?_⟩;rcases h.2 with hn | ⟨g,cap,cur,hv,hg,hh,r⟩
 ·exact .inl hn
 have ZP:g≠C:=by
  intro e1;rw[e1,hC] at hh
  injection hh with h1
  injection h1 with _ h2
  exact ht h2
 exact .inr ⟨g,cap,cur,hv,hg,(Below.heap_setCell _ _ _ _ ZP).trans hh,r⟩
theorem Fr.weak {X Y:Nat->Prop} {w w':World} (h:Fr X w w') (ai:∀k,X k->Y k):Fr Y w w':=⟨h.os,h.tape,h.output,h.size,λk hk hx=>h.block k hk λhX=>hx (ai k hX)⟩
theorem Fr.grown {X:Nat->Prop} {a w w':World} {row:Option Nat} (h:Fr X a w) (hg:w.grownBy w' row) (hr:∀k,row=some k->X k∨a.heap.size<=k):Fr X a w' :=
 ⟨hg.os.trans h.os,hg.tape.trans h.tape,hg.output.trans h.output,ZT h.size hg.size,λk hk hx=>(hg.block k (ZQ hk h.size) (λe=>(hr k e.symm).elim hx (λh2=>by omega))).trans (h.block k hk hx)⟩
theorem Fr.toBelow {w w':World} (h:Fr (λk=>w.heap.size<=k) w w'):Bw w w':=⟨h.os,h.tape,h.output,h.size,λk hk=>h.block k hk (by omega)⟩
theorem C7 {w:World} {B B':Nat} {e e':TypeId} {s s' n n':Nat} {v v':Value} {xs xs':List Value} (h:w.ownsRow B e s v n xs) (h':w.ownsRow B' e' s' v' n' xs') (ZP:e≠e'):v.ownBlock=none∨v.ownBlock≠v'.ownBlock:=by
 rcases h.2 with ⟨rfl,_⟩ | ⟨g,cap,cur,rfl,hg,hh,_⟩
 ·exact Or.inl rfl
 right
 intro he;rcases h'.2 with ⟨rfl,_⟩ | ⟨g',cap',cur',rfl,R8,nE,_⟩
 ·cases he
 have:g=g':=by injection he
 subst this;rw[hh] at nE
 injection nE with h1
 injection h1 with _ h2
 exact ZP h2
theorem P_ {w w':World} {B B':Nat} {e e':TypeId} {s s' n n':Nat} {v v':Value} {xs xs':List Value} (h:w.ownsRow B e s v n xs) (hg:w.grownBy w' v'.ownBlock) (h':w.ownsRow B' e' s' v' n' xs') (ZP:e≠e'):w'.ownsRow B e s v n xs :=
 h.kept hg (C7 h h' ZP)
theorem Sz {w w':World} {B:Nat} {e:TypeId} {s n:Nat} {v:Value} {xs:List Value} {r:Nat} {cs:Array Value} {t:TypeId} (h:w.heap[r]? = some (.cells cs t)) (hg:w.grownBy w' v.ownBlock) (h':w.ownsRow B e s v n xs) (ZP:t≠e):w'.heap[r]? = some (.cells cs t):=by
 have Z7:r<w.heap.size:=(Z8.1 h).1;refine (hg.block r Z7 ?_).trans h;intro he;rcases h'.2 with ⟨rfl,_⟩ | ⟨g,cap,cur,rfl,_,hh,_⟩
 ·cases he
 have:g=r:=by injection he with e1;exact e1.symm
 subst this;rw[hh] at h
 injection h with h1
 injection h1 with _ h2
 exact ZP h2.symm
theorem ah:(prog.info? 139).map (λi=>(i.zero,i.size,i.bytes))=some (some (.slice none 0 0),1,24):=by kernel_rfl
theorem ag:prog.underlying 138=some (.slice 139):=by kernel_rfl
theorem zL:prog.underlying 139=some (.slice 136):=by kernel_rfl
def PRow (B:Nat) (w:World) (pv:Value) (L:List (List Nat)):Prop :=
 ∃cells,w.ownsRow B 139 1 pv L.length cells/\∀(i:Nat) (pts:List Nat),L[i]? = some pts->∃x,cells[i]? = some x/\w.ownsRow B 136 1 x pts.length (u64s pts)
theorem PRow.below {B:Nat} {w w':World} {pv:Value} {L:List (List Nat)} (h:PRow B w pv L) (hb:Bw w w'):PRow B w' pv L:=by
 obtain⟨cells,h1,h2⟩:=h;refine⟨cells,YZ h1 hb,λi pts hi=>?_⟩
 obtain⟨x,h3,h4⟩:=h2 i pts hi;exact⟨x,h3,YZ h4 hb⟩
theorem EP {X:Nat->Prop} {w w':World} {B:Nat} {e:TypeId} {s n:Nat} {v:Value} {xs:List Value} (h:w.ownsRow B e s v n xs) (hf:Fr X w w') (hx:∀g,v.ownBlock=some g->¬X g):w'.ownsRow B e s v n xs:=by
 refine⟨h.1,?_⟩;rcases h.2 with hn | ⟨g,cap,cur,hv,hg,hh,r⟩
 ·exact .inl hn
 exact .inr ⟨g,cap,cur,hv,hg,(hf.block g (Z8.1 hh).1 (hx g (by rw[hv];rfl))).trans hh,r⟩
theorem PRow.fr {X:Nat->Prop} {B:Nat} {w w':World} {pv:Value} {L:List (List Nat)} (h:PRow B w pv L) (hf:Fr X w w') (hx:∀g,X g->g<B):PRow B w' pv L:=by
 obtain⟨cells,h1,h2⟩:=h;refine⟨cells,EP h1 hf (λg hg hX=>?_),λi pts hi=>?_⟩
 ·have:=(h1.lt g hg).1
  have:=hx g hX;omega
 obtain⟨x,h3,h4⟩:=h2 i pts hi;refine⟨x,h3,EP h4 hf (λg hg hX=>?_)⟩
 have:=(h4.lt g hg).1;have:=hx g hX;omega
theorem PRow.arg {B:Nat} {w:World} {pv:Value} {L:List (List Nat)} (h:PRow B w pv L) (hl:∀pts∈L,∀z∈pts,z<2 ^ 36):zGg w pv L:=by
 obtain⟨cells,h1,h2⟩:=h;rcases h1.2 with ⟨rfl,hn⟩ | ⟨g,cap,cur,rfl,hg,hh,X',Yb,_,_⟩
 ·have:L=[]:=Xf hn
  subst this;exact⟨none,0,rfl,⟨Z2 _,YI _⟩,λi z hz=>by simp at hz⟩
 refine⟨_,cap,rfl,⟨X',Yb⟩,λi pts hi=>?_⟩
 obtain⟨x,h3,h4⟩:=h2 i pts hi;have KK:i<L.length:=(ZN.1 hi).1;exact⟨g,0,x,rfl,(Z8.1 hh).1,by rw[Zn,h1.cellAt i (by omega)];exact h3,EQ h4 (hl pts (Zz hi))⟩
theorem PRow.push {B:Nat} {w w':World} {pv v' x:Value} {L:List (List Nat)} {cells:List Value} {pts:List Nat} {n:Nat} (hc:w.ownsRow B 139 1 pv L.length cells) (h2:∀(i:Nat) (p:List Nat),L[i]? = some p->∃x,cells[i]? = some x/\w.ownsRow B 136 1 x p.length (u64s p))
 (hx:w.ownsRow B 136 1 x pts.length (u64s pts)) (hg:w.grownBy w' pv.ownBlock) (hn:n=L.length+1) (ho:w'.ownsRow B 139 1 v' n (cells++[x])):PRow B w' v' (L++[pts]):=by
 have XD:cells.length=L.length:=by have:=hc.1;omega
 refine⟨cells++[x],by rw[ZC];rw[hn] at ho;exact ho,λi p hi=>?_⟩
 by_cases KK:i<L.length
 ·rw[V8 KK] at hi
  obtain⟨y,h3,h4⟩:=h2 i p hi;exact⟨y,by rw[V8 (by omega)];exact h3,P_ h4 hg hc (by decide)⟩
 have Zr:=(ZN.1 hi).1;rw[ZC] at Zr;have:i=L.length:=by simp at Zr;omega
 subst this;rw[V9 (Z2 _),Nat.sub_self] at hi;have:pts=p:=by simpa using hi
 subst this;exact⟨x,by rw[V9 (by omega),XD,Nat.sub_self];rfl,P_ hx hg hc (by decide)⟩
structure Rul (W:World) (r:Nat) (sv pv:Value) (vs:List MVar) (pt:List (List Nat)):Prop where
 lt:r<W.heap.size
 keep:∀w',Fr (λk=>k=r) W w'->VArg w' sv vs/\zGg w' pv pt/\TabT w'
structure RulD (W w:World) (r:Nat) (sv pv cv:Value) (cs:List Nat):Prop where
 blk:w.heap[r]? = some (.cells #[sv,pv,cv] 141)
 own:w.ownsRow W.heap.size 136 1 cv cs.length (u64s cs)
 lt36:∀z∈cs,z<2 ^ 36
 fr:Fr (λk=>k=r) W w
theorem RulD.at {W w:World} {r:Nat} {sv pv cv:Value} {vs:List MVar} {pt:List (List Nat)} {cs:List Nat} (h:RulD W w r sv pv cv cs) (hr:Rul W r sv pv vs pt):RulesAt w r sv pv cv vs pt cs :=
 ⟨(Z8.1 h.blk).1,Z_ h.blk 0 _ rfl,Z_ h.blk 1 _ rfl,Z_ h.blk 2 _ rfl,(hr.keep w h.fr).1,(hr.keep w h.fr).2.1,EQ h.own h.lt36,(hr.keep w h.fr).2.2⟩
theorem RulD.below {W w w':World} {r:Nat} {sv pv cv:Value} {cs:List Nat} (h:RulD W w r sv pv cv cs) (hb:Bw w w'):RulD W w' r sv pv cv cs :=
 ⟨(hb.block r (Z8.1 h.blk).1).trans h.blk,YZ h.own hb,h.lt36,h.fr.trans (Fr.below hb)⟩
theorem nD (w:World) (z:Nat):∀(j:Nat) (u:Value),([Value.int .u64 (z:Int)]:List Value)[j]? = some u->(w.alloc (.cells #[.int .u64 (z:Int)] 136)).cell? ((⟨w.heap.size,0,none⟩:Addr).add j)=some u:=by
 intro j u hj
 match j,hj with
 | 0,hj=>simp at hj;subst hj;simp[Addr.add]
theorem af (w:World) (x:Value):∀(j:Nat) (u:Value),([x]:List Value)[j]? = some u->(w.alloc (.cells #[x] 139)).cell? ((⟨w.heap.size,0,none⟩:Addr).add j)=some u:=by
 intro j u hj
 match j,hj with
 | 0,hj=>simp at hj;subst hj;simp[Addr.add]
theorem RulD.push {W w w1 w2:World} {r:Nat} {sv pv cv v':Value} {cs:List Nat} {z n:Nat} (h:RulD W w r sv pv cv cs) (hz:z<2 ^ 36) (hb:Bw w w1) (hg:w1.grownBy w2 cv.ownBlock) (hn:n=cs.length+1) (ho:w2.ownsRow W.heap.size 136 1 v' n (u64s cs++[.int .u64 (z:Int)])) :
 RulD W (w2.setCell ⟨r,2,none⟩ v') r sv pv v' (cs++[z])/\Fr (λk=>k=r∨cv.ownBlock=some k) w (w2.setCell ⟨r,2,none⟩ v'):=by
 have h1:=h.below hb;have ZY:w2.heap[r]? = some (.cells #[sv,pv,cv] 141):=Sz h1.blk hg h1.own (by decide)
 have Hd:w2.ownsRow W.heap.size 136 1 v' (cs++[z]).length (u64s (cs++[z])):=by
  rw[ZC,V6,<-hn];unfold u64s at *;rw[YY];exact ho
 refine⟨⟨?_,V_ Hd ZY (by decide) 2 _,λy hy=>?_,?_⟩,?_⟩
 ·rw[heap_setCell_same w2 r 2 _ _ v' ZY];rfl
 ·rcases Xn.1 hy with h3 | h3
  ·exact h.lt36 y h3
  rw[Zh.1 h3];exact hz
 ·exact (h1.fr.grown hg (λk hk=>Or.inr ((h1.own.lt k hk).1))).setX (p:=⟨r,2,none⟩) rfl _
 exact Fr.setX (X:=λk=>k=r∨cv.ownBlock=some k) ((Fr.below hb).grown hg (λk hk=>Or.inl (Or.inr hk))) (p:=⟨r,2,none⟩) (Or.inl rfl) _
theorem nC (vs:List MVar) (Zf:Vb vs) (pt:List (List Nat)) (cs:List Nat) (Wx:cs.length<=100000) (cl:Cla) (W:World) (r:Nat) (sv pv cv u:Value) (w:World) (hR:Rul W r sv pv vs pt) (hD:RulD W w r sv pv cv cs) (hu:LArg w u cl) :
 Calls prog 83 #[.pointer (some ⟨r,0,none⟩),u] w λe w'=>e=.returned (.tuple #[])/\∃cv',RulD W w' r sv pv cv' (cs++[zAH vs cl])/\Fr (λk=>k=r∨cv.ownBlock=some k) w w':=by
 obtain⟨i0,WJ,Ze,Y_,Zb⟩:=info_parts Da;have HD:=hI hD;have U0:=hD.at hR;have HU:Hid (∀Y,Bw w Y->LArg Y u cl):=λY hY=>LArg.below hY hu
 have HV:Hid (∀Y,Bw w Y->VArg Y sv vs):=λY hY=>VArg.below hY U0.hv
 have YQ:=hI Zf;have EO:Hid (∃a c,cv=.slice a cs.length c):=ZJ hD.own;obtain⟨ac,cc,rfl⟩:=EO.o;have g0:=U0.c0;have g2:=U0.c2;have gl:=U0.lt;have gz:w.frozen? ⟨r,2,none⟩=false:=Z0 hD.blk 2;obtain⟨h,hh⟩:∃h,zAH vs cl=h:=⟨_,rfl⟩;have HH:=hI hh;have VC:Hid (h<2 ^ 36):=by rw[<-hh];exact Qh vs Zf.1 _
 rw[hh];obtain⟨a,c,rfl,_,_⟩:=U0.hv;obtain⟨a2,c2,rfl,_,_⟩:=hu;have EN:Hid (∀Y,Bw w Y->Calls prog 85 #[.slice a (List.length vs) c,.slice a2 (List.length cl) c2] Y λe w'=>e=.returned (.int .u64 (h:Int))/\Bw Y w'):=λY hY=>by
  rw[<-HH.o];exact Jp vs YQ.o cl _ _ Y (HV.o _ hY) (HU.o _ hY)
 have ae:Hid (W.heap.size<=w.heap.size):=hD.fr.size;clear hD Zf hh U0 hR EO;go_enter func83,ntmps83
 go_wp2_with fail
 go_region_law
  (first
    | (rw[if_pos (by rfl)];refine wp_append_own _ _ _ 139 rfl W.heap.size 136 i0 _ 1 8 zL WJ Ze Y_ Zb rfl (by decide) _ _ _ rfl (V'.alloc _) ⟨w3.heap.size,0,none⟩ 1 1 [.int .u64 (h:Int)] rfl rfl (nD w3 h) (by intro u hu;simp at hu;subst hu;rfl) ?_ ?_ ?_ ?_;(unfold maxLen;omega);omega;(have:=hB3.size;have:=ae.o;simp;omega);intro v4 w4 Zw SG _;have hP:=RulD.push HD.o VC.o (hB3.alloc hB3.size (.cells #[.int .u64 (h:Int)] 136)) SG rfl Zw;obtain⟨a9,b9,Rk⟩:=ZJ Zw;subst Rk;have d2:w4.cell? ⟨r,2,none⟩=some (.slice ac cs.length cc):=Z_ (Sz (HD.o.below (hB3.alloc hB3.size (.cells #[.int .u64 (h:Int)] 136))).blk SG (V'.alloc _) (by decide)) 2 _ rfl;have z2:w4.frozen? ⟨r,2,none⟩=false:=Z0 (Sz (HD.o.below (hB3.alloc hB3.size (.cells #[.int .u64 (h:Int)] 136))).blk SG (V'.alloc _) (by decide)) 2)
    | (rw[if_pos (by rfl)];go_simp;go_at_call 85;refine (EN.o _ (Z6 _ _).drew).mono ?_;rintro e w3 ⟨rfl,ZG⟩;have hB3:Bw w w3:=(Z6 _ _).drew.trans ZG;have c3:w3.cell? ⟨r,2,none⟩=some (.slice ac cs.length cc):=(hB3.cell (p:=⟨r,2,none⟩) gl).trans g2;have V':w3.ownsRow W.heap.size 136 1 (.slice ac cs.length cc) cs.length (u64s cs):=YZ HD.o.own hB3;have l3:r<w3.heap.size:=ZQ gl hB3.size;dsimp only))
 all_goals
  go_wp2
  go_end0
  exact⟨rfl,_,hP.1,hP.2⟩
theorem Hb:(prog.info? 76).map (λi=>(i.zero,i.size,i.bytes))=some (some (.agg #[.int .i64 0,.int .i64 0,.int .i64 0]),3,24):=by kernel_rfl
theorem nB:prog.underlying 28=some (.slice 76):=by kernel_rfl
def TH (t:MLit):List Value:=[.int .i64 t.var,.int .i64 t.op,.int .i64 t.n]
def U_ (l:Cla):List Value:=l.flatMap TH
theorem ve (l:Cla):(U_ l).length=l.length * 3:=by
 induction l with
 | nil=>rfl
 | cons t r ih=>unfold U_ at *;rw[Qw,ZC,ih,Xe];simp[TH];omega
theorem nA (l:Cla) (i:Nat) (t:MLit) (h:l[i]? = some t):(U_ l)[i * 3]? = some (.int .i64 t.var)/\(U_ l)[i * 3+1]? = some (.int .i64 t.op)/\(U_ l)[i * 3+2]? = some (.int .i64 t.n):=by
 induction l generalizing i with
 | nil=>cases h
 | cons a r ih =>
   unfold U_ at *;rw[Qw];have hl:(TH a).length=3:=rfl;cases i with
   | zero=>cases h;exact⟨rfl,rfl,rfl⟩
   | succ i =>
     obtain⟨h1,h2,h3⟩:=ih i (by simpa using h)
     refine⟨?_,?_,?_⟩
     ·rw[V9 (by rw[hl];omega),hl,show (i+1) * 3 - 3=i * 3 by omega];exact h1
     ·rw[V9 (by rw[hl];omega),hl,show (i+1) * 3+1 - 3=i * 3+1 by omega];exact h2
     rw[V9 (by rw[hl];omega),hl,show (i+1) * 3+2 - 3=i * 3+2 by omega];exact h3
def LOwn (base:Nat) (w:World) (v:Value) (l:Cla):Prop:=w.ownsRow base 76 3 v l.length (U_ l)
theorem LOwn.arg {base:Nat} {w:World} {v:Value} {l:Cla} (h:LOwn base w v l):LArg w v l:=by
 have h':w.ownsRow base 76 3 v l.length (U_ l):=h;rcases h'.2 with ⟨rfl,hn⟩ | ⟨g,cap,cur,rfl,hg,hh,X',Yb,_,_⟩
 ·have:l=[]:=Xf hn
  subst this;exact⟨none,0,rfl,⟨Z2 _,YI _⟩,λi z hz=>by simp at hz⟩
 refine⟨_,cap,rfl,⟨X',Yb⟩,λi t ht=>?_⟩
 have hi:i<l.length:=(ZN.1 ht).1;obtain⟨g1,g2,g3⟩:=nA l i t ht;exact⟨g,0,rfl,(Z8.1 hh).1,by rw[Zn,h'.cellAt (i * 3) (by omega)];exact g1,by rw[Zn,h'.cellAt (i * 3+1) (by omega)];exact g2,by rw[Zn,h'.cellAt (i * 3+2) (by omega)];exact g3⟩
theorem nz (w:World) (t:MLit):∀(j:Nat) (u:Value),(TH t)[j]? = some u->(w.alloc (.cells #[.int .i64 t.var,.int .i64 t.op,.int .i64 t.n] 76)).cell? ((⟨w.heap.size,0,none⟩:Addr).add j)=some u:=by
 intro j u hj
 match j,hj with
 | 0,hj=>simp[TH] at hj;subst hj;simp[Addr.add]
 | 1,hj=>simp[TH] at hj;subst hj;simp[Addr.add]
 | 2,hj=>simp[TH] at hj;subst hj;simp[Addr.add]
theorem va (vs:List MVar) (Zf:Vb vs) (p:Nat) (hp:∀i,p.testBit i=true->(zAN vs).testBit i=true) (sv:Value) (w:World) (hv:VArg w sv vs) (hT:TabT w) :
 Calls prog 154 #[sv,.int .u64 p] w λe w'=>∃x,e=.returned x/\LOwn w.heap.size w' x (VE vs p)/\Bw w w':=by
 have YQ:=hI Zf;have HT:Hid (∀w',Bw w w'->TabT w'):=λw' h=>hT.below h
 have KQ:Hid (p<2 ^ 36):=by
  show p<2 ^ 36;apply Iv;intro i hi;cases hb:p.testBit i
  ·rfl
  have:=hp i hb;unfold zAN at this;rw[Lg (ZQ (Qh vs Zf.1 _) (SS (by omega) hi))] at this
  cases this
 have HPW:=hI hp;obtain⟨a,c,rfl,hm,hr⟩:=hv;have HV:=hI hr
 unfold maxLen at hm;obtain⟨Y0,hm⟩:=hm;have h6:=Zf.1.1;obtain⟨i0,hi,Ze,Y_,Zb⟩:=info_parts Hb;clear hr Zf hp hT;go_enter func154,ntmps154
 go_wp2_with fail
 go_loopw [5,6] (λv r wr=>∃(q:Nat) (done:Cla),r=.int .u64 (q:Int)/\LOwn w.heap.size wr v done/\Hid (VE vs p=done++VE vs q)/\Hid (q<2 ^ 36)/\Hid (∀i,q.testBit i=true->p.testBit i=true)/\Bw w wr) (λ_ r _=>(intOf r).toNat)
 case atStart=>exact⟨p,[],rfl,ZH _ _ _ _,rfl,KQ,λ_ h=>h,Z6 _ _⟩
 obtain⟨q,done,rfl,Z9,Sy,VD,Ic,Z3⟩:=hrel;have Yo:=hI Z9;have ZW:=hI Z3;obtain⟨ao,co,rfl⟩:=ZJ (show wr.ownsRow _ _ _ _ _ _ from Z9)
 clear Z9 Z3;by_cases VN:q=0
 ·subst VN
  have HE:Hid (LOwn w.heap.size wr (.slice ao (List.length done) co) (VE vs p)):=by
   have:VE vs p=done:=by rw[Sy.o];simp[VE,cD]
   rw[this];exact Yo.o
  clear Sy Ic;go_wp2
  go_ret
  exact⟨_,rfl,HE.o,ZW.o⟩
 obtain⟨ZZ,KJ⟩:=Ag q VN VD.o;obtain⟨k,hk⟩:∃k,Lib.ctz 64 q=k:=⟨_,rfl⟩;have Wg:=H3 q VN (by have:=VD.o;omega)
 have TW:=Ah q VN (by have:=VD.o;omega)
 obtain⟨q2,YA⟩:∃q2,q &&& (q - 1)=q2:=⟨_,rfl⟩;have HQS:Hid (∀i,q2.testBit i=true->p.testBit i=true):=λi hi=>by
  rw[<-YA,(Wg i).2.2,ZB] at hi;exact Ic.o i hi.1
 have ny:=(Wg k).2.1 hk.symm;have C6:=HPW.o k (Ic.o k ny);unfold zAN ofP at C6;rw[OS vs YQ.o.1] at C6;simp only[ZB,decide_eq_true_eq] at C6;have TM:k / 6<vs.length:=C6.1;have Ug:=YQ.o.2 (k / 6) TM;obtain⟨lo,YM⟩:∃lo,(ZF vs (k / 6)).lo=lo:=⟨_,rfl⟩;have HN:Hid (VE vs p=(done++[⟨((k / 6:Nat):Int),3,lo+((k % 6:Nat):Int)⟩])++VE vs q2):=by
  show _=_;rw[Sy.o,SO]
  congr 1
  unfold VE;rw[ZZ,hk,YA,VH,YM];rfl
 rw[hk] at KJ;rw[YA] at TW;obtain⟨_,b,off,Wv,hb,_,c1,_⟩:=HV.o (k / 6) _ (E1 TM);subst Wv;have X':=(ZW.o.cell (p:=⟨b,off+k / 6 * 3+1,none⟩) hb).trans c1;rw[YM] at X' Ug;have HK:=hI hk;have hdl:done.length<=36:=by
  have h1:=E3 vs p;rw[Sy.o,ZC] at h1;omega
 have u_:Hid (q<2 ^ 36):=VD.o;have YW:Hid (q2<2 ^ 36):=by have:=VD.o;show _<_;omega
 have P':IntKind.u64.wrap ((q:Int) - 1)=((q - 1:Nat):Int):=by rw[IntKind.wrap_u64];have:=VD.o;omega
 have OO:=bits_and_u64_nat q (q - 1) (by have:=VD.o;omega) (by have:=VD.o;omega)
 rw[YA] at OO;have ZP:((q:Int) != 0)=true:=by simpa using VN
 have zK:=hI TW;have df:-100<=lo+((k % 6:Nat):Int)/\lo+((k % 6:Nat):Int)<=100:=by omega
 clear ZZ Wg Ic VD ny C6 Sy YM YA hk c1 TW VN;go_wp2_with fail
 refine (od q (by have:=u_.o;omega) _ (HT.o _ ZW.o)).mono ?_
 rintro e w1 ⟨rfl,rfl⟩;rw[HK.o];obtain⟨t,ht⟩:∃t:MLit,t=⟨(k:Int) / 6,3,lo+(k:Int) % 6⟩:=⟨_,rfl⟩;have Z9:w1.ownsRow w.heap.size 76 3 (.slice ao (List.length done) co) (List.length done) (U_ done):=Yo.o;have YE:Hid (VE vs p=(done++[t])++VE vs q2):=by show _=_;rw[ht];exact HN.o
 have Qn:=ZW.o.size;go_wp2_with (at_builtin;refine wpList_append_own _ rfl _ _ 28 rfl w.heap.size 76 i0 (.agg #[.int .i64 0,.int .i64 0,.int .i64 0]) 3 24 nB hi Ze Y_ Zb rfl (by decide) _ _ _ rfl (Z9.alloc _) ⟨w1.heap.size,0,none⟩ 1 1 (TH ⟨(k:Int) / 6,3,lo+(k:Int) % 6⟩) rfl rfl ?c1 ?c2 ?c3 ?c4 ?c5 ?_)
 case c1=>exact nz w1 ⟨(k:Int) / 6,3,lo+(k:Int) % 6⟩
 case c2=>intro u hu;simp[TH] at hu;rcases hu with rfl | rfl | rfl <;> rfl
 case c3=>unfold maxLen;omega
 case c4=>omega
 case c5=>simp;omega
 intro v3 w3 ZX Z1 _;have u7:Hid (LOwn w.heap.size w3 v3 (done++[t])):=by
  show World.ownsRow _ _ _ _ _ _ _;unfold U_;rw[ZC,RW,ht];simpa[U_] using ZX
 have ZM:Hid (Bw w w3):=(ZW.o.alloc Qn _).grown Z1 (by simp;omega) (λg h=>(Z9.lt g h).1)
 clear ZX Z1 Z9 X';go_wp2
 go_roundw
 case rel=>exact⟨q2,done++[t],rfl,u7.o,YE,YW,HQS,ZM.o⟩
 case measure=>simp[intOf];exact zK.o
theorem nx (T:TypeId) (hT:prog.underlying T=some (.slice 76)) (w:World) (ty:TypeId) (base n c:Nat) (v:Value) (xs:List Value) (Z9:w.ownsRow base 76 3 v n xs) :
 (Builtin.append_ #[T,T] ty #[v,.slice none 0 c]).run prog w=.ok v w:=by
 obtain⟨i0,hi,Ze,Y_,Zb⟩:=info_parts Hb;rcases Z9.2 with ⟨rfl,rfl⟩ | ⟨g,cap,cur,rfl,_,_,L8,_⟩
 ·simp[Builtin.append_,run_underlying hT,sizeOf,typeInfo,hi,Builtin.lenOf,Builtin.firstCells]
 simp[Builtin.append_,run_underlying hT,sizeOf,typeInfo,hi,Builtin.lenOf,Builtin.firstCells,L8,storeCells]
theorem nw (l:Cla):∀u∈U_ l,u.oneCell'=true:=by
 intro u hu;obtain⟨t,_,ht⟩:=UV.1 hu;simp[TH] at ht;rcases ht with rfl | rfl | rfl <;> rfl
theorem nu (l:Cla) (j:Nat) (y:Value) (h:(U_ l)[j]? = some y):∃(i:Nat) (t:MLit),l[i]? = some t/\((j=i * 3/\y=.int .i64 t.var)∨(j=i * 3+1/\y=.int .i64 t.op)∨(j=i * 3+2/\y=.int .i64 t.n)):=by
 have hj:j<l.length * 3:=by rw[<-ve];exact (ZN.1 h).1
 have hi:j / 3<l.length:=by omega
 obtain⟨g0,g1,g2⟩:=nA l (j / 3) l[j / 3] (by simp[hi])
 refine⟨j / 3,l[j / 3],by simp[hi],?_⟩
 rcases (by omega:j=j / 3 * 3∨j=j / 3 * 3+1∨j=j / 3 * 3+2) with hq | hq | hq
 ·rw[<-hq,h] at g0;exact Or.inl ⟨hq,Zl g0⟩
 ·rw[<-hq,h] at g1;exact Or.inr (Or.inl ⟨hq,Zl g1⟩)
 rw[<-hq,h] at g2;exact Or.inr (Or.inr ⟨hq,Zl g2⟩)
theorem uZ (T:TypeId) (hT:prog.underlying T=some (.slice 76)) {w:World} {ops:Array Oper} {rest:List Oper} {o:Oper} {a:Act} {Q:Exit->Act->World->Prop} (SH:o.guard=none) (s x:Operand)
 (ho:o.op=.call { callee:=.builtin .append,args:=#[s,x],argTypes:=#[T,T] }) (base:Nat)
 (v:Value) (xs:Cla) (hs:a.eval s=v) (Z9:LOwn base w v xs)
 (u:Value) (l:Cla) (hx:a.eval x=u) (hl:LArg w u l) (hn:xs.length+l.length<=1000) (Yv:base<=w.heap.size)
 (h:∀v' w',LOwn base w' v' (xs++l)->w.grownBy w' v.ownBlock->wpList prog ops Q rest (a.put o.dst v') w'):wpList prog ops Q (o :: rest) a w:=by
 obtain⟨i0,hi,Ze,Y_,Zb⟩:=info_parts Hb;obtain⟨q,c,rfl,hm,hc⟩:=hl;have UB:w.ownsRow base 76 3 v xs.length (U_ xs):=Z9;cases q with
 | none =>
   have Xm:l=[]:=by
    cases l with
    | nil=>rfl
    | cons z r=>obtain⟨b,off,hq,_⟩:=hc 0 z rfl;cases hq
   subst Xm;refine wpList_plain SH λK hK=>?_
   have hr:=nx T hT w o.type base xs.length c v _ UB;unfold Oper.wp execOp;simp only[ho,resolve,invoke,builtin,Sem.run_bind,Sem.run_pure,Result.andThen_ok,Qu,VH,T9,hs,hx,Tw,hr];exact hK _ _ (h v w (by rw[TA];exact Z9) ⟨rfl,rfl,rfl,Z2 _,λ_ _ _=>rfl⟩)
 | some ad =>
   refine wpList_append_own w SH s x T ho base 76 i0 (.agg #[.int .i64 0,.int .i64 0,.int .i64 0]) 3 24 hT hi Ze Y_ Zb rfl (by decide) v xs.length _ hs UB ad l.length c (U_ l) hx (ve l) ?_ (nw l) (by unfold maxLen;omega) (by omega) Yv ?_
   ·intro j y hy
    obtain⟨i,t,ht,Rj⟩:=nu l j y hy;obtain⟨b,off,hq,_,c0,c1,c2⟩:=hc i t ht;cases hq
    rw[L7];rcases Rj with ⟨rfl,rfl⟩ | ⟨rfl,rfl⟩ | ⟨rfl,rfl⟩
    ·exact c0
    ·rw[<-UU];exact c1
    rw[<-UU];exact c2
   intro v' w' h1 h2 h3;refine h v' w' ?_ h2;show w'.ownsRow _ _ _ _ _ _;unfold U_ at *;rw[ZC,RW];exact h1
theorem zV9 (w:World):LArg w (.slice none 0 0) []:=⟨none,0,rfl,⟨Z2 _,YI _⟩,λi z hz=>by simp at hz⟩
theorem nt {w:World} {l:Cla} {n c:Nat} (h:LArg w (.slice none n c) l):l=[]:=by
 obtain⟨a,c2,he,_,hr⟩:=h;cases l with
 | nil=>rfl
 | cons z r =>
   obtain⟨b,off,hq,_⟩:=hr 0 z rfl;rw[hq] at he;cases he
theorem Ri {base base':Nat} {w:World} {v:Value} {l:Cla} (hb:base'<=base) (h:LOwn base w v l):LOwn base' w v l:=World.ownsRow.mono h hb
theorem nn (w:World):LOwn w.heap.size (w.alloc (.cells #[] 76)) (.slice (some ⟨w.heap.size,0,none⟩) 0 0) []:=World.ownsRow_made w #[] 0 (Z2 _) (YI _) (by simp)
theorem uY:prog.underlying 28=some (.slice 76):=by kernel_rfl
theorem nk (l:Cla) (hl:l.length<=900) (u:Value) (w:World) (hu:LArg w u l) :
 Calls prog 91 #[u] w λe w'=>∃x,e=.returned x/\LOwn w.heap.size w' x l/\Bw w w':=by
 have HU:Hid (∀w',Bw w w'->LArg w' u l):=λw' h=>LArg.below h hu
 have q22:∀(w:World) (a:Option Addr) (n c n' c':Nat),(binOp .eql 28 (.slice a n c) (.slice none n' c')).run prog w=.ok (.bool a.isNone) w:=λw a n c n' c'=>Lib.run_eql_slice_nil w _ _ a n c n' c' uY
 obtain⟨a,c,he,_,_⟩:=id hu;subst he;cases a with
 | none =>
   have:=nt hu;subst this;clear hu HU;go_enter func91,ntmps91
   go_wp2
   go_ret
   exact⟨_,rfl,ZH _ _ _ _,Z6 _ _⟩
 | some ad =>
   have HL:=hI hl;clear hu hl;go_enter func91,ntmps91
   go_wp2_with (at_builtin;refine uZ 28 uY rfl _ _ rfl w.heap.size _ [] rfl (nn w) _ l rfl (HU.o _ (Z4 _ _)) ?c1 ?c2 ?_)
   case c1=>have:=HL.o;simp;omega
   case c2=>simp
   intro v3 w3 ZX Z1;have ZM:Hid (Bw w w3):=(Z4 _ _).grown Z1 (by simp) (by intro k hk;simp[Value.ownBlock] at hk;omega)
   have WL:=hI ZX;obtain⟨av,cv,rfl⟩:=ZJ (show w3.ownsRow _ _ _ _ _ _ from ZX)
   clear ZX Z1;go_wp2
   go_ret
   exact⟨_,rfl,WL.o,ZM.o⟩
theorem zJ:prog.underlying 27=some (.slice 76):=by kernel_rfl
theorem nj (l:Cla) (hl:l.length<=900) (u:Value) (w:World) (hu:LArg w u l) :
 Calls prog 227 #[u] w λe w'=>∃x,e=.returned x/\LOwn w.heap.size w' x l/\Bw w w':=by
 have HU:Hid (∀w',Bw w w'->LArg w' u l):=λw' h=>LArg.below h hu
 have q22:∀(w:World) (a:Option Addr) (n c n' c':Nat),(binOp .eql 27 (.slice a n c) (.slice none n' c')).run prog w=.ok (.bool a.isNone) w:=λw a n c n' c'=>Lib.run_eql_slice_nil w _ _ a n c n' c' zJ
 obtain⟨a,c,he,_,_⟩:=id hu;subst he;cases a with
 | none =>
   have:=nt hu;subst this;clear hu HU;go_enter func227,ntmps227
   go_wp2
   go_ret
   exact⟨_,rfl,ZH _ _ _ _,Z6 _ _⟩
 | some ad =>
   have HL:=hI hl;clear hu hl;go_enter func227,ntmps227
   go_wp2_with (at_builtin;refine uZ 27 zJ rfl _ _ rfl w.heap.size _ [] rfl (nn w) _ l rfl (HU.o _ (Z4 _ _)) ?c1 ?c2 ?_)
   case c1=>have:=HL.o;simp;omega
   case c2=>simp
   intro v3 w3 ZX Z1;have ZM:Hid (Bw w w3):=(Z4 _ _).grown Z1 (by simp) (by intro k hk;simp[Value.ownBlock] at hk;omega)
   have WL:=hI ZX;obtain⟨av,cv,rfl⟩:=ZJ (show w3.ownsRow _ _ _ _ _ _ from ZX)
   clear ZX Z1;go_wp2
   go_ret
   exact⟨_,rfl,WL.o,ZM.o⟩
end Go.Proofs.YtndcpnlaadikoaaGreatDoor
