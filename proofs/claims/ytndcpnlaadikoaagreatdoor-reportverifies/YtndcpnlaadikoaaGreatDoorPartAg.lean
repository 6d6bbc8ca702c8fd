/- What the proof leans on, part 7. -/
import Derived.Test.YtndcpnlaadikoaaGreatDoorPartAf
set_option maxRecDepth 100000
set_option maxHeartbeats 1600000
open Go.Proofs.Tryz
namespace Go.Proofs.YtndcpnlaadikoaaGreatDoor
open Go.RowKit Go.Sort
def Tr (c:MCon):List Int:=c.vars++c.lits.map (·.var)
def YC (c:MCon):List Int:=Ob (PA (Tr c))
def KX (m:Mod) (con:Int):List Int×Int:=if KY m con=0 then (YC (m.cons.getD con.toNat Ao),0) else ([],KY m con)
theorem dv (n:Nat) (hn:n<=1000) (w:World):∃w',Sem.run prog (Instr.makeSlice 42 (.int .i64 0) (.int .i64 (n:Int))) w=.ok (.slice (some ⟨w.heap.size,0,none⟩) 0 n) w' /\
 w'.ownsRow w.heap.size 3 1 (.slice (some ⟨w.heap.size,0,none⟩) 0 n) 0 []/\Bw w w':=by
 obtain⟨i0,hi,Ze,Y_,Zb⟩:=info_parts E_;obtain⟨w',XW,Z9,hg⟩:=run_makeSlice_owned w w.heap.size 42 3 i0 (.int .i64 0) 1 DL hi Ze Y_ .i64 .i64 n (by omega) (by rw[Zb];omega) (by unfold maxLen;omega) (Z2 _)
 exact⟨w',XW,Z9,(Z6 _ _).grown hg (Z2 _) (λk h=>by cases h)⟩
theorem du (w:World) (ty:TypeId) (base n c:Nat) (v:Value) (xs:List Value) (Z9:w.ownsRow base 3 1 v n xs) :
 (Builtin.append_ #[42,42] ty #[v,.slice none 0 c]).run prog w=.ok v w:=by
 obtain⟨i0,hi,Ze,Y_,Zb⟩:=info_parts E_;rcases Z9.2 with ⟨rfl,rfl⟩ | ⟨g,cap,cur,rfl,_,_,L8,_⟩
 ·simp[Builtin.append_,run_underlying DL,sizeOf,typeInfo,hi,Builtin.lenOf,Builtin.firstCells]
 simp[Builtin.append_,run_underlying DL,sizeOf,typeInfo,hi,Builtin.lenOf,Builtin.firstCells,L8,storeCells]
theorem dt (l:List Int):∀u∈l.map (Value.int .i64),u.oneCell'=true:=by
 intro u hu;obtain⟨z,_,rfl⟩:=Zj.1 hu;rfl
theorem L7 (b off j:Nat):(⟨b,off,none⟩:Addr).add j=⟨b,off+j,none⟩:=by unfold Addr.add;split <;> simp_all
theorem wL {w:World} {ops:Array Oper} {rest:List Oper} {o:Oper} {a:Act} {Q:Exit->Act->World->Prop} (SH:o.guard=none) (s x:Operand)
 (ho:o.op=.call { callee:=.builtin .append,args:=#[s,x],argTypes:=#[42,42] }) (base:Nat)
 (v:Value) (xs:List Int) (hs:a.eval s=v) (Z9:w.ownsRow base 3 1 v xs.length (xs.map (Value.int .i64)))
 (u:Value) (l:List Int) (hx:a.eval x=u) (hl:IArg w u l) (hn:xs.length+l.length<=1000) (Yv:base<=w.heap.size)
 (h:∀v' w',w'.ownsRow base 3 1 v' (xs++l).length ((xs++l).map (Value.int .i64))->w.grownBy w' v.ownBlock->(v≠.slice none 0 0->v'≠.slice none 0 0)->wpList prog ops Q rest (a.put o.dst v') w'):wpList prog ops Q (o :: rest) a w:=by
 obtain⟨i0,hi,Ze,Y_,Zb⟩:=info_parts E_;obtain⟨q,c,rfl,hm,hc⟩:=hl;cases q with
 | none =>
   have Xm:l=[]:=by
    cases l with
    | nil=>rfl
    | cons z r=>obtain⟨b,off,hq,_⟩:=hc 0 z rfl;cases hq
   subst Xm;refine wpList_plain SH λK hK=>?_
   have hr:=du w o.type base xs.length c v _ Z9;unfold Oper.wp execOp;simp only[ho,resolve,invoke,builtin,Sem.run_bind,Sem.run_pure,Result.andThen_ok,Qu,VH,T9,hs,hx,Tw,hr];exact hK _ _ (h v w (by rw[TA];exact Z9) ⟨rfl,rfl,rfl,Z2 _,λ_ _ _=>rfl⟩ (λh=>h))
 | some ad =>
   refine wpList_append_own w SH s x 42 ho base 3 i0 (.int .i64 0) 1 8 DL hi Ze Y_ Zb rfl (by decide) v xs.length _ hs Z9 ad l.length c (l.map (Value.int .i64)) hx (by simp) ?_ (dt l) (by unfold maxLen;omega) (by omega) Yv ?_
   ·intro j y hy
    rw[YN] at hy;obtain⟨z,hz,rfl⟩:=QB.1 hy;obtain⟨b,off,hq,_,Vi⟩:=hc j z hz;cases hq
    rw[L7];exact Vi
   intro v' w' h1 h2 h3;refine h v' w' (by rw[ZC,YY];exact h1) h2 (λhv UC=>hv (h3.1 UC).1)
def accL (c:MCon) (k:Nat):List Int:=c.vars++(c.lits.take k).map (·.var)
theorem dr (c:MCon):accL c 0=c.vars:=by simp[accL]
theorem dq (c:MCon) (k:Nat) (t:MLit) (h:c.lits[k]? = some t):accL c (k+1)=accL c k++[t.var]:=by
 unfold accL;rw[Y1,h];simp
theorem dp (c:MCon) (k:Nat) (h:k<=c.lits.length):(accL c k).length=c.vars.length+k:=by
 unfold accL;simp;omega
theorem dm (c:MCon):accL c c.lits.length=Tr c:=by unfold accL Tr;rw[Qv]
theorem dk {w:World} {base n:Nat} {v:Value} {xs:List Value} (h:w.ownsRow base 3 1 v n xs):∃a cap,v=.slice a n cap:=by
 rcases h.2 with ⟨rfl,rfl⟩ | ⟨g,cap,cur,rfl,_⟩
 ·exact⟨_,_,rfl⟩
 exact⟨_,_,rfl⟩
theorem dj {w:World} {base n:Nat} {v:Value} {xs:List Value} (h:w.ownsRow base 3 1 v n xs) (hv:v≠.slice none 0 0):∃g cap,v=.slice (some ⟨g,0,none⟩) n cap/\base<=g/\n<=cap/\cap<=maxLen:=by
 rcases h.2 with ⟨rfl,rfl⟩ | ⟨g,cap,cur,rfl,hg,_,hc,hm,_⟩
 ·exact absurd rfl hv
 exact⟨g,cap,rfl,hg,hc,hm⟩
theorem di (w:World) (o:Obj) (z:Int):IArg ((w.alloc o).alloc (.cells #[.int .i64 z] 3)) (.slice (some ⟨w.heap.size+1,0,none⟩) 1 1) [z]:=by
 refine⟨_,1,rfl,⟨by simp,by unfold maxLen;omega⟩,λi y hy=>?_⟩
 match i,hy with
 | 0,hy=>cases hy;exact⟨_,0,rfl,by simp,Zu _ _ _ _ (by simp)⟩
theorem dh (m:Mod) (con:Int) (vs cs:Value) (w:World) (hm:MArg w vs cs m) :
 Calls prog 28 #[modV vs cs m,.int .i64 con] w λe w'=>∃x,e=.returned (.tuple #[x,.int .i64 (KX m con).2])/\IArg w' x (KX m con).1/\Bw w w'/\(x=.slice none 0 0∨∃g cap,x=.slice (some ⟨g,0,none⟩) (KX m con).1.length cap/\w.heap.size<=g/\IRow w' g (KX m con).1):=by
 have Y3:Hid (∀w':World,Bw w w'->MArg w' vs cs m):=λw' h=>MArg.below h hm
 obtain⟨⟨a1,c1,rfl,_,_⟩,⟨a2,c2,rfl,Yn,Yq⟩⟩:=hm;have HC:=hI Yq
 unfold maxLen at Yn;obtain⟨Nq,Yn⟩:=Yn;obtain⟨R,hR⟩:∃R,KX m con=R:=⟨_,rfl⟩;rw[hR];obtain⟨er,Yy⟩:∃er,KY m con=er:=⟨_,rfl⟩;have Xj:=hI Yy;have HE:Hid (R=if er=0 then (YC (m.cons.getD con.toNat Ao),0) else ([],er)):=by rw[<-hR,<-Yy];rfl
 clear hR Yy Yq;unfold modV;go_enter func28,ntmps28
 go_wp2_with fail
 refine (dG m con (.slice a1 m.vars.length c1) (.slice a2 m.cons.length c2) _ ?_).mono ?_
 ·exact Y3.o _ (Z4 _ _)
 rintro e w1 ⟨rfl,Z5⟩;rw[Xj.o];have d1:w1.cell? ⟨w.heap.size,1,none⟩=some (.slice a2 m.cons.length c2):=(Z5.cell (by simp)).trans (by simp)
 have ZU:Hid (Bw w w1):=(Z4 _ _).trans (Z5.mono (by simp))
 have Vt:w.heap.size+1<=w1.heap.size:=by simpa using Z5.size
 clear Z5;by_cases he:er=0
 ·subst he
  obtain⟨o1,o2,o3⟩:=dF m con Xj.o;obtain⟨j,rfl⟩:∃j:Nat,con=(j:Int):=⟨con.toNat,by omega⟩
  have OW:j<m.cons.length:=by omega
  obtain⟨c,hc⟩:∃c,m.cons[j]? = some c:=⟨m.cons[j],by simp[OW]⟩
  have HN:Hid (R=(YC c,0)):=by
   rw[HE.o,if_pos rfl,YK,ZO,hc];rfl
  obtain⟨Jz,Ar,_,_⟩:=As c (DH _ _ (Ik m o1 j c hc)).2.1;obtain⟨b,off,vv,vc,vr,vl,ha,hb,f0,f1,f2,f3,f4,f5,QV⟩:=HC.o j c hc;subst ha;have e0:=(ZU.o.cell (p:=⟨b,off+j * 6,none⟩) hb).trans f0;have e1:=(ZU.o.cell (p:=⟨b,off+j * 6+1,none⟩) hb).trans f1;have e2:=(ZU.o.cell (p:=⟨b,off+j * 6+2,none⟩) hb).trans f2;have e3:=(ZU.o.cell (p:=⟨b,off+j * 6+3,none⟩) hb).trans f3;have e4:=(ZU.o.cell (p:=⟨b,off+j * 6+4,none⟩) hb).trans f4;have e5:=(ZU.o.cell (p:=⟨b,off+j * 6+5,none⟩) hb).trans f5;obtain⟨⟨q1,r1,rfl,KW,Jx⟩,⟨q2,r2,rfl,_,_⟩,⟨q3,r3,rfl,_,_⟩,⟨q4,r4,rfl,hm4,hq4⟩⟩:=QV;have Xw:=hI Jx;have Vc:=hI hq4
  unfold maxLen at hm4;obtain⟨OY,hm4⟩:=hm4;obtain⟨i0,hi,Ze,Y_,Zb⟩:=info_parts E_;obtain⟨wm,XW,Z9,Ta⟩:=dv (c.vars.length+c.lits.length) (by omega) (w1.alloc (.cells #[.int .i64 c.kind,.slice q1 c.vars.length r1,.slice q2 c.consts.length r2,.int .i64 c.n,.slice q3 c.rows.length r3,.slice q4 c.lits.length r4] 69))
  have wK:wm.cell? ⟨w1.heap.size,1,none⟩=some (.slice q1 c.vars.length r1):=(Ta.cell (by simp)).trans (by simp)
  have Dz:wm.cell? ⟨w1.heap.size,5,none⟩=some (.slice q4 c.lits.length r4):=(Ta.cell (by simp)).trans (by simp)
  have df:w1.heap.size+1<=wm.heap.size:=by simpa using Ta.size
  have Vq:Hid (Bw w wm):=(ZU.o.alloc ZU.o.size _).trans (Ta.mono (by simp;omega))
  rw[show (w1.alloc (.cells #[.int .i64 c.kind,.slice q1 c.vars.length r1,.slice q2 c.consts.length r2,.int .i64 c.n,.slice q3 c.rows.length r3,.slice q4 c.lits.length r4] 69)).heap.size=w1.heap.size+1 by simp] at Z9 XW
  rw[Int.natCast_add] at XW;obtain⟨B,wJ⟩:∃B,B=w1.heap.size+1:=⟨_,rfl⟩;have X4:Hid (wm.ownsRow B 3 1 (.slice (some ⟨B,0,none⟩) 0 (c.vars.length+c.lits.length)) 0 []):=by rw[wJ];exact Z9
  clear hc f0 f1 f2 f3 f4 f5 hb Jx hq4 Ta Z9 o1 o2 o3;have Jw:Hid (IArg wm (.slice q1 c.vars.length r1) c.vars):=IArg.below Vq.o ⟨q1,r1,rfl,KW,Xw.o⟩;rw[<-wJ] at XW;have Jv:w.heap.size+2<=B:=by omega
  have Un:w1.heap.size<B:=by omega
  have o8:B<=wm.heap.size:=by omega
  clear wJ;go_wp2_with (at_builtin;refine wL rfl _ _ rfl B _ [] rfl X4.o _ c.vars rfl Jw.o (by simp;omega) o8 ?_)
  intro v3 w3 ZX Oa H9;have ZM:Hid (Bw w w3):=Vq.o.grown Oa Vq.o.size (λk h=>by cases h;exact (by omega:w.heap.size<=B))
  have ZP:some w1.heap.size≠some B:=λh=>by have:=Zl h;omega
  have AG:w3.cell? ⟨w1.heap.size,5,none⟩=some (.slice q4 c.lits.length r4):=Oa.cell Dz ZP;clear ZP;have Dy:B<=w3.heap.size:=ZT o8 Oa.size;have Dx:Hid (w3.ownsRow B 3 1 v3 (accL c 0).length ((accL c 0).map (Value.int .i64))):=by rw[dr];exact ZX
  have wI:Hid (v3≠.slice none 0 0):=by first | exact H9 | exact H9 (by simp)
  clear ZX Oa H9 wK Dz XW X4 Jw e0 e1 e2 e3 e4 e5 d1;go_wp2_with fail
  clear AG;go_loopw [8,37] (λv i wr=>∃k:Nat,k<=c.lits.length/\i=.int .i64 k/\wr.ownsRow B 3 1 v (accL c k).length ((accL c k).map (Value.int .i64))/\Hid (v≠.slice none 0 0)/\Bw w wr/\B<=wr.heap.size) (λ_ i _=>c.lits.length - (intOf i).toNat)
  case atStart=>exact⟨0,by omega,rfl,Dx.o,wI,ZM.o,Dy⟩
  obtain⟨k,hk,rfl,Z9,Nh,Z3,de⟩:=hrel;by_cases Z7:k<c.lits.length
  ·obtain⟨t,ht⟩:∃t,c.lits[k]? = some t:=⟨c.lits[k],by simp[Z7]⟩
   have Uk:Hid (accL c (k+1)=accL c k++[t.var]):=dq c k t ht;have OT:(accL c k).length<=8:=by rw[dp c k hk];omega
   obtain⟨b4,off4,rfl,Zd,g0,g1,g2⟩:=Vc.o k t ht;have k0:=(Z3.cell (p:=⟨b4,off4+k * 3,none⟩) Zd).trans g0;have k1:=(Z3.cell (p:=⟨b4,off4+k * 3+1,none⟩) Zd).trans g1;have k2:=(Z3.cell (p:=⟨b4,off4+k * 3+2,none⟩) Zd).trans g2;have Yo:=hI Z9;have ZW:=hI Z3;obtain⟨ax,cx,rfl⟩:=dk Z9;obtain⟨acc,YX⟩:∃acc,accL c k=acc:=⟨_,rfl⟩;rw[YX] at Uk OT Yo Nh ⊢;clear ht g0 g1 g2 Zd Z9 Z3 YX;go_wp2_with (at_builtin;refine wL rfl _ _ rfl B _ acc rfl ((Yo.o.alloc _).alloc _) _ [t.var] rfl (di _ _ _) (by simp;omega) (by simp;omega) ?_)
   intro v4 w4 Zw SG Dw;have S_:Hid (w4.ownsRow B 3 1 v4 (acc++[t.var]).length ((acc++[t.var]).map (Value.int .i64))):=by
    show w4.ownsRow _ _ _ _ _ _;rw[ZC,YY];first | exact Zw | simpa using Zw
   have Yp:Hid (Bw w w4):=((ZW.o.alloc ZW.o.size _).alloc (by have:=ZW.o.size;simp;omega) _).grown SG (by have:=ZW.o.size;simp;omega) (λg h=>by have:=(Yo.o.lt g h).1;omega)
   have L6:Hid (v4≠.slice none 0 0):=by
    have h:=Nh.o
    first | exact Dw h | (intro h4;simp_all)
   have dd:B<=w4.heap.size:=by have:=SG.size;simp at this;omega
   clear Zw SG Dw;go_wp2
   go_roundw
   case rel=>exact⟨k+1,by omega,by go_num,by rw[Uk.o];exact S_.o,L6,Yp.o,dd⟩
   case measure=>simp[intOf];omega
  have PG:k=c.lits.length:=by omega
  have Uk:Hid (accL c k=Tr c):=by show _=_;rw[PG];exact dm c
  obtain⟨g,cap,rfl,hg,Ni,SF⟩:=dj Z9 Nh.o;have db:Hid (IRow wr g (Tr c)):=by rw[<-Uk.o];exact dD Z9
  have ZW:=hI Z3;rw[Uk.o] at Ni ⊢;have hn8:(Tr c).length<=8:=by unfold Tr;simp;omega
  clear Z9 Nh Z3 PG;go_wp2_with fail
  refine (dz (Tr c) g cap w.heap.size _ db.o (by omega) (by omega)).mono ?_
  rintro e w5 ⟨rfl,Ng,Yd⟩;have QT:=hI Ng;have Xx:=hI (ZW.o.trans Yd);clear Ng Yd;go_wp2_with fail
  rw[<-DA (Tr c)];refine (dw (PA (Tr c)) g cap w.heap.size _ QT.o (by omega) (by rw[DA];omega) (by rw[DA];exact Ni)).mono ?_
  rintro e w6 ⟨rfl,N_,Yz⟩;have HF:Hid (IArg w6 (.slice (some ⟨g,0,none⟩) (Ob (PA (Tr c))).length cap) (YC c)):=dC N_ rfl (by have h1:=wM (PA (Tr c));rw[DA] at h1;omega) SF
  have Sd:=hI (Xx.o.trans Yz);have U4:Hid (IRow w6 g (YC c)/\w.heap.size<=g):=⟨N_,by omega⟩
  clear N_ Yz;go_wp2
  go_ret2
  rw[HN.o];exact⟨_,rfl,HF.o,Sd.o,Or.inr ⟨g,cap,rfl,U4.o.2,U4.o.1⟩⟩
 have HN:Hid (R=([],er)):=by rw[HE.o,if_neg he];rfl
 have V3:(er != 0)=true:=by simpa using he
 clear he;go_wp2
 go_ret2
 rw[HN.o];exact⟨_,rfl,⟨none,0,rfl,⟨Z2 _,YI _⟩,λi z h=>by simp at h⟩,ZU.o,Or.inl rfl⟩
theorem da (m:Mod) (con:Int) (vs cs:Value) (w:World) (hm:MArg w vs cs m) :
 Calls prog 28 #[modV vs cs m,.int .i64 con] w λe w'=>∃x,e=.returned (.tuple #[x,.int .i64 (KX m con).2])/\IArg w' x (KX m con).1/\Bw w w' :=
 (dh m con vs cs w hm).mono λ_ _ ⟨x,h1,h2,h3,_⟩=>⟨x,h1,h2,h3⟩
def S9 (s:Sto):List Int->List Int->List (List Int)
 | [],vals=>[vals]
 | v :: r,vals=>(s.getD v.toNat []).flatMap λx=>S9 s r (vals.set v.toNat x)
def c_ (scope u:List Int):List (Int×Int):=scope.map λv=>(v,Zx u v)
def metK (c:MCon) (scope:List Int) (us:List (List Int)):List (Int×Int):=us.flatMap λu=>if YL c u then c_ scope u else []
def XM (n:Nat):List Int:=List.replicate n 0
def An (c:MCon) (s:Sto):List (Int×Int):=metK c (YC c) (S9 s (YC c) (XM s.length))
def Nf (c:MCon) (s:Sto) (k:Nat) (z:Int):Bool :=
 if zAI s then true
 else if (YC c).length=0 then YL c (XM s.length)
 else if hasB (YC c) (k:Int) then (An c s).contains ((k:Int),z)
 else true
def TL (c:MCon) (s:Sto):Sto:=V0 s (Nf c s)
theorem cZ (zs:List Int) (x:Int):x∈Ob zs↔x∈zs:=by
 unfold Ob Lib.compact Lib.compactUpTo
 constructor
 ·intro h
  obtain⟨i,hi,rfl⟩:=Zj.1 h;have E8:i<zs.length:=W6.1 (WC.1 hi).1;simp[getElem!_pos,E8]
 intro h;obtain⟨i,hi,rfl⟩:=List.mem_iff_getElem.1 h;have key:∀(j:Nat) (hj:j<zs.length),zs[j]∈((List.range zs.length).filter (Lib.keeps zs.toArray)).map (zs.toArray[·]!):=by
  intro j
  induction j with
  | zero =>
    intro hj;exact Zj.2 ⟨0,WC.2 ⟨W6.2 hj,by simp[Lib.keeps]⟩,by simp[getElem!_pos,hj]⟩
  | succ j ih =>
    intro hj;by_cases hk:Lib.keeps zs.toArray (j+1)=true
    ·exact Zj.2 ⟨j+1,WC.2 ⟨W6.2 hj,hk⟩,by simp[getElem!_pos,hj]⟩
    have he:zs[j+1]=zs[j]:=by
     have h1:¬(j+1=0∨zs.toArray[j+1]! ≠ zs.toArray[j+1 - 1]!):=by simpa[Lib.keeps] using hk
     have h2:zs.toArray[j+1]! = zs.toArray[j]! := by
      by_cases h3:zs.toArray[j+1]! = zs.toArray[j]!
      ·exact h3
      exact absurd (Or.inr h3) h1
     rw[getElem!_pos zs.toArray (j+1) (by simpa using hj),getElem!_pos zs.toArray j (by simp;omega)] at h2
     simpa using h2
    rw[he];exact ih (by omega)
 exact key i hi
theorem Am (c:MCon) (x:Int):x∈YC c↔x∈Tr c:=by
 unfold YC;rw[cZ];unfold PA;exact (List.mergeSort_perm _ _).mem_iff
theorem cY (vars a b:List Int) (h:∀v∈vars,Zx a v=Zx b v):ownV vars a=ownV vars b:=Nz h
theorem cW (a b:List Int) (l:MLit) (h:Zx a l.var=Zx b l.var):litB a l=litB b l:=by unfold litB;rw[h]
theorem E7 (c:MCon) (a b:List Int) (h:∀v∈YC c,Zx a v=Zx b v) (hl:c.kind=10->c.lits≠[]):YL c a=YL c b:=by
 have h0:∀v∈c.vars,Zx a v=Zx b v:=λv hv=>h v ((Am c v).2 (Lf _ hv))
 have h1:∀l∈c.lits,litB a l=litB b l:=λl hl=>cW a b l (h _ ((Am c _).2 (List.mem_append_right _ (Zj.2 ⟨l,hl,rfl⟩))))
 have h2:=cY c.vars a b h0;have h3:c.lits.any (litB a)=c.lits.any (litB b):=by
  rw[Yg,Yh,Yh];exact⟨fun⟨l,hm,hq⟩=>⟨l,hm,by rw[<-h1 l hm];exact hq⟩,fun⟨l,hm,hq⟩=>⟨l,hm,by rw[h1 l hm];exact hq⟩⟩
 by_cases hk:c.kind=10
 ·have h4:litB a (c.lits.getD 0 ⟨0,0,0⟩)=litB b (c.lits.getD 0 ⟨0,0,0⟩):=by
   match hc:c.lits with
   | []=>exact absurd hc (hl hk)
   | l :: r=>exact h1 l (by rw[hc];exact Zk ..)
  unfold YL;rw[h2,h3,h4]
 unfold YL;rw[h2,h3];simp only[hk,if_false]
theorem wH (vals:List Int) (v x:Int) (h:v.toNat<vals.length):Zx (vals.set v.toNat x) v=x:=by
 unfold Zx;rw[ZO,Uu h];rfl
theorem wG (vals:List Int) (v x u:Int) (h:v.toNat≠u.toNat):Zx (vals.set v.toNat x) u=Zx vals u:=by
 unfold Zx;rw[ZO,ZO,WE h]
theorem wF (s:Sto):∀(r vals u:List Int),u∈S9 s r vals->u.length=vals.length
 | [],vals,u,h=>by simp[S9] at h;rw[h]
 | v :: r,vals,u,h=>by
   unfold S9 at h;obtain⟨x,_,hx⟩:=UV.1 h;have:=wF s r _ u hx;simpa using this
theorem o7 (s:Sto):∀(r vals u:List Int),u∈S9 s r vals->∀w:Int,(∀v∈r,v.toNat≠w.toNat)->Zx u w=Zx vals w
 | [],vals,u,h,w,_=>by simp[S9] at h;rw[h]
 | v :: r,vals,u,h,w,hw=>by
   unfold S9 at h;obtain⟨x,_,hx⟩:=UV.1 h;rw[o7 s r _ u hx w (λv' hv=>hw v' (Y2 _ hv)),wG _ _ _ _ (hw v (Zk ..))]
theorem wE (s:Sto):∀(r vals u:List Int),(∀v∈r,v.toNat<vals.length)->u∈S9 s r vals->∀w∈r,∃v∈r,v.toNat=w.toNat/\Zx u w∈s.getD v.toNat []
 | [],vals,u,_,h,w,hw=>by cases hw
 | v :: r,vals,u,hb,h,w,hw=>by
   unfold S9 at h;obtain⟨x,TK,hx⟩:=UV.1 h;by_cases hq:∃v'∈r,v'.toNat=w.toNat
   ·obtain⟨v',UC,he⟩:=hq
    obtain⟨v2,hv2,V3,hm⟩:=wE s r _ u (λv'' wD=>by simpa using hb v'' (Y2 _ wD)) hx v' UC
    refine⟨v2,Y2 _ hv2,by omega,?_⟩
    have:Zx u w=Zx u v':=by unfold Zx;rw[he]
    rw[this];exact hm
   have ZP:∀v'∈r,v'.toNat≠w.toNat:=λv' UC he=>hq ⟨v',UC,he⟩
   have L4:w=v:=by
    rcases YJ.1 hw with h | h
    ·exact h
    exact absurd rfl (ZP w h)
   subst L4;refine⟨w,Zk ..,rfl,?_⟩;rw[o7 s r _ u hx w ZP,wH _ _ _ (hb w (Zk ..))];exact TK
theorem wC (s:Sto):∀(r vals u:List Int),(∀v∈r,v.toNat<vals.length)->u.length=vals.length->(∀v∈r,Zx u v∈s.getD v.toNat []) ->
 (∀w:Nat,(∀v∈r,v.toNat≠w)->u[w]? = vals[w]?)->u∈S9 s r vals
 | [],vals,u,_,hl,_,ho=>by
   simp only[S9,Zh];exact RS λw=>ho w (λv hv=>by cases hv)
 | v :: r,vals,u,hb,hl,hi,ho=>by
   unfold S9;refine UV.2 ⟨Zx u v,hi v (Zk ..),?_⟩;refine wC s r _ u (λv' UC=>by simpa using hb v' (Y2 _ UC)) (by simpa using hl) (λv' UC=>hi v' (Y2 _ UC)) λw hw=>?_
   by_cases L4:w=v.toNat
   ·subst L4
    have Z7:=hb v (Zk ..);rw[Uu Z7];unfold Zx;rw[ZO];rw[ZA (by omega)];rfl
   rw[WE (λh=>L4 h.symm)]
   refine ho w λv' UC=>?_
   rcases YJ.1 UC with rfl | h
   ·exact λh=>L4 h.symm
   exact hw v' h
def UQ (r a b:List Int):Prop:=a.length=b.length/\∀w:Nat,(∀v∈r,v.toNat≠w)->a[w]? = b[w]?
theorem UQ.refl (r a:List Int):UQ r a a:=⟨rfl,λ_ _=>rfl⟩
theorem UQ.trans {r a b c:List Int} (h:UQ r a b) (k:UQ r b c):UQ r a c:=⟨h.1.trans k.1,λw hw=>(h.2 w hw).trans (k.2 w hw)⟩
theorem UQ.symm {r a b:List Int} (h:UQ r a b):UQ r b a:=⟨h.1.symm,λw hw=>(h.2 w hw).symm⟩
theorem UQ.cons {r a b:List Int} (v:Int) (h:UQ r a b):UQ (v :: r) a b:=⟨h.1,λw hw=>h.2 w λv' UC=>hw v' (Y2 _ UC)⟩
theorem UQ.set {r a b:List Int} {v:Int} (x:Int) (h:UQ (v :: r) a b):UQ r (a.set v.toNat x) (b.set v.toNat x):=by
 refine⟨by simpa using h.1,λw hw=>?_⟩
 by_cases L4:w=v.toNat
 ·subst L4
  by_cases Z7:v.toNat<a.length
  ·rw[Uu Z7,Uu (by rw[<-h.1];exact Z7)]
  rw[V7 (by simp;omega),V7 (by have:=h.1;simp;omega)]
 rw[WE (λh=>L4 h.symm),WE (λh=>L4 h.symm)]
 refine h.2 w λv' UC=>?_
 rcases YJ.1 UC with rfl | h'
 ·exact λh=>L4 h.symm
 exact hw v' h'
theorem UQ.of_set (r a:List Int) (v x:Int):UQ (v :: r) a (a.set v.toNat x):=by
 refine⟨by simp,λw hw=>?_⟩
 rw[WE (hw v (Zk ..))]
def Part (c:MCon) (s:Sto) (k:Nat) (z:Int):Prop:=∃u:List Int,u.length=s.length/\(∀v∈YC c,Zx u v∈s.getD v.toNat [])/\YL c u=true/\Zx u (k:Int)=z
theorem cU (c:MCon) (scope:List Int) (us:List (List Int)) (k z:Int):(k,z)∈metK c scope us↔∃u∈us,YL c u=true/\k∈scope/\Zx u k=z:=by
 unfold metK;rw[UV]
 constructor
 ·rintro ⟨u,hu,h⟩
  cases hh:YL c u
  ·rw[hh] at h;simp at h
  rw[hh,if_pos rfl] at h;obtain⟨v,hv,he⟩:=Zj.1 h;cases he
  exact⟨u,hu,hh,hv,rfl⟩
 rintro ⟨u,hu,hh,hv,rfl⟩;exact⟨u,hu,by rw[hh,if_pos rfl];exact Zj.2 ⟨k,hv,rfl⟩⟩
theorem o6 (n w:Nat) (h:w<n):(XM n)[w]? = some 0:=by simp[XM,h]
theorem wB (c:MCon) (s:Sto) (XV:∀v∈YC c,0<=v/\v<s.length) (hl:c.kind=10->c.lits≠[]) (k:Nat) (z:Int) (hk:(k:Int)∈YC c) :
 (An c s).contains ((k:Int),z)=true↔Part c s k z:=by
 rw[List.contains_iff_mem];unfold An;rw[cU];have hb:∀v∈YC c,v.toNat<(XM s.length).length:=λv hv=>by
  have:=XV v hv;simp only[XM,List.length_replicate];omega
 constructor
 ·rintro ⟨u,hu,hh,_,hz⟩
  refine⟨u,by rw[wF s _ _ u hu];simp[XM],λv hv=>?_,hh,hz⟩
  obtain⟨v',_,he,hm⟩:=wE s _ _ u hb hu v hv;rw[<-he];exact hm
 rintro ⟨u,H8,hu,hh,hz⟩
 let u':List Int:=(List.range s.length).map λ(i:Nat)=>if (i:Int)∈YC c then Zx u (i:Int) else 0
 have H7:u'.length=s.length:=by simp[u']
 have VI:∀v∈YC c,Zx u' v=Zx u v:=λv hv=>by
  obtain⟨h0,h1⟩:=XV v hv;obtain⟨i,rfl⟩:∃i:Nat,v=(i:Int):=⟨v.toNat,by omega⟩
  have hi:i<s.length:=by omega
  unfold Zx;rw[ZO];simp only[u',YK,YN,Qy hi,Nx,RQ,if_pos hv];rfl
 refine⟨u',wC s _ _ u' hb (by rw[H7];simp[XM]) (λv hv=>by rw[VI v hv];exact hu v hv) (λw hw=>?_),?_,hk,by rw[VI _ hk];exact hz⟩
 ·by_cases Oc:w<s.length
  ·rw[o6 _ _ Oc]
   simp only[u',YN,Qy Oc,Nx];rw[if_neg (λh=>hw _ h (by simp))]
  rw[V7 (by omega),V7 (by simp[XM];omega)]
 rw[E7 c u' u VI hl];exact hh
theorem wA (c:MCon) (s:Sto) (hf:zAI s=false) (k:Nat) (z:Int) (hk:(k:Int)∈YC c):Nf c s k z=(An c s).contains ((k:Int),z):=by
 have hn:(YC c).length≠0:=λh=>by rw[Xf h] at hk;cases hk
 unfold Nf;rw[hf,if_neg (by simp),if_neg hn,if_pos ((DP _ _).2 hk)]
theorem oZ (c:MCon) (s:Sto) (hn:(YC c).length≠0) (k:Nat) (z:Int) (hk:(k:Int)∉YC c):Nf c s k z=true:=by
 unfold Nf;cases zAI s
 ·rw[if_neg (by simp),if_neg hn,if_neg (λh=>hk ((DP _ _).1 h))]
 rfl
theorem Al (c:MCon) (s:Sto) (hf:zAI s=false) (hn:(YC c).length=0) (k:Nat) (z:Int):Nf c s k z=YL c (XM s.length):=by
 unfold Nf;rw[hf,if_neg (by simp),if_pos hn]
theorem cT (c:MCon) (s:Sto) (hf:zAI s=true) (k:Nat) (z:Int):Nf c s k z=true:=by
 unfold Nf;rw[hf,if_pos rfl]
theorem cS (c:MCon) (s:Sto) (hf:zAI s=true):TL c s=s:=by
 unfold TL;refine AC _ _ (Vs _ _) λk r q hr hq=>?_
 obtain⟨a,ha,rfl⟩:=OX _ _ _ _ hr;rw[hq] at ha;cases ha;exact Lc.2 λz _=>cT c s hf k z
theorem oY (s:Sto):zAI s=true↔∃k:Nat,s[k]? = some []:=by
 unfold zAI;rw[Yh]
 constructor
 ·rintro ⟨r,hr,h⟩
  obtain⟨k,hk⟩:=Wm.1 hr;have:r=[]:=Xf (by simpa using h)
  exact⟨k,by rw[hk,this]⟩
 rintro ⟨k,hk⟩;exact⟨[],Zz hk,rfl⟩
theorem E6 (m:Mod) (hm:Zs m=0) (j:Nat) (c:MCon) (hc:m.cons[j]? = some c):(∀v∈YC c,0<=v/\v<(m.vars.length:Int))/\(c.kind=10->c.lits≠[]):=by
 obtain⟨_,_,Vf,Ve,_,_⟩:=DH _ _ (Ik m hm j c hc);obtain⟨h1,h2⟩:=DG c _ Ve;refine⟨λv hv=>?_,λhk=>?_⟩
 ·rw[Am] at hv
  unfold Tr at hv;rcases Xn.1 hv with h | h
  ·exact h1 v h
  obtain⟨l,hl,rfl⟩:=Zj.1 h;exact h2 l hl
 intro h;unfold UT at Vf;rw[hk,h] at Vf;simp at Vf
def KV (l:List Cla):List (Sto->Sto):=l.map λc=>λs=>Wi s c
theorem oX (l:List Cla):∀f∈KV l,StepOk f:=by
 intro f hf;obtain⟨c,_,rfl⟩:=Zj.1 hf;exact pr c
theorem cQ (vs:List MVar) (c:Cla) (h:claE vs c=0):c.length<=40/\∀l∈c,litE vs l=0:=by
 unfold claE at h
 split at h
 ·cases h
 refine⟨by omega,λl hl=>Im _ h _ (Zj.2 ⟨l,hl,rfl⟩)⟩
theorem ww (vs:List MVar) (l:List Cla) (h:Ry vs l=0):l.length<=600/\∀c∈l,claE vs c=0:=by
 unfold Ry at h
 split at h
 ·cases h
 refine⟨by omega,λc hc=>Im _ h _ (Zj.2 ⟨c,hc,rfl⟩)⟩
theorem cP (vs:List MVar) (s:Sto) (c:Cla) (hs:s.length=vs.length) (h:claE vs c=0):Fa s c:=by
 intro l hl;have:=((ex vs l).1 ((cQ vs c h).2 l hl)).1;rw[hs];exact this
theorem oW (lo hi x:Int) (h1:lo<=x) (h2:x<=hi):x∈Qj lo hi:=by
 unfold Qj;rw[Zj];exact⟨(x - lo).toNat,W6.2 (by omega),by omega⟩
theorem H5 (vs:List MVar):(Ym vs).length=vs.length:=by simp[Ym]
theorem cO (m:Mod) (c:Cla) (hc:claE m.vars c=0):Fa (Ym m.vars) c:=cP m.vars _ c (H5 _) hc
theorem cM (lo hi:Int):K1 (Qj lo hi)=true:=by
 rw[pH];unfold Qj;rw[List.pairwise_map];exact List.pairwise_lt_range.imp λh=>by omega
theorem oV (vs:List MVar):DQ vs (Ym vs)=0:=by
 rw[xa];refine⟨H5 vs,?_,?_⟩
 ·unfold AD
  rw[xb];intro i v r hv hr;unfold Ym at hr;rw[YN,hv] at hr;cases hr
  rw[W8];intro x hx;unfold Qj at hx;obtain⟨k,hk,rfl⟩:=Zj.1 hx;have:=W6.1 hk;simp[xd];omega
 rw[W8];intro r hr;unfold Ym at hr;obtain⟨v,_,rfl⟩:=Zj.1 hr;exact cM _ _
structure MStep where
 kind:Int
 con:Int
 cla:Cla
end Go.Proofs.YtndcpnlaadikoaaGreatDoor
