/- What the proof leans on, part 15. -/
import Derived.Test.YtndcpnlaadikoaaGreatDoorPartAn
import Derived.Test.YtndcpnlaadikoaaGreatDoorPartAm
import Derived.Laws.Bits64b
import Derived.Lib.TrailingZeros
set_option maxRecDepth 100000
set_option maxHeartbeats 1600000
namespace Go.Proofs.YtndcpnlaadikoaaGreatDoor
open Go.RowKit Go.Sort
def zBm (c:MCon):List Int:=c.vars++c.lits.map (·.var)
def zAk (c:MCon):List Int:=zGE (zD4 (zBm c))
def zCr (m:Mod) (con:Int):List Int×Int:=if zAw m con=0 then (zAk (m.cons.getD con.toNat zGD),0) else ([],zAw m con)
theorem zO9 (n:Nat) (hn:n≤1000) (w:World):∃w',Sem.run Tryz.prog (Instr.makeSlice 42 (.int .i64 0) (.int .i64 (n:Int))) w=.ok (.slice (some ⟨w.heap.size,0,none⟩) 0 n) w' ∧
 w'.ownsRow w.heap.size 3 1 (.slice (some ⟨w.heap.size,0,none⟩) 0 n) 0 []∧Below w.heap.size w w':=by
 obtain⟨i0,hi,hz0,hz1,hz2⟩:=info_parts Tryz.infoInt0;obtain⟨w',hrun,hown,hg⟩:=run_makeSlice_owned w w.heap.size 42 3 i0 (.int .i64 0) 1 Tryz.underInts0 hi hz0 hz1 .i64 .i64 n (by omega) (by rw[hz2];omega) (by unfold maxLen;omega) (Nat.le_refl _)
 exact⟨w',hrun,hown,(Below.refl _ _).grown hg (Nat.le_refl _) (fun k h=>by cases h)⟩
theorem zIK (w:World) (ty:TypeId) (base n c:Nat) (v:Value) (xs:List Value) (hown:w.ownsRow base 3 1 v n xs) :
 (Builtin.append_ #[42,42] ty #[v,.slice none 0 c]).run Tryz.prog w=.ok v w:=by
 obtain⟨i0,hi,hz0,hz1,hz2⟩:=info_parts Tryz.infoInt0;rcases hown.2 with ⟨rfl,rfl⟩ | ⟨g,cap,cur,rfl,_,_,hnc,_⟩
 ·simp[Builtin.append_,run_underlying Tryz.underInts0,sizeOf,typeInfo,hi,Builtin.lenOf,Builtin.firstCells]
 ·simp[Builtin.append_,run_underlying Tryz.underInts0,sizeOf,typeInfo,hi,Builtin.lenOf,Builtin.firstCells,hnc,storeCells]
theorem zQu (l:List Int):∀u∈l.map (Value.int .i64),u.oneCell'=true:=by
 intro u hu;obtain⟨z,_,rfl⟩:=List.mem_map.1 hu;rfl
theorem zEZ (b off j:Nat):(⟨b,off,none⟩:Addr).add j=⟨b,off+j,none⟩:=by unfold Addr.add;split <;> simp_all
theorem zCO {w:World} {ops:Array Oper} {rest:List Oper} {o:Oper} {a:Act} {Q:Exit→Act→World→Prop} (hgd:o.guard=none) (s x:Operand)
 (ho:o.op=.call { callee:=.builtin .append,args:=#[s,x],argTypes:=#[42,42] }) (base:Nat)
 (v:Value) (xs:List Int) (hs:a.eval s=v) (hown:w.ownsRow base 3 1 v xs.length (xs.map (Value.int .i64)))
 (u:Value) (l:List Int) (hx:a.eval x=u) (hl:IArg w u l) (hn:xs.length+l.length≤1000) (hbase:base≤w.heap.size)
 (h:∀v' w',w'.ownsRow base 3 1 v' (xs++l).length ((xs++l).map (Value.int .i64))→w.grownBy w' v.ownBlock→(v≠.slice none 0 0→v'≠.slice none 0 0)→wpList Tryz.prog ops Q rest (a.put o.dst v') w'):wpList Tryz.prog ops Q (o :: rest) a w:=by
 obtain⟨i0,hi,hz0,hz1,hz2⟩:=info_parts Tryz.infoInt0;obtain⟨q,c,rfl,hm,hc⟩:=hl;cases q with
 | none =>
   have hl0:l=[]:=by
    cases l with
    | nil=>rfl
    | cons z r=>obtain⟨b,off,hq,_⟩:=hc 0 z rfl;cases hq
   subst hl0;refine wpList_plain hgd fun K hK=>?_
   have hr:=zIK w o.type base xs.length c v _ hown;unfold Oper.wp execOp;simp only[ho,resolve,invoke,builtin,Sem.run_bind,Sem.run_pure,Result.andThen_ok,List.map_toArray,List.map_cons,List.map_nil,hs,hx,List.length_nil,hr];exact hK _ _ (h v w (by rw[List.append_nil];exact hown) ⟨rfl,rfl,rfl,Nat.le_refl _,fun _ _ _=>rfl⟩ (fun h=>h))
 | some ad =>
   refine wpList_append_own w hgd s x 42 ho base 3 i0 (.int .i64 0) 1 8 Tryz.underInts0 hi hz0 hz1 hz2 rfl (by decide) v xs.length _ hs hown ad l.length c (l.map (Value.int .i64)) hx (by simp) ?_ (zQu l) (by unfold maxLen;omega) (by omega) hbase ?_
   ·intro j y hy
    rw[List.getElem?_map] at hy;obtain⟨z,hz,rfl⟩:=Option.map_eq_some_iff.1 hy;obtain⟨b,off,hq,_,hcell⟩:=hc j z hz;cases hq
    rw[zEZ];exact hcell
   ·intro v' w' h1 h2 h3
    refine h v' w' (by rw[List.length_append,List.map_append];exact h1) h2 (fun hv hv'=>hv (h3.1 hv').1)
def accL (c:MCon) (k:Nat):List Int:=c.vars++(c.lits.take k).map (·.var)
theorem zPA (c:MCon):accL c 0=c.vars:=by simp[accL]
theorem zPB (c:MCon) (k:Nat) (t:MLit) (h:c.lits[k]? = some t):accL c (k+1)=accL c k++[t.var]:=by
 unfold accL;rw[List.take_add_one,h];simp
theorem zQv (c:MCon) (k:Nat) (h:k≤c.lits.length):(accL c k).length=c.vars.length+k:=by
 unfold accL;simp;omega
theorem zQw (c:MCon):accL c c.lits.length=zBm c:=by unfold accL zBm;rw[List.take_length]
theorem zPC {w:World} {base n:Nat} {v:Value} {xs:List Value} (h:w.ownsRow base 3 1 v n xs):∃a cap,v=.slice a n cap:=by
 rcases h.2 with ⟨rfl,rfl⟩ | ⟨g,cap,cur,rfl,_⟩
 ·exact⟨_,_,rfl⟩
 ·exact⟨_,_,rfl⟩
theorem zPD {w:World} {base n:Nat} {v:Value} {xs:List Value} (h:w.ownsRow base 3 1 v n xs) (hv:v≠.slice none 0 0):∃g cap,v=.slice (some ⟨g,0,none⟩) n cap∧base≤g∧n≤cap∧cap≤maxLen:=by
 rcases h.2 with ⟨rfl,rfl⟩ | ⟨g,cap,cur,rfl,hg,_,hc,hm,_⟩
 ·exact absurd rfl hv
 ·exact⟨g,cap,rfl,hg,hc,hm⟩
theorem zSS (w:World) (o:Obj) (z:Int):IArg ((w.alloc o).alloc (.cells #[.int .i64 z] 3)) (.slice (some ⟨w.heap.size+1,0,none⟩) 1 1) [z]:=by
 refine⟨_,1,rfl,⟨by simp,by unfold maxLen;omega⟩,fun i y hy=>?_⟩
 match i,hy with
 | 0,hy=>cases hy;exact⟨_,0,rfl,by simp,World.cell?_alloc_at _ _ _ _ (by simp)⟩
theorem zIj (m:Mod) (con:Int) (vs cs:Value) (w:World) (hm:MArg w vs cs m) :
 Calls Tryz.prog 28 #[modV vs cs m,.int .i64 con] w fun e w'=>∃x,e=.returned (.tuple #[x,.int .i64 (zCr m con).2])∧IArg w' x (zCr m con).1∧Below w.heap.size w w'∧(x=.slice none 0 0∨∃g cap,x=.slice (some ⟨g,0,none⟩) (zCr m con).1.length cap∧w.heap.size≤g∧IRow w' g (zCr m con).1):=by
 have HMA:Hid (∀w':World,Below w.heap.size w w'→MArg w' vs cs m):=fun w' h=>MArg.below h hm
 obtain⟨⟨a1,c1,rfl,_,_⟩,⟨a2,c2,rfl,hl2,hr2⟩⟩:=hm;have HC:Hid (∀(i:Nat) (t:MCon),m.cons[i]? = some t→∃b off vv vc vr vl,a2=some ⟨b,off,none⟩∧b<w.heap.size ∧
  w.cell? ⟨b,off+i * 6,none⟩=some (.int .i64 t.kind)∧w.cell? ⟨b,off+i * 6+1,none⟩=some vv∧w.cell? ⟨b,off+i * 6+2,none⟩=some vc ∧
  w.cell? ⟨b,off+i * 6+3,none⟩=some (.int .i64 t.n)∧w.cell? ⟨b,off+i * 6+4,none⟩=some vr∧w.cell? ⟨b,off+i * 6+5,none⟩=some vl∧KArg w vv vc vr vl t):=hr2
 unfold maxLen at hl2;obtain⟨hl21,hl2⟩:=hl2;obtain⟨R,hR⟩:∃R,zCr m con=R:=⟨_,rfl⟩;rw[hR];obtain⟨er,her⟩:∃er,zAw m con=er:=⟨_,rfl⟩;have HER:Hid (zAw m con=er):=her;have HE:Hid (R=if er=0 then (zAk (m.cons.getD con.toNat zGD),0) else ([],er)):=by rw[←hR,←her];rfl
 clear hR her hr2;unfold modV;go_enter Tryz.func28,Tryz.ntmps28
 go_wp2_with fail
 refine (zKP m con (.slice a1 m.vars.length c1) (.slice a2 m.cons.length c2) _ ?_).mono ?_
 ·exact HMA.out _ (zAA _ _)
 rintro e w1 ⟨rfl,hb1⟩;rw[HER.out];have d1:w1.cell? ⟨w.heap.size,1,none⟩=some (.slice a2 m.cons.length c2):=(hb1.cell (by simp)).trans (by simp)
 have HB1:Hid (Below w.heap.size w w1):=(zAA _ _).trans (hb1.mono (by simp))
 have hs1:w.heap.size+1≤w1.heap.size:=by simpa using hb1.size
 clear hb1;by_cases he:er=0
 ·subst he
  obtain⟨o1,o2,o3⟩:=zFG m con HER.out;obtain⟨j,rfl⟩:∃j:Nat,con=(j:Int):=⟨con.toNat,by omega⟩
  have hjl:j<m.cons.length:=by omega
  obtain⟨c,hc⟩:∃c,m.cons[j]? = some c:=⟨m.cons[j],by simp[hjl]⟩
  have HN:Hid (R=(zAk c,0)):=by
   rw[HE.out,if_pos rfl,Int.toNat_natCast,List.getD_eq_getElem?_getD,hc];rfl
  obtain⟨hn4,hl4,_,_⟩:=zG4 c (zEX _ _ (zGa m o1 j c hc)).2.1;obtain⟨b,off,vv,vc,vr,vl,ha,hb,f0,f1,f2,f3,f4,f5,hka⟩:=HC.out j c hc;subst ha;have e0:=(HB1.out.cell (p:=⟨b,off+j * 6,none⟩) hb).trans f0;have e1:=(HB1.out.cell (p:=⟨b,off+j * 6+1,none⟩) hb).trans f1;have e2:=(HB1.out.cell (p:=⟨b,off+j * 6+2,none⟩) hb).trans f2;have e3:=(HB1.out.cell (p:=⟨b,off+j * 6+3,none⟩) hb).trans f3;have e4:=(HB1.out.cell (p:=⟨b,off+j * 6+4,none⟩) hb).trans f4;have e5:=(HB1.out.cell (p:=⟨b,off+j * 6+5,none⟩) hb).trans f5;obtain⟨⟨q1,r1,rfl,hmv,hq1⟩,⟨q2,r2,rfl,_,_⟩,⟨q3,r3,rfl,_,_⟩,⟨q4,r4,rfl,hm4,hq4⟩⟩:=hka;have HQ1:Hid (∀(i:Nat) (z:Int),c.vars[i]? = some z→∃b off,q1=some ⟨b,off,none⟩∧b<w.heap.size∧w.cell? ⟨b,off+i,none⟩=some (.int .i64 z)):=hq1;have HQ4:Hid (∀(i:Nat) (t:MLit),c.lits[i]? = some t→∃b off,q4=some ⟨b,off,none⟩∧b<w.heap.size ∧
   w.cell? ⟨b,off+i * 3,none⟩=some (.int .i64 t.var)∧w.cell? ⟨b,off+i * 3+1,none⟩=some (.int .i64 t.op)∧w.cell? ⟨b,off+i * 3+2,none⟩=some (.int .i64 t.n)):=hq4
  unfold maxLen at hm4;obtain⟨hm41,hm4⟩:=hm4;obtain⟨i0,hi,hz0,hz1,hz2⟩:=info_parts Tryz.infoInt0;obtain⟨wm,hrun,hown,hbm⟩:=zO9 (c.vars.length+c.lits.length) (by omega) (w1.alloc (.cells #[.int .i64 c.kind,.slice q1 c.vars.length r1,.slice q2 c.consts.length r2,.int .i64 c.n,.slice q3 c.rows.length r3,.slice q4 c.lits.length r4] 69))
  have hcm1:wm.cell? ⟨w1.heap.size,1,none⟩=some (.slice q1 c.vars.length r1):=(hbm.cell (by simp)).trans (by simp)
  have hcm5:wm.cell? ⟨w1.heap.size,5,none⟩=some (.slice q4 c.lits.length r4):=(hbm.cell (by simp)).trans (by simp)
  have hsm:w1.heap.size+1≤wm.heap.size:=by simpa using hbm.size
  have HBM:Hid (Below w.heap.size w wm):=(HB1.out.alloc HB1.out.size _).trans (hbm.mono (by simp;omega))
  rw[show (w1.alloc (.cells #[.int .i64 c.kind,.slice q1 c.vars.length r1,.slice q2 c.consts.length r2,.int .i64 c.n,.slice q3 c.rows.length r3,.slice q4 c.lits.length r4] 69)).heap.size=w1.heap.size+1 by simp] at hown hrun
  rw[Int.natCast_add] at hrun;obtain⟨B,hBe⟩:∃B,B=w1.heap.size+1:=⟨_,rfl⟩;have HOWN:Hid (wm.ownsRow B 3 1 (.slice (some ⟨B,0,none⟩) 0 (c.vars.length+c.lits.length)) 0 []):=by rw[hBe];exact hown
  clear hc f0 f1 f2 f3 f4 f5 hb hq1 hq4 hbm hown o1 o2 o3;have HIV:Hid (IArg wm (.slice q1 c.vars.length r1) c.vars):=IArg.below HBM.out ⟨q1,r1,rfl,hmv,HQ1.out⟩;rw[←hBe] at hrun;have hBw:w.heap.size+2≤B:=by omega
  have hB1:w1.heap.size<B:=by omega
  have hBm:B≤wm.heap.size:=by omega
  clear hBe;go_wp2_with (at_builtin;refine zCO rfl _ _ rfl B _ [] rfl HOWN.out _ c.vars rfl HIV.out (by simp;omega) hBm ?_)
  intro v3 w3 hown3 hg3 hnn3;have HB3:Hid (Below w.heap.size w w3):=HBM.out.grown hg3 HBM.out.size (fun k h=>by cases h;exact (by omega:w.heap.size≤B))
  have hne:some w1.heap.size≠some B:=fun h=>by have:=Option.some.inj h;omega
  have hc5:w3.cell? ⟨w1.heap.size,5,none⟩=some (.slice q4 c.lits.length r4):=hg3.cell hcm5 hne;clear hne;have hs3:B≤w3.heap.size:=Nat.le_trans hBm hg3.size;have HOWN3:Hid (w3.ownsRow B 3 1 v3 (accL c 0).length ((accL c 0).map (Value.int .i64))):=by rw[zPA];exact hown3
  have HNN3:Hid (v3≠.slice none 0 0):=by first | exact hnn3 | exact hnn3 (by simp)
  clear hown3 hg3 hnn3 hcm1 hcm5 hrun HOWN HIV e0 e1 e2 e3 e4 e5 d1;go_wp2_with fail
  clear hc5;go_loopw [8,37] (fun v i wr=>∃k:Nat,k≤c.lits.length∧i=.int .i64 k∧wr.ownsRow B 3 1 v (accL c k).length ((accL c k).map (Value.int .i64))∧Hid (v≠.slice none 0 0)∧Below w.heap.size w wr∧B≤wr.heap.size) (fun _ i _=>c.lits.length - (intOf i).toNat)
  case atStart=>exact⟨0,by omega,rfl,HOWN3.out,HNN3,HB3.out,hs3⟩
  case round =>
   obtain⟨k,hk,rfl,hown,hnn,hbw,hsw⟩:=hrel;by_cases hlt:k<c.lits.length
   ·obtain⟨t,ht⟩:∃t,c.lits[k]? = some t:=⟨c.lits[k],by simp[hlt]⟩
    have HAC:Hid (accL c (k+1)=accL c k++[t.var]):=zPB c k t ht;have hal:(accL c k).length≤8:=by rw[zQv c k hk];omega
    obtain⟨b4,off4,rfl,hb4,g0,g1,g2⟩:=HQ4.out k t ht;have k0:=(hbw.cell (p:=⟨b4,off4+k * 3,none⟩) hb4).trans g0;have k1:=(hbw.cell (p:=⟨b4,off4+k * 3+1,none⟩) hb4).trans g1;have k2:=(hbw.cell (p:=⟨b4,off4+k * 3+2,none⟩) hb4).trans g2;have HOW:Hid (wr.ownsRow B 3 1 u8 (accL c k).length ((accL c k).map (Value.int .i64))):=hown;have HBW:Hid (Below w.heap.size w wr):=hbw;obtain⟨ax,cx,rfl⟩:=zPC hown;obtain⟨acc,hacc⟩:∃acc,accL c k=acc:=⟨_,rfl⟩;rw[hacc] at HAC hal HOW hnn ⊢;clear ht g0 g1 g2 hb4 hown hbw hacc;go_wp2_with (at_builtin;refine zCO rfl _ _ rfl B _ acc rfl ((HOW.out.alloc _).alloc _) _ [t.var] rfl (zSS _ _ _) (by simp;omega) (by simp;omega) ?_)
    intro v4 w4 hown4 hg4 hnn4;have HO4:Hid (w4.ownsRow B 3 1 v4 (acc++[t.var]).length ((acc++[t.var]).map (Value.int .i64))):=by
     show w4.ownsRow _ _ _ _ _ _;rw[List.length_append,List.map_append];first | exact hown4 | simpa using hown4
    have HB4:Hid (Below w.heap.size w w4):=((HBW.out.alloc HBW.out.size _).alloc (by have:=HBW.out.size;simp;omega) _).grown hg4 (by have:=HBW.out.size;simp;omega) (fun g h=>by have:=(HOW.out.lt g h).1;omega)
    have HN4:Hid (v4≠.slice none 0 0):=by
     have h:=hnn.out
     first | exact hnn4 h | (intro h4;simp_all)
    have hs4:B≤w4.heap.size:=by have:=hg4.size;simp at this;omega
    clear hown4 hg4 hnn4;go_wp2
    go_roundw
    case rel=>exact⟨k+1,by omega,by go_num,by rw[HAC.out];exact HO4.out,HN4,HB4.out,hs4⟩
    case measure=>simp[intOf];omega
   ·have hks:k=c.lits.length:=by omega
    have HAC:Hid (accL c k=zBm c):=by show _=_;rw[hks];exact zQw c
    obtain⟨g,cap,rfl,hg,hcap,hmx⟩:=zPD hown hnn.out;have HIR:Hid (IRow wr g (zBm c)):=by rw[←HAC.out];exact zQr hown
    have HBW:Hid (Below w.heap.size w wr):=hbw;rw[HAC.out] at hcap ⊢;have hn8:(zBm c).length≤8:=by unfold zBm;simp;omega
    clear hown hnn hbw hks;go_wp2_with fail
    refine (zQt (zBm c) g cap w.heap.size _ HIR.out (by omega) (by omega)).mono ?_
    rintro e w5 ⟨rfl,hr5,hb5⟩;have HR5:Hid (IRow w5 g (zD4 (zBm c))):=hr5;have HB5:Hid (Below w.heap.size w w5):=HBW.out.trans hb5;clear hr5 hb5;go_wp2_with fail
    rw[←zEY (zBm c)];refine (zLZ (zD4 (zBm c)) g cap w.heap.size _ HR5.out (by omega) (by rw[zEY];omega) (by rw[zEY];exact hcap)).mono ?_
    rintro e w6 ⟨rfl,hr6,hb6⟩;have HF:Hid (IArg w6 (.slice (some ⟨g,0,none⟩) (zGE (zD4 (zBm c))).length cap) (zAk c)):=zQs hr6 rfl (by have h1:=zHV (zD4 (zBm c));rw[zEY] at h1;omega) hmx
    have HB6:Hid (Below w.heap.size w w6):=HB5.out.trans hb6;have HR6:Hid (IRow w6 g (zAk c)∧w.heap.size≤g):=⟨hr6,by omega⟩
    clear hr6 hb6;go_wp2
    go_ret2
    rw[HN.out];exact⟨_,rfl,HF.out,HB6.out,Or.inr ⟨g,cap,rfl,HR6.out.2,HR6.out.1⟩⟩
 ·have HN:Hid (R=([],er)):=by rw[HE.out,if_neg he];rfl
  have he2:(er != 0)=true:=by simpa using he
  clear he;go_wp2
  go_ret2
  rw[HN.out];exact⟨_,rfl,⟨none,0,rfl,⟨Nat.le_refl _,Nat.zero_le _⟩,fun i z h=>by simp at h⟩,HB1.out,Or.inl rfl⟩
theorem zEt (m:Mod) (con:Int) (vs cs:Value) (w:World) (hm:MArg w vs cs m) :
 Calls Tryz.prog 28 #[modV vs cs m,.int .i64 con] w fun e w'=>∃x,e=.returned (.tuple #[x,.int .i64 (zCr m con).2])∧IArg w' x (zCr m con).1∧Below w.heap.size w w' :=
 (zIj m con vs cs w hm).mono fun _ _ ⟨x,h1,h2,h3,_⟩=>⟨x,h1,h2,h3⟩
def zBS (n:Nat):List Int:=List.replicate n 0
theorem zQx (zs:List Int) (x:Int):x∈zGE zs↔x∈zs:=by
 unfold zGE Lib.compact Lib.compactUpTo
 constructor
 ·intro h
  obtain⟨i,hi,rfl⟩:=List.mem_map.1 h;have hi':i<zs.length:=List.mem_range.1 (List.mem_filter.1 hi).1;simp[getElem!_pos,hi']
 ·intro h
  obtain⟨i,hi,rfl⟩:=List.mem_iff_getElem.1 h;have key:∀(j:Nat) (hj:j<zs.length),zs[j]∈((List.range zs.length).filter (Lib.keeps zs.toArray)).map (zs.toArray[·]!):=by
   intro j
   induction j with
   | zero =>
     intro hj;exact List.mem_map.2 ⟨0,List.mem_filter.2 ⟨List.mem_range.2 hj,by simp[Lib.keeps]⟩,by simp[getElem!_pos,hj]⟩
   | succ j ih =>
     intro hj;by_cases hk:Lib.keeps zs.toArray (j+1)=true
     ·exact List.mem_map.2 ⟨j+1,List.mem_filter.2 ⟨List.mem_range.2 hj,hk⟩,by simp[getElem!_pos,hj]⟩
     ·have he:zs[j+1]=zs[j]:=by
       have h1:¬(j+1=0∨zs.toArray[j+1]! ≠ zs.toArray[j+1 - 1]!):=by simpa[Lib.keeps] using hk
       have h2:zs.toArray[j+1]! = zs.toArray[j]! := by
        by_cases h3:zs.toArray[j+1]! = zs.toArray[j]!
        ·exact h3
        ·exact absurd (Or.inr h3) h1
       rw[getElem!_pos zs.toArray (j+1) (by simpa using hj),getElem!_pos zs.toArray j (by simp;omega)] at h2
       simpa using h2
      rw[he];exact ih (by omega)
  exact key i hi
theorem zFh (c:MCon) (x:Int):x∈zAk c↔x∈zBm c:=by
 unfold zAk;rw[zQx];unfold zD4;exact (List.mergeSort_perm _ _).mem_iff
theorem zPE (vars a b:List Int) (h:∀v∈vars,zAf a v=zAf b v):ownV vars a=ownV vars b:=List.map_congr_left h
theorem zPF (a b:List Int) (l:MLit) (h:zAf a l.var=zAf b l.var):litB a l=litB b l:=by unfold litB;rw[h]
theorem zFH (c:MCon) (a b:List Int) (h:∀v∈zAk c,zAf a v=zAf b v) (hl:c.kind=10→c.lits≠[]):zAR c a=zAR c b:=by
 have h0:∀v∈c.vars,zAf a v=zAf b v:=fun v hv=>h v ((zFh c v).2 (List.mem_append_left _ hv))
 have h1:∀l∈c.lits,litB a l=litB b l:=fun l hl=>zPF a b l (h _ ((zFh c _).2 (List.mem_append_right _ (List.mem_map.2 ⟨l,hl,rfl⟩))))
 have h2:=zPE c.vars a b h0;have h3:c.lits.any (litB a)=c.lits.any (litB b):=by
  rw[Bool.eq_iff_iff,List.any_eq_true,List.any_eq_true];exact⟨fun⟨l,hm,hq⟩=>⟨l,hm,by rw[←h1 l hm];exact hq⟩,fun⟨l,hm,hq⟩=>⟨l,hm,by rw[h1 l hm];exact hq⟩⟩
 by_cases hk:c.kind=10
 ·have h4:litB a (c.lits.getD 0 ⟨0,0,0⟩)=litB b (c.lits.getD 0 ⟨0,0,0⟩):=by
   match hc:c.lits with
   | []=>exact absurd hc (hl hk)
   | l :: r=>exact h1 l (by rw[hc];exact List.mem_cons_self ..)
  unfold zAR;rw[h2,h3,h4]
 ·unfold zAR
  rw[h2,h3];simp only[hk,if_false]
theorem zE8 (vals:List Int) (v x:Int) (h:v.toNat<vals.length):zAf (vals.set v.toNat x) v=x:=by
 unfold zAf;rw[List.getD_eq_getElem?_getD,List.getElem?_set_self h];rfl
theorem zGe (vals:List Int) (v x u:Int) (h:v.toNat≠u.toNat):zAf (vals.set v.toNat x) u=zAf vals u:=by
 unfold zAf;rw[List.getD_eq_getElem?_getD,List.getD_eq_getElem?_getD,List.getElem?_set_ne h]
def zCc (r a b:List Int):Prop:=a.length=b.length∧∀w:Nat,(∀v∈r,v.toNat≠w)→a[w]? = b[w]?
theorem zCc.refl (r a:List Int):zCc r a a:=⟨rfl,fun _ _=>rfl⟩
theorem zCc.trans {r a b c:List Int} (h:zCc r a b) (k:zCc r b c):zCc r a c:=⟨h.1.trans k.1,fun w hw=>(h.2 w hw).trans (k.2 w hw)⟩
theorem zCc.symm {r a b:List Int} (h:zCc r a b):zCc r b a:=⟨h.1.symm,fun w hw=>(h.2 w hw).symm⟩
theorem zCc.cons {r a b:List Int} (v:Int) (h:zCc r a b):zCc (v :: r) a b:=⟨h.1,fun w hw=>h.2 w fun v' hv'=>hw v' (List.mem_cons_of_mem _ hv')⟩
theorem zCc.set {r a b:List Int} {v:Int} (x:Int) (h:zCc (v :: r) a b):zCc r (a.set v.toNat x) (b.set v.toNat x):=by
 refine⟨by simpa using h.1,fun w hw=>?_⟩
 by_cases hwv:w=v.toNat
 ·subst hwv
  by_cases hlt:v.toNat<a.length
  ·rw[List.getElem?_set_self hlt,List.getElem?_set_self (by rw[←h.1];exact hlt)]
  ·rw[List.getElem?_eq_none (by simp;omega),List.getElem?_eq_none (by have:=h.1;simp;omega)]
 ·rw[List.getElem?_set_ne (fun h=>hwv h.symm),List.getElem?_set_ne (fun h=>hwv h.symm)]
  refine h.2 w fun v' hv'=>?_
  rcases List.mem_cons.1 hv' with rfl | h'
  ·exact fun h=>hwv h.symm
  ·exact hw v' h'
theorem zCc.of_set (r a:List Int) (v x:Int):zCc (v :: r) a (a.set v.toNat x):=by
 refine⟨by simp,fun w hw=>?_⟩
 rw[List.getElem?_set_ne (hw v (List.mem_cons_self ..))]
theorem zC9 (m:Mod) (hm:zAG m=0) (j:Nat) (c:MCon) (hc:m.cons[j]? = some c):(∀v∈zAk c,0≤v∧v<(m.vars.length:Int))∧(c.kind=10→c.lits≠[]):=by
 obtain⟨_,_,hform,hvars,_,_⟩:=zEX _ _ (zGa m hm j c hc);obtain⟨h1,h2⟩:=zHU c _ hvars;refine⟨fun v hv=>?_,fun hk=>?_⟩
 ·rw[zFh] at hv
  unfold zBm at hv;rcases List.mem_append.1 hv with h | h
  ·exact h1 v h
  ·obtain⟨l,hl,rfl⟩:=List.mem_map.1 h
   exact h2 l hl
 ·intro h
  unfold zCJ at hform;rw[hk,h] at hform;simp at hform
theorem zMt (vs:List MVar) (l:List Cla) (h:zEK vs l=0):l.length≤600∧∀c∈l,claE vs c=0:=by
 unfold zEK at h
 split at h
 ·cases h
 ·refine⟨by omega,fun c hc=>zDn _ h _ (List.mem_map.2 ⟨c,hc,rfl⟩)⟩
theorem zMu (lo hi x:Int) (h1:lo≤x) (h2:x≤hi):x∈zIJ lo hi:=by
 unfold zIJ;rw[List.mem_map];exact⟨(x - lo).toNat,List.mem_range.2 (by omega),by omega⟩
structure MStep where
 kind:Int
 con:Int
 cla:Cla
def zAL (a b:Nat):Nat:=a ^^^ (a &&& b)
theorem zAO (a b i:Nat):(zAL a b).testBit i=(a.testBit i&&!b.testBit i):=by
 unfold zAL;rw[Nat.testBit_xor,Nat.testBit_and];cases a.testBit i <;> cases b.testBit i <;> rfl
theorem zB9 (n a b:Nat) (h:a<2 ^ n):zAL a b<2 ^ n:=Nat.xor_lt_two_pow h (Nat.lt_of_le_of_lt Nat.and_le_left h)
theorem zHW (a b:Nat):zAL a b≤a:=by
 apply Nat.le_of_testBit;intro i h;rw[zAO] at h;simp at h;exact h.1
theorem zAg (a b:Nat) (ha:a<18446744073709551616) (hb:b<18446744073709551616):bits .andNot .u64 (a:Int) (b:Int)=((zAL a b:Nat):Int):=by
 have h1:(BitVec.ofInt 64 (a:Int)).toNat=a:=by rw[BitVec.ofInt_natCast,BitVec.toNat_ofNat];exact Nat.mod_eq_of_lt (by omega)
 have h2:(BitVec.ofInt 64 (b:Int)).toNat=b:=by rw[BitVec.ofInt_natCast,BitVec.toNat_ofNat];exact Nat.mod_eq_of_lt (by omega)
 have key:(BitVec.ofInt 64 (a:Int) &&& ~~~BitVec.ofInt 64 (b:Int)).toNat=zAL a b:=by
  apply Nat.eq_of_testBit_eq;intro i;rw[zAO,BitVec.toNat_and,Nat.testBit_and,h1,BitVec.testBit_toNat,BitVec.getLsbD_not,←BitVec.testBit_toNat,h2];by_cases hi:i<64
  ·simp[hi]
  ·have:a.testBit i=false:=Nat.testBit_lt_two_pow (Nat.lt_of_lt_of_le ha (by
    have:=Nat.pow_le_pow_right (n:=2) (by omega) (show 64≤i by omega)
    simpa using this))
   simp[this]
 show IntKind.u64.wrap ((BitVec.ofInt 64 (a:Int) &&& ~~~BitVec.ofInt 64 (b:Int)).toNat:Int)=_;rw[key,IntKind.wrap_u64];have:=zB9 64 a b (by simpa using ha)
 omega
def rowP (f:Int→Bool) (b:Nat) (lo:Int):Nat→Nat
 | 0=>0
 | k+1=>if f (lo+(k:Int)) then rowP f b lo k ||| 2 ^ (b+k) else rowP f b lo k
theorem zCA (n i:Nat):(2 ^ n).testBit i=decide (n=i):=by rw[Nat.testBit_two_pow]
theorem zCd (f:Int→Bool) (b:Nat) (lo:Int):∀(k i:Nat),(rowP f b lo k).testBit i=(decide (b≤i)&&(decide (i<b+k)&&f (lo+((i - b:Nat):Int))))
 | 0,i=>by
   simp only[rowP,Nat.zero_testBit,Nat.add_zero];by_cases h:b≤i
   ·simp[h];omega
   ·simp[h]
 | k+1,i=>by
   unfold rowP;by_cases hi:i=b+k
   ·subst hi
    have e:((b+k - b:Nat):Int)=(k:Int):=by omega
    cases hf:f (lo+(k:Int))
    ·rw[if_neg (by simp),zCd f b lo k];simp[hf]
    ·rw[if_pos rfl,Nat.testBit_or,zCA,zCd f b lo k];simp[hf]
   ·have e:decide (i<b+(k+1))=decide (i<b+k):=by
     by_cases h:i<b+k
     ·simp[h];omega
     ·simp[h];omega
    rw[e]
    split
    ·rw[Nat.testBit_or,zCA,zCd f b lo k,show decide (b+k=i)=false by simp;omega,Bool.or_false]
    ·exact zCd f b lo k i
def zAh (p:Nat):Nat:=63 * 2 ^ (6 * (Lib.ctz 64 p / 6))
theorem zGF (i:Nat):Nat.testBit 63 i=decide (i<6):=by
 rw[show (63:Nat)=2 ^ 6 - 1 from rfl,Nat.testBit_two_pow_sub_one]
theorem zHX (v i:Nat):(63 * 2 ^ (6 * v)).testBit i=decide (i / 6=v):=by
 rw[Nat.mul_comm,Nat.testBit_two_pow_mul,zGF];by_cases h:i / 6=v
 ·subst h;simp;omega
 ·simp[h];omega
def zTT:MVar:=⟨ByteArray.empty,0,0⟩
def zBj (v:MVar):Nat:=(v.hi+1 - v.lo).toNat
def zAJ (vs:List MVar) (v:Nat):MVar:=vs.getD v zTT
def ofN (vs:List MVar) (f:Nat→Int→Bool):Nat→Nat
 | 0=>0
 | v+1=>ofN vs f v ||| rowP (f v) (6 * v) (zAJ vs v).lo (zBj (zAJ vs v))
def ofP (vs:List MVar) (f:Nat→Int→Bool):Nat:=ofN vs f vs.length
def zAE (vs:List MVar):Nat:=ofP vs fun _ _=>true
def zAH (vs:List MVar) (c:Cla):Nat:=ofP vs fun v x=>oneB c v x
def zAc (vs:List MVar):Prop:=vs.length≤6∧∀v:Nat,zBj (zAJ vs v)≤6
theorem zAd (vs:List MVar) (hv:zAc vs) (f:Nat→Int→Bool):∀(n i:Nat),(ofN vs f n).testBit i=(decide (i / 6<n)&&(decide (i % 6<zBj (zAJ vs (i / 6)))&&f (i / 6) ((zAJ vs (i / 6)).lo+((i % 6:Nat):Int))))
 | 0,i=>by simp[ofN]
 | v+1,i=>by
   have h6:=hv.2 v;unfold ofN;rw[Nat.testBit_or,zAd vs hv f v i,zCd];by_cases hi:i / 6=v
   ·subst hi
    have e1:i - 6 * (i / 6)=i % 6:=by omega
    have e2:decide (i<6 * (i / 6)+zBj (zAJ vs (i / 6)))=decide (i % 6<zBj (zAJ vs (i / 6))):=by
     by_cases h:i % 6<zBj (zAJ vs (i / 6))
     ·simp[h];omega
     ·simp[h];omega
    rw[e1,e2,show decide (6 * (i / 6)≤i)=true by simp;omega]
    simp
   ·have e1:decide (i / 6<v+1)=decide (i / 6<v):=by
     by_cases h:i / 6<v
     ·simp[h];omega
     ·simp[h];omega
    have e2:(decide (6 * v≤i)&&(decide (i<6 * v+zBj (zAJ vs v))&&f v ((zAJ vs v).lo+((i - 6 * v:Nat):Int))))=false:=by
     by_cases h:6 * v≤i
     ·have:¬(i<6 * v+zBj (zAJ vs v)):=by omega
      simp[this]
     ·simp[h]
    rw[e1,e2,Bool.or_false]
theorem zR4 (vs:List MVar) (hv:zAc vs) (f:Nat→Int→Bool) (n:Nat) (hn:n≤6):ofN vs f n<2 ^ 36:=by
 apply Nat.lt_pow_two_of_testBit;intro i hi;rw[zAd vs hv];have:¬(i / 6<n):=by omega
 simp[this]
theorem zFi (vs:List MVar) (hv:zAc vs) (f:Nat→Int→Bool):ofP vs f<2 ^ 36:=zR4 vs hv f _ hv.1
def zBt (n p:Nat):Bool:=(List.range n).any fun v=>p / 2 ^ (v * 6) &&& 63==0
def zEL (h p:Nat):Bool:=p &&& h==0
def zBv (vs:List MVar) (pts:List Nat) (h:Nat):Bool:=zBt vs.length (zAL (zAE vs) h) || !pts.any (zEL h)
def zAm (vs:List MVar) (c:MCon):List Int→List Int→Nat→List Nat
 | [],vals,a=>if zAR c vals then [a] else []
 | v :: r,vals,a=>(zIJ (zAJ vs v.toNat).lo (zAJ vs v.toNat).hi).flatMap fun x=>zAm vs c r (vals.set v.toNat x) (a ||| 2 ^ (6 * v.toNat+(x - (zAJ vs v.toNat).lo).toNat))
def zAK (vs:List MVar) (c:MCon):List Nat:=zAm vs c (zAk c) (zBS vs.length) 0
def zAl:List Nat→Nat→Option Nat
 | [],left=>some left
 | c :: r,left =>
   if left &&& c=0 then none
   else if zAL (left &&& c) (zAh (left &&& c))=0 then zAl r (zAL left (zAL (zAh (left &&& c)) (left &&& c))) else zAl r left
def zBH (cs:List Nat):Nat→Nat→Nat
 | 0,left=>left
 | f+1,left=>match zAl cs left with
   | none=>0
   | some l=>if l=left then left else zBH cs f l
def zAa (vs:List MVar) (cs:List Nat) (p:Nat):Nat:=if zBt vs.length p then 0 else zBH cs (p+1) p
def zCE (vs:List MVar) (cs:List Nat) (h:Nat):Bool:=zAa vs cs (zAL (zAE vs) h)==0
theorem zCP:∀(cs:List Nat) (left l:Nat),zAl cs left=some l→l≤left
 | [],left,l,h=>by simp[zAl] at h;omega
 | c :: r,left,l,h=>by
   unfold zAl at h
   split at h
   ·cases h
   ·split at h
    ·exact Nat.le_trans (zCP r _ l h) (zHW _ _)
    ·exact zCP r _ l h
theorem zIk (cs:List Nat):∀(f g left:Nat),left<f→left<g→zBH cs f left=zBH cs g left
 | 0,g,left,hf,hg=>by omega
 | f+1,0,left,hf,hg=>by omega
 | f+1,g+1,left,hf,hg=>by
   unfold zBH;cases hr:zAl cs left with
   | none=>rfl
   | some l =>
     simp only
     split
     ·rfl
     ·have:=zCP cs left l hr
      exact zIk cs f g l (by omega) (by omega)
theorem zIl (cs:List Nat) (left:Nat):zBH cs (left+1) left=match zAl cs left with
 | none=>0
 | some l=>if l=left then left else zBH cs (l+1) l:=by
 conv=>lhs;unfold zBH
 cases hr:zAl cs left with
 | none=>rfl
 | some l =>
   simp only
   split
   ·rfl
   ·have:=zCP cs left l hr
    exact zIk cs _ _ l (by omega) (by omega)
theorem zHY (cs:List Nat):∀(f left:Nat),zBH cs f left≤left
 | 0,left=>Nat.le_refl _
 | f+1,left=>by
   unfold zBH;cases hr:zAl cs left with
   | none=>simp
   | some l =>
     simp only
     split
     ·exact Nat.le_refl _
     ·exact Nat.le_trans (zHY cs f l) (zCP cs left l hr)
theorem zDA (vs:List MVar) (cs:List Nat) (p:Nat):zAa vs cs p≤p:=by
 unfold zAa
 split
 ·exact Nat.zero_le _
 ·exact zHY cs _ _
def posV (vs:List MVar) (vals:List Int) (v:Nat):Nat:=6 * v+(zAf vals (v:Int) - (zAJ vs v).lo).toNat
def zD5 (vs:List MVar) (vals:List Int):Prop:=vals.length=vs.length∧∀v:Nat,v<vs.length→(zAJ vs v).lo≤zAf vals (v:Int)∧zAf vals (v:Int)≤(zAJ vs v).hi
theorem zDJ (vs:List MVar) (hv:zAc vs) (vals:List Int) (hm:zD5 vs vals) (v:Nat) (h:v<vs.length):posV vs vals v / 6=v∧posV vs vals v % 6<zBj (zAJ vs v)∧(zAJ vs v).lo+((posV vs vals v % 6:Nat):Int)=zAf vals (v:Int):=by
 have h1:=hm.2 v h;have h2:=hv.2 v;have h3:posV vs vals v=6 * v+(zAf vals (v:Int) - (zAJ vs v).lo).toNat:=rfl;unfold zBj at h2 ⊢;omega
theorem zPG (vs:List MVar) (hv:zAc vs) (vals:List Int) (hm:zD5 vs vals) (f:Nat→Int→Bool) (v:Nat) (h:v<vs.length):(ofP vs f).testBit (posV vs vals v)=f v (zAf vals (v:Int)):=by
 obtain⟨p1,p2,p3⟩:=zDJ vs hv vals hm v h;unfold ofP;rw[zAd vs hv,p1,p3];simp[h,p2]
theorem zPH (vs:List MVar) (c:Cla) (vals:List Int) (hc:∀l∈c,0≤l.var∧l.var<(vs.length:Int)):claB c vals=true↔∃v:Nat,v<vs.length∧oneB c v (zAf vals (v:Int))=true:=by
 rw[zQq]
 constructor
 ·rintro ⟨l,hl,h⟩
  have:=hc l hl;refine⟨l.var.toNat,by omega,(zMq _ _ _).2 ⟨l,hl,by omega,?_⟩⟩
  unfold zAf;rw[Int.toNat_natCast];exact h
 ·rintro ⟨v,_,h⟩
  obtain⟨l,hl,he,h⟩:=(zMq _ _ _).1 h;refine⟨l,hl,?_⟩;rw[he];exact h
def Hits (vs:List MVar) (vals:List Int) (p:Nat):Prop:=∃v:Nat,v<vs.length∧p.testBit (posV vs vals v)=true
theorem zPI (vs:List MVar) (hv:zAc vs) (vals:List Int) (hm:zD5 vs vals) (c:Cla) (hc:∀l∈c,0≤l.var∧l.var<(vs.length:Int)):Hits vs vals (zAH vs c)↔claB c vals=true:=by
 rw[zPH vs c vals hc]
 constructor
 ·rintro ⟨v,h,hb⟩
  unfold zAH at hb;rw[zPG vs hv vals hm _ v h] at hb;exact⟨v,h,hb⟩
 ·rintro ⟨v,h,hb⟩
  refine⟨v,h,?_⟩;unfold zAH;rw[zPG vs hv vals hm _ v h];exact hb
theorem zG5 (n p:Nat) (h:∀v,v<n→∃k,k<6∧p.testBit (6 * v+k)=true):zBt n p=false:=by
 cases hl:zBt n p
 ·rfl
 ·unfold zBt at hl
  obtain⟨v,hv,hb⟩:=List.any_eq_true.1 hl;obtain⟨k,hk,hp⟩:=h v (List.mem_range.1 hv);have h0:p / 2 ^ (v * 6) &&& 63=0:=by simpa using hb
  have:=congrArg (fun q=>Nat.testBit q k) h0
  simp only[Nat.testBit_and,zGF,Nat.testBit_div_two_pow,Nat.zero_testBit] at this;rw[show k+v * 6=6 * v+k by omega,hp] at this
  simp[hk] at this
def zBe (vs:List MVar) (vals:List Int) (p:Nat):Prop:=∀v:Nat,v<vs.length→p.testBit (posV vs vals v)=true
theorem zLa (vs:List MVar) (hv:zAc vs) (vals:List Int) (hm:zD5 vs vals) (p:Nat) (h:zBe vs vals p):zBt vs.length p=false:=by
 refine zG5 _ _ fun v hl=>⟨posV vs vals v % 6,by omega,?_⟩
 have:=(zDJ vs hv vals hm v hl).1;have h2:=h v hl;rw[show 6 * v+posV vs vals v % 6=posV vs vals v by omega]
 exact h2
theorem zLb (vs:List MVar) (hv:zAc vs) (vals:List Int) (hm:zD5 vs vals) (h:Nat) (hh:¬Hits vs vals h):zBe vs vals (zAL (zAE vs) h):=by
 intro v hl;rw[zAO];unfold zAE;rw[zPG vs hv vals hm _ v hl];cases hb:h.testBit (posV vs vals v)
 ·rfl
 ·exact absurd ⟨v,hl,hb⟩ hh
theorem zHZ (vs:List MVar) (c:MCon) (vals:List Int) (hm:zD5 vs vals):∀(r u:List Int) (a:Nat),(∀v∈r,0≤v∧v<(vs.length:Int))→u.length=vs.length →
 (∀u':List Int,u'.length=vs.length→(∀v∈r,zAf u' v=zAf vals v)→(∀w:Int,(∀v∈r,v.toNat≠w.toNat)→zAf u' w=zAf u w)→zAR c u'=true) →
 ∃p∈zAm vs c r u a,∀i,p.testBit i=true→a.testBit i=true∨∃v:Nat,v<vs.length∧i=posV vs vals v
 | [],u,a,_,hu,hh=>by
   have h:=hh u hu (fun v hv=>by cases hv) (fun _ _=>rfl)
   refine⟨a,?_,fun i hi=>Or.inl hi⟩
   unfold zAm;rw[if_pos h];exact List.mem_singleton.2 rfl
 | v :: r,u,a,hr,hu,hh=>by
   obtain⟨v0,v1⟩:=hr v (List.mem_cons_self ..);have hvn:v.toNat<vs.length:=by omega
   have hmv:=hm.2 v.toNat hvn;rw[show ((v.toNat:Nat):Int)=v by omega] at hmv
   obtain⟨p,hp,hb⟩:=zHZ vs c vals hm r (u.set v.toNat (zAf vals v)) (a ||| 2 ^ (6 * v.toNat+(zAf vals v - (zAJ vs v.toNat).lo).toNat)) (fun x hx=>hr x (List.mem_cons_of_mem _ hx)) (by simpa using hu) (by
    intro u' h1 h2 h3;refine hh u' h1 (fun x hx=>?_) (fun w hw=>?_)
    ·rcases List.mem_cons.1 hx with rfl | hx
     ·by_cases hq:∃y∈r,y.toNat=x.toNat
      ·obtain⟨y,hy,he⟩:=hq
       have:=hr y (List.mem_cons_of_mem _ hy);have:y=x:=by omega
       rw[←this];exact h2 y hy
      ·rw[h3 x (fun y hy he=>hq ⟨y,hy,he⟩),zE8 _ _ _ (by omega)]
     ·exact h2 x hx
    ·rw[h3 w (fun y hy=>hw y (List.mem_cons_of_mem _ hy)),zGe _ _ _ _ (hw v (List.mem_cons_self ..))])
   refine⟨p,?_,fun i hi=>?_⟩
   ·unfold zAm
    exact List.mem_flatMap.2 ⟨zAf vals v,zMu _ _ _ hmv.1 hmv.2,hp⟩
   ·rcases hb i hi with h | h
    ·rw[Nat.testBit_or,Bool.or_eq_true] at h
     rcases h with h | h
     ·exact Or.inl h
     ·rw[zCA] at h
      refine Or.inr ⟨v.toNat,hvn,?_⟩;unfold posV;rw[show ((v.toNat:Nat):Int)=v by omega]
      exact (of_decide_eq_true h).symm
    ·exact Or.inr h
theorem zPJ (p i:Nat) (h:zAL p (zAh p)=0) (hi:p.testBit i=true):(zAh p).testBit i=true:=by
 have:=congrArg (fun q=>Nat.testBit q i) h
 simp only[zAO,hi,Nat.zero_testBit] at this;simpa using this
theorem zFI (vs:List MVar) (hv:zAc vs) (vals:List Int) (hm:zD5 vs vals):∀(cs:List Nat) (left:Nat),(∀c∈cs,Hits vs vals c)→zBe vs vals left→∃l,zAl cs left=some l∧zBe vs vals l
 | [],left,_,hw=>⟨left,rfl,hw⟩
 | c :: r,left,hc,hw=>by
   obtain⟨v,hvl,hb⟩:=hc c (List.mem_cons_self ..);have ho:(left &&& c).testBit (posV vs vals v)=true:=by rw[Nat.testBit_and,hw v hvl,hb];rfl
   have hne:left &&& c≠0:=fun h=>by rw[h] at ho;simp at ho
   unfold zAl;rw[if_neg hne]
   split
   ·rename_i hf
    refine zFI vs hv vals hm r _ (fun d hd=>hc d (List.mem_cons_of_mem _ hd)) fun u hu=>?_
    rw[zAO,hw u hu,zAO];by_cases huv:u=v
    ·subst huv;rw[ho];simp
    ·have hfv:=zPJ _ _ hf ho
     have:(zAh (left &&& c)).testBit (posV vs vals u)=false:=by
      unfold zAh at hfv ⊢;rw[zHX] at hfv ⊢;rw[(zDJ vs hv vals hm v hvl).1] at hfv;rw[(zDJ vs hv vals hm u hu).1];have:v=Lib.ctz 64 (left &&& c) / 6:=by simpa using hfv
      simp;omega
     rw[this];simp
   ·exact zFI vs hv vals hm r _ (fun d hd=>hc d (List.mem_cons_of_mem _ hd)) hw
theorem zGf (vs:List MVar) (hv:zAc vs) (vals:List Int) (hm:zD5 vs vals) (cs:List Nat) (hc:∀c∈cs,Hits vs vals c):∀(f left:Nat),zBe vs vals left→zBe vs vals (zBH cs f left)
 | 0,left,hw=>hw
 | f+1,left,hw=>by
   obtain⟨l,hl,hw2⟩:=zFI vs hv vals hm cs left hc hw;unfold zBH;rw[hl];simp only
   split
   ·exact hw
   ·exact zGf vs hv vals hm cs hc f l hw2
theorem zLc (vs:List MVar) (hv:zAc vs) (vals:List Int) (hm:zD5 vs vals) (cs:List Nat) (hc:∀c∈cs,Hits vs vals c) (p:Nat) (hw:zBe vs vals p):zBe vs vals (zAa vs cs p):=by
 unfold zAa;rw[zLa vs hv vals hm _ hw];exact zGf vs hv vals hm cs hc _ _ hw
theorem zHa (vs:List MVar) (h1:1≤vs.length) (vals:List Int) (p:Nat) (hw:zBe vs vals p):p≠0:=by
 intro h0;have:=hw 0 (by omega)
 rw[h0,Nat.zero_testBit] at this;cases this
def zDK (m:Mod) (ahead:List Nat) (s:MStep):Bool :=
 if s.kind=1 then zBv m.vars (zAK m.vars (m.cons.getD s.con.toNat zGD)) (zAH m.vars s.cla)
 else if s.kind=2∧s.con=0 then zCE m.vars ahead (zAH m.vars s.cla) else false
def zBf (m:Mod):List Nat→List MStep→Bool
 | _,[]=>true
 | ahead,s :: r=>zDK m ahead s&&zBf m (ahead++[zAH m.vars s.cla]) r
theorem zAy (m:Mod) (hm:zAG m=0):zAc m.vars:=by
 refine⟨(zAe m hm).2.1,fun v=>?_⟩
 by_cases h:v<m.vars.length
 ·have e:m.vars[v]? = some (zAJ m.vars v):=by unfold zAJ;rw[List.getD_eq_getElem?_getD,List.getElem?_eq_getElem h];rfl
  have:=zHG m hm v _ e;unfold zBj;omega
 ·unfold zAJ
  rw[List.getD_eq_getElem?_getD,List.getElem?_eq_none (by omega)]
  decide
theorem zJe (m:Mod) (hm:zAG m=0):1≤m.vars.length:=by
 have:=(zAe m hm).1;omega
end Go.Proofs.YtndcpnlaadikoaaGreatDoor
