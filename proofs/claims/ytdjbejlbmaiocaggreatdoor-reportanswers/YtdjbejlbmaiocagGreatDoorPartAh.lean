/- What the proof leans on, part 8. -/
import Derived.Test.YtdjbejlbmaiocagGreatDoorPartAg
import Derived.Test.YtdjbejlbmaiocagGreatDoorPartAe
set_option maxRecDepth 100000
set_option maxHeartbeats 1600000
namespace Go.Proofs.YtdjbejlbmaiocagGreatDoor
open Go.RowKit Go.Sort
def zCt (c:MCon):List Int:=c.vars++c.lits.map (·.var)
def zBN (c:MCon):List Int:=zHb (zF0 (zCt c))
def zK1 (m:Mod) (con:Int):List Int×Int:=if zDX m con=0 then (zBN (m.cons.getD con.toNat zPm),0) else ([],zDX m con)
theorem zPo (n:Nat) (hn:n≤1000) (w:World):∃w',Sem.run Tryz.prog (Instr.makeSlice 26 (.int .i64 0) (.int .i64 (n:Int))) w=.ok (.slice (some ⟨w.heap.size,0,none⟩) 0 n) w' ∧
 w'.ownsRow w.heap.size 3 1 (.slice (some ⟨w.heap.size,0,none⟩) 0 n) 0 []∧Below w.heap.size w w':=by
 obtain⟨i0,hi,hz0,hz1,hz2⟩:=info_parts Tryz.infoInt0;obtain⟨w',hrun,hown,hg⟩:=run_makeSlice_owned w w.heap.size 26 3 i0 (.int .i64 0) 1 Tryz.underInts0 hi hz0 hz1 .i64 .i64 n (by omega) (by rw[hz2];omega) (by unfold maxLen;omega) (Nat.le_refl _)
 exact⟨w',hrun,hown,(Below.refl _ _).grown hg (Nat.le_refl _) (fun k h=>by cases h)⟩
theorem zJA (w:World) (ty:TypeId) (base n c:Nat) (v:Value) (xs:List Value) (hown:w.ownsRow base 3 1 v n xs) :
 (Builtin.append_ #[26,26] ty #[v,.slice none 0 c]).run Tryz.prog w=.ok v w:=by
 obtain⟨i0,hi,hz0,hz1,hz2⟩:=info_parts Tryz.infoInt0;rcases hown.2 with ⟨rfl,rfl⟩ | ⟨g,cap,cur,rfl,_,_,hnc,_⟩
 ·simp[Builtin.append_,run_underlying Tryz.underInts0,sizeOf,typeInfo,hi,Builtin.lenOf,Builtin.firstCells]
 ·simp[Builtin.append_,run_underlying Tryz.underInts0,sizeOf,typeInfo,hi,Builtin.lenOf,Builtin.firstCells,hnc,storeCells]
theorem zRs (l:List Int):∀u∈l.map (Value.int .i64),u.oneCell'=true:=by
 intro u hu;obtain⟨z,_,rfl⟩:=List.mem_map.1 hu;rfl
theorem zJM (b off j:Nat):(⟨b,off,none⟩:Addr).add j=⟨b,off+j,none⟩:=by unfold Addr.add;split <;> simp_all
theorem zC0 {w:World} {ops:Array Oper} {rest:List Oper} {o:Oper} {a:Act} {Q:Exit→Act→World→Prop} (hgd:o.guard=none) (s x:Operand)
 (ho:o.op=.call { callee:=.builtin .append,args:=#[s,x],argTypes:=#[26,26] }) (base:Nat)
 (v:Value) (xs:List Int) (hs:a.eval s=v) (hown:w.ownsRow base 3 1 v xs.length (xs.map (Value.int .i64)))
 (u:Value) (l:List Int) (hx:a.eval x=u) (hl:IArg w u l) (hn:xs.length+l.length≤1000) (hbase:base≤w.heap.size)
 (h:∀v' w',w'.ownsRow base 3 1 v' (xs++l).length ((xs++l).map (Value.int .i64))→w.grownBy w' v.ownBlock→(v≠.slice none 0 0→v'≠.slice none 0 0)→wpList Tryz.prog ops Q rest (a.put o.dst v') w'):wpList Tryz.prog ops Q (o :: rest) a w:=by
 obtain⟨i0,hi,hz0,hz1,hz2⟩:=info_parts Tryz.infoInt0;obtain⟨q,c,rfl,hm,hc⟩:=hl;cases q with
 | none =>
   have hl0:l=[]:=by
    cases l with
    | nil=>rfl
    | cons z r=>obtain⟨b,off,hq,_⟩:=hc 0 z rfl;cases hq
   subst hl0;refine wpList_plain hgd fun K hK=>?_
   have hr:=zJA w o.type base xs.length c v _ hown;unfold Oper.wp execOp;simp only[ho,resolve,invoke,builtin,Sem.run_bind,Sem.run_pure,Result.andThen_ok,List.map_toArray,List.map_cons,List.map_nil,hs,hx,List.length_nil,hr];exact hK _ _ (h v w (by rw[List.append_nil];exact hown) ⟨rfl,rfl,rfl,Nat.le_refl _,fun _ _ _=>rfl⟩ (fun h=>h))
 | some ad =>
   refine wpList_append_own w hgd s x 26 ho base 3 i0 (.int .i64 0) 1 8 Tryz.underInts0 hi hz0 hz1 hz2 rfl (by decide) v xs.length _ hs hown ad l.length c (l.map (Value.int .i64)) hx (by simp) ?_ (zRs l) (by unfold maxLen;omega) (by omega) hbase ?_
   ·intro j y hy
    rw[List.getElem?_map] at hy;obtain⟨z,hz,rfl⟩:=Option.map_eq_some_iff.1 hy;obtain⟨b,off,hq,_,hcell⟩:=hc j z hz;cases hq
    rw[zJM];exact hcell
   ·intro v' w' h1 h2 h3
    refine h v' w' (by rw[List.length_append,List.map_append];exact h1) h2 (fun hv hv'=>hv (h3.1 hv').1)
def accL (c:MCon) (k:Nat):List Int:=c.vars++(c.lits.take k).map (·.var)
theorem zPp (c:MCon):accL c 0=c.vars:=by simp[accL]
theorem zPq (c:MCon) (k:Nat) (t:MLit) (h:c.lits[k]? = some t):accL c (k+1)=accL c k++[t.var]:=by
 unfold accL;rw[List.take_add_one,h];simp
theorem zRt (c:MCon) (k:Nat) (h:k≤c.lits.length):(accL c k).length=c.vars.length+k:=by
 unfold accL;simp;omega
theorem zRu (c:MCon):accL c c.lits.length=zCt c:=by unfold accL zCt;rw[List.take_length]
theorem zPr {w:World} {base n:Nat} {v:Value} {xs:List Value} (h:w.ownsRow base 3 1 v n xs):∃a cap,v=.slice a n cap:=by
 rcases h.2 with ⟨rfl,rfl⟩ | ⟨g,cap,cur,rfl,_⟩
 ·exact⟨_,_,rfl⟩
 ·exact⟨_,_,rfl⟩
theorem zPs {w:World} {base n:Nat} {v:Value} {xs:List Value} (h:w.ownsRow base 3 1 v n xs) (hv:v≠.slice none 0 0):∃g cap,v=.slice (some ⟨g,0,none⟩) n cap∧base≤g∧n≤cap∧cap≤maxLen:=by
 rcases h.2 with ⟨rfl,rfl⟩ | ⟨g,cap,cur,rfl,hg,_,hc,hm,_⟩
 ·exact absurd rfl hv
 ·exact⟨g,cap,rfl,hg,hc,hm⟩
theorem zTP (w:World) (o:Obj) (z:Int):IArg ((w.alloc o).alloc (.cells #[.int .i64 z] 3)) (.slice (some ⟨w.heap.size+1,0,none⟩) 1 1) [z]:=by
 refine⟨_,1,rfl,⟨by simp,by unfold maxLen;omega⟩,fun i y hy=>?_⟩
 match i,hy with
 | 0,hy=>cases hy;exact⟨_,0,rfl,by simp,World.cell?_alloc_at _ _ _ _ (by simp)⟩
theorem zOV (m:Mod) (con:Int) (vs cs:Value) (w:World) (hm:MArg w vs cs m) :
 Calls Tryz.prog 34 #[modV vs cs m,.int .i64 con] w fun e w'=>∃x,e=.returned (.tuple #[x,.int .i64 (zK1 m con).2])∧IArg w' x (zK1 m con).1∧Below w.heap.size w w':=by
 have HMA:Hid (∀w':World,Below w.heap.size w w'→MArg w' vs cs m):=fun w' h=>MArg.below h hm
 obtain⟨⟨a1,c1,rfl,_,_⟩,⟨a2,c2,rfl,hl2,hr2⟩⟩:=hm;have HC:Hid (∀(i:Nat) (t:MCon),m.cons[i]? = some t→∃b off vv vc vr vl,a2=some ⟨b,off,none⟩∧b<w.heap.size ∧
  w.cell? ⟨b,off+i * 6,none⟩=some (.int .i64 t.kind)∧w.cell? ⟨b,off+i * 6+1,none⟩=some vv∧w.cell? ⟨b,off+i * 6+2,none⟩=some vc ∧
  w.cell? ⟨b,off+i * 6+3,none⟩=some (.int .i64 t.n)∧w.cell? ⟨b,off+i * 6+4,none⟩=some vr∧w.cell? ⟨b,off+i * 6+5,none⟩=some vl∧KArg w vv vc vr vl t):=hr2
 unfold maxLen at hl2;obtain⟨hl21,hl2⟩:=hl2;obtain⟨R,hR⟩:∃R,zK1 m con=R:=⟨_,rfl⟩;rw[hR];obtain⟨er,her⟩:∃er,zDX m con=er:=⟨_,rfl⟩;have HER:Hid (zDX m con=er):=her;have HE:Hid (R=if er=0 then (zBN (m.cons.getD con.toNat zPm),0) else ([],er)):=by rw[←hR,←her];rfl
 clear hR her hr2;unfold modV;go_enter Tryz.func34,Tryz.ntmps34
 go_wp2_with fail
 refine (zPn m con (.slice a1 m.vars.length c1) (.slice a2 m.cons.length c2) _ ?_).mono ?_
 ·exact HMA.out _ (zAA _ _)
 rintro e w1 ⟨rfl,hb1⟩;rw[HER.out];have d1:w1.cell? ⟨w.heap.size,1,none⟩=some (.slice a2 m.cons.length c2):=(hb1.cell (by simp)).trans (by simp)
 have HB1:Hid (Below w.heap.size w w1):=(zAA _ _).trans (hb1.mono (by simp))
 have hs1:w.heap.size+1≤w1.heap.size:=by simpa using hb1.size
 clear hb1;by_cases he:er=0
 ·subst he
  obtain⟨o1,o2,o3⟩:=zMW m con HER.out;obtain⟨j,rfl⟩:∃j:Nat,con=(j:Int):=⟨con.toNat,by omega⟩
  have hjl:j<m.cons.length:=by omega
  obtain⟨c,hc⟩:∃c,m.cons[j]? = some c:=⟨m.cons[j],by simp[hjl]⟩
  have HN:Hid (R=(zBN c,0)):=by
   rw[HE.out,if_pos rfl,Int.toNat_natCast,List.getD_eq_getElem?_getD,hc];rfl
  obtain⟨hn4,hl4,_,_⟩:=zKK c (zGM _ _ (zKw m o1 j c hc)).2.1;obtain⟨b,off,vv,vc,vr,vl,ha,hb,f0,f1,f2,f3,f4,f5,hka⟩:=HC.out j c hc;subst ha;have e0:=(HB1.out.cell (p:=⟨b,off+j * 6,none⟩) hb).trans f0;have e1:=(HB1.out.cell (p:=⟨b,off+j * 6+1,none⟩) hb).trans f1;have e2:=(HB1.out.cell (p:=⟨b,off+j * 6+2,none⟩) hb).trans f2;have e3:=(HB1.out.cell (p:=⟨b,off+j * 6+3,none⟩) hb).trans f3;have e4:=(HB1.out.cell (p:=⟨b,off+j * 6+4,none⟩) hb).trans f4;have e5:=(HB1.out.cell (p:=⟨b,off+j * 6+5,none⟩) hb).trans f5;obtain⟨⟨q1,r1,rfl,hmv,hq1⟩,⟨q2,r2,rfl,_,_⟩,⟨q3,r3,rfl,_,_⟩,⟨q4,r4,rfl,hm4,hq4⟩⟩:=hka;have HQ1:Hid (∀(i:Nat) (z:Int),c.vars[i]? = some z→∃b off,q1=some ⟨b,off,none⟩∧b<w.heap.size∧w.cell? ⟨b,off+i,none⟩=some (.int .i64 z)):=hq1;have HQ4:Hid (∀(i:Nat) (t:MLit),c.lits[i]? = some t→∃b off,q4=some ⟨b,off,none⟩∧b<w.heap.size ∧
   w.cell? ⟨b,off+i * 3,none⟩=some (.int .i64 t.var)∧w.cell? ⟨b,off+i * 3+1,none⟩=some (.int .i64 t.op)∧w.cell? ⟨b,off+i * 3+2,none⟩=some (.int .i64 t.n)):=hq4
  unfold maxLen at hm4;obtain⟨hm41,hm4⟩:=hm4;obtain⟨i0,hi,hz0,hz1,hz2⟩:=info_parts Tryz.infoInt0;obtain⟨wm,hrun,hown,hbm⟩:=zPo (c.vars.length+c.lits.length) (by omega) (w1.alloc (.cells #[.int .i64 c.kind,.slice q1 c.vars.length r1,.slice q2 c.consts.length r2,.int .i64 c.n,.slice q3 c.rows.length r3,.slice q4 c.lits.length r4] 73))
  have hcm1:wm.cell? ⟨w1.heap.size,1,none⟩=some (.slice q1 c.vars.length r1):=(hbm.cell (by simp)).trans (by simp)
  have hcm5:wm.cell? ⟨w1.heap.size,5,none⟩=some (.slice q4 c.lits.length r4):=(hbm.cell (by simp)).trans (by simp)
  have hsm:w1.heap.size+1≤wm.heap.size:=by simpa using hbm.size
  have HBM:Hid (Below w.heap.size w wm):=(HB1.out.alloc HB1.out.size _).trans (hbm.mono (by simp;omega))
  rw[show (w1.alloc (.cells #[.int .i64 c.kind,.slice q1 c.vars.length r1,.slice q2 c.consts.length r2,.int .i64 c.n,.slice q3 c.rows.length r3,.slice q4 c.lits.length r4] 73)).heap.size=w1.heap.size+1 by simp] at hown hrun
  rw[Int.natCast_add] at hrun;obtain⟨B,hBe⟩:∃B,B=w1.heap.size+1:=⟨_,rfl⟩;have HOWN:Hid (wm.ownsRow B 3 1 (.slice (some ⟨B,0,none⟩) 0 (c.vars.length+c.lits.length)) 0 []):=by rw[hBe];exact hown
  clear hc f0 f1 f2 f3 f4 f5 hb hq1 hq4 hbm hown o1 o2 o3;have HIV:Hid (IArg wm (.slice q1 c.vars.length r1) c.vars):=IArg.below HBM.out ⟨q1,r1,rfl,hmv,HQ1.out⟩;rw[←hBe] at hrun;have hBw:w.heap.size+2≤B:=by omega
  have hB1:w1.heap.size<B:=by omega
  have hBm:B≤wm.heap.size:=by omega
  clear hBe;go_wp2_with (at_builtin;refine zC0 rfl _ _ rfl B _ [] rfl HOWN.out _ c.vars rfl HIV.out (by simp;omega) hBm ?_)
  intro v3 w3 hown3 hg3 hnn3;have HB3:Hid (Below w.heap.size w w3):=HBM.out.grown hg3 HBM.out.size (fun k h=>by cases h;exact (by omega:w.heap.size≤B))
  have hne:some w1.heap.size≠some B:=fun h=>by have:=Option.some.inj h;omega
  have hc5:w3.cell? ⟨w1.heap.size,5,none⟩=some (.slice q4 c.lits.length r4):=hg3.cell hcm5 hne;clear hne;have hs3:B≤w3.heap.size:=Nat.le_trans hBm hg3.size;have HOWN3:Hid (w3.ownsRow B 3 1 v3 (accL c 0).length ((accL c 0).map (Value.int .i64))):=by rw[zPp];exact hown3
  have HNN3:Hid (v3≠.slice none 0 0):=by first | exact hnn3 | exact hnn3 (by simp)
  clear hown3 hg3 hnn3 hcm1 hcm5 hrun HOWN HIV e0 e1 e2 e3 e4 e5 d1;go_wp2_with fail
  clear hc5;go_loopw [8,37] (fun v i wr=>∃k:Nat,k≤c.lits.length∧i=.int .i64 k∧wr.ownsRow B 3 1 v (accL c k).length ((accL c k).map (Value.int .i64))∧Hid (v≠.slice none 0 0)∧Below w.heap.size w wr∧B≤wr.heap.size) (fun _ i _=>c.lits.length - (intOf i).toNat)
  case atStart=>exact⟨0,by omega,rfl,HOWN3.out,HNN3,HB3.out,hs3⟩
  case round =>
   obtain⟨k,hk,rfl,hown,hnn,hbw,hsw⟩:=hrel;by_cases hlt:k<c.lits.length
   ·obtain⟨t,ht⟩:∃t,c.lits[k]? = some t:=⟨c.lits[k],by simp[hlt]⟩
    have HAC:Hid (accL c (k+1)=accL c k++[t.var]):=zPq c k t ht;have hal:(accL c k).length≤8:=by rw[zRt c k hk];omega
    obtain⟨b4,off4,rfl,hb4,g0,g1,g2⟩:=HQ4.out k t ht;have k0:=(hbw.cell (p:=⟨b4,off4+k * 3,none⟩) hb4).trans g0;have k1:=(hbw.cell (p:=⟨b4,off4+k * 3+1,none⟩) hb4).trans g1;have k2:=(hbw.cell (p:=⟨b4,off4+k * 3+2,none⟩) hb4).trans g2;have HOW:Hid (wr.ownsRow B 3 1 u8 (accL c k).length ((accL c k).map (Value.int .i64))):=hown;have HBW:Hid (Below w.heap.size w wr):=hbw;obtain⟨ax,cx,rfl⟩:=zPr hown;obtain⟨acc,hacc⟩:∃acc,accL c k=acc:=⟨_,rfl⟩;rw[hacc] at HAC hal HOW hnn ⊢;clear ht g0 g1 g2 hb4 hown hbw hacc;go_wp2_with (at_builtin;refine zC0 rfl _ _ rfl B _ acc rfl ((HOW.out.alloc _).alloc _) _ [t.var] rfl (zTP _ _ _) (by simp;omega) (by simp;omega) ?_)
    intro v4 w4 hown4 hg4 hnn4;have HO4:Hid (w4.ownsRow B 3 1 v4 (acc++[t.var]).length ((acc++[t.var]).map (Value.int .i64))):=by
     show w4.ownsRow _ _ _ _ _ _;rw[List.length_append,List.map_append];first | exact hown4 | simpa using hown4
    have HB4:Hid (Below w.heap.size w w4):=((HBW.out.alloc HBW.out.size _).alloc (by have:=HBW.out.size;simp;omega) _).grown hg4 (by have:=HBW.out.size;simp;omega) (fun g h=>by have:=(HOW.out.lt g h).1;omega)
    have HN4:Hid (v4≠.slice none 0 0):=by
     have h:=hnn.out
     first | exact hnn4 h | (intro h4;simp_all)
    have hs4:B≤w4.heap.size:=by have:=hg4.size;simp at this;omega
    clear hown4 hg4 hnn4;go_wp2
    go_roundw
    case rel=>exact⟨k+1,by omega,by go_num,by rw[HAC.out];exact HO4.out,HN4,HB4.out,hs4⟩
    case measure=>simp[intOf];omega
   ·have hks:k=c.lits.length:=by omega
    have HAC:Hid (accL c k=zCt c):=by show _=_;rw[hks];exact zRu c
    obtain⟨g,cap,rfl,hg,hcap,hmx⟩:=zPs hown hnn.out;have HIR:Hid (IRow wr g (zCt c)):=by rw[←HAC.out];exact zRp hown
    have HBW:Hid (Below w.heap.size w wr):=hbw;rw[HAC.out] at hcap ⊢;have hn8:(zCt c).length≤8:=by unfold zCt;simp;omega
    clear hown hnn hbw hks;go_wp2_with fail
    refine (zRr (zCt c) g cap w.heap.size _ HIR.out (by omega) (by omega)).mono ?_
    rintro e w5 ⟨rfl,hr5,hb5⟩;have HR5:Hid (IRow w5 g (zF0 (zCt c))):=hr5;have HB5:Hid (Below w.heap.size w w5):=HBW.out.trans hb5;clear hr5 hb5;go_wp2_with fail
    rw[←zFC (zCt c)];refine (zMX (zF0 (zCt c)) g cap w.heap.size _ HR5.out (by omega) (by rw[zFC];omega) (by rw[zFC];exact hcap)).mono ?_
    rintro e w6 ⟨rfl,hr6,hb6⟩;have HF:Hid (IArg w6 (.slice (some ⟨g,0,none⟩) (zHb (zF0 (zCt c))).length cap) (zBN c)):=zRq hr6 rfl (by have h1:=zHt (zF0 (zCt c));rw[zFC] at h1;omega) hmx
    have HB6:Hid (Below w.heap.size w w6):=HB5.out.trans hb6;clear hr6 hb6;go_wp2
    go_ret2
    rw[HN.out];exact⟨_,rfl,HF.out,HB6.out⟩
 ·have HN:Hid (R=([],er)):=by rw[HE.out,if_neg he];rfl
  have he2:(er != 0)=true:=by simpa using he
  clear he;go_wp2
  go_ret2
  rw[HN.out];exact⟨_,rfl,⟨none,0,rfl,⟨Nat.le_refl _,Nat.zero_le _⟩,fun i z h=>by simp at h⟩,HB1.out⟩
def zBs (n:Nat):List Int:=List.replicate n 0
theorem zRv (zs:List Int) (x:Int):x∈zHb zs↔x∈zs:=by
 unfold zHb Lib.compact Lib.compactUpTo
 constructor
 ·intro h
  obtain⟨i,hi,rfl⟩:=List.mem_map.1 h;have hi':i<zs.length:=List.mem_range.1 (List.mem_filter.1 hi).1;simp[getElem!_pos,hi']
 ·intro h
  obtain⟨i,hi,rfl⟩:=List.mem_iff_getElem.1 h;have key:∀(j:Nat) (hj:j<zs.length),zs[j]∈((List.range zs.length).filter (Lib.keeps zs.toArray)).map (zs.toArray[·]!):=by
   intro j
   induction j with
   | zero =>
     intro hj;exact List.mem_map.2 ⟨0,List.mem_filter.2 ⟨List.mem_range.2 hj,by simp[Lib.keeps]⟩,by simp[getElem!_pos,hj]⟩
   | succ j ih =>
     intro hj;by_cases hk:Lib.keeps zs.toArray (j+1)=true
     ·exact List.mem_map.2 ⟨j+1,List.mem_filter.2 ⟨List.mem_range.2 hj,hk⟩,by simp[getElem!_pos,hj]⟩
     ·have he:zs[j+1]=zs[j]:=by
       have h1:¬(j+1=0∨zs.toArray[j+1]! ≠ zs.toArray[j+1 - 1]!):=by simpa[Lib.keeps] using hk
       have h2:zs.toArray[j+1]! = zs.toArray[j]! := by
        by_cases h3:zs.toArray[j+1]! = zs.toArray[j]!
        ·exact h3
        ·exact absurd (Or.inr h3) h1
       rw[getElem!_pos zs.toArray (j+1) (by simpa using hj),getElem!_pos zs.toArray j (by simp;omega)] at h2
       simpa using h2
      rw[he];exact ih (by omega)
  exact key i hi
theorem zHu (c:MCon) (x:Int):x∈zBN c↔x∈zCt c:=by
 unfold zBN;rw[zRv];unfold zF0;exact (List.mergeSort_perm _ _).mem_iff
theorem zPt (vars a b:List Int) (h:∀v∈vars,zAZ a v=zAZ b v):ownV vars a=ownV vars b:=List.map_congr_left h
theorem zPu (a b:List Int) (l:MLit) (h:zAZ a l.var=zAZ b l.var):litB a l=litB b l:=by unfold litB;rw[h]
theorem zF1 (c:MCon) (a b:List Int) (h:∀v∈zBN c,zAZ a v=zAZ b v) (hl:c.kind=10→c.lits≠[]):zA0 c a=zA0 c b:=by
 have h0:∀v∈c.vars,zAZ a v=zAZ b v:=fun v hv=>h v ((zHu c v).2 (List.mem_append_left _ hv))
 have h1:∀l∈c.lits,litB a l=litB b l:=fun l hl=>zPu a b l (h _ ((zHu c _).2 (List.mem_append_right _ (List.mem_map.2 ⟨l,hl,rfl⟩))))
 have h2:=zPt c.vars a b h0;have h3:c.lits.any (litB a)=c.lits.any (litB b):=by
  rw[Bool.eq_iff_iff,List.any_eq_true,List.any_eq_true];exact⟨fun⟨l,hm,hq⟩=>⟨l,hm,by rw[←h1 l hm];exact hq⟩,fun⟨l,hm,hq⟩=>⟨l,hm,by rw[h1 l hm];exact hq⟩⟩
 by_cases hk:c.kind=10
 ·have h4:litB a (c.lits.getD 0 ⟨0,0,0⟩)=litB b (c.lits.getD 0 ⟨0,0,0⟩):=by
   match hc:c.lits with
   | []=>exact absurd hc (hl hk)
   | l :: r=>exact h1 l (by rw[hc];exact List.mem_cons_self ..)
  unfold zA0;rw[h2,h3,h4]
 ·unfold zA0
  rw[h2,h3];simp only[hk,if_false]
theorem zFr (vals:List Int) (v x:Int) (h:v.toNat<vals.length):zAZ (vals.set v.toNat x) v=x:=by
 unfold zAZ;rw[List.getD_eq_getElem?_getD,List.getElem?_set_self h];rfl
theorem zHH (vals:List Int) (v x u:Int) (h:v.toNat≠u.toNat):zAZ (vals.set v.toNat x) u=zAZ vals u:=by
 unfold zAZ;rw[List.getD_eq_getElem?_getD,List.getD_eq_getElem?_getD,List.getElem?_set_ne h]
def zDL (r a b:List Int):Prop:=a.length=b.length∧∀w:Nat,(∀v∈r,v.toNat≠w)→a[w]? = b[w]?
theorem zDL.refl (r a:List Int):zDL r a a:=⟨rfl,fun _ _=>rfl⟩
theorem zDL.trans {r a b c:List Int} (h:zDL r a b) (k:zDL r b c):zDL r a c:=⟨h.1.trans k.1,fun w hw=>(h.2 w hw).trans (k.2 w hw)⟩
theorem zDL.symm {r a b:List Int} (h:zDL r a b):zDL r b a:=⟨h.1.symm,fun w hw=>(h.2 w hw).symm⟩
theorem zDL.cons {r a b:List Int} (v:Int) (h:zDL r a b):zDL (v :: r) a b:=⟨h.1,fun w hw=>h.2 w fun v' hv'=>hw v' (List.mem_cons_of_mem _ hv')⟩
theorem zDL.set {r a b:List Int} {v:Int} (x:Int) (h:zDL (v :: r) a b):zDL r (a.set v.toNat x) (b.set v.toNat x):=by
 refine⟨by simpa using h.1,fun w hw=>?_⟩
 by_cases hwv:w=v.toNat
 ·subst hwv
  by_cases hlt:v.toNat<a.length
  ·rw[List.getElem?_set_self hlt,List.getElem?_set_self (by rw[←h.1];exact hlt)]
  ·rw[List.getElem?_eq_none (by simp;omega),List.getElem?_eq_none (by have:=h.1;simp;omega)]
 ·rw[List.getElem?_set_ne (fun h=>hwv h.symm),List.getElem?_set_ne (fun h=>hwv h.symm)]
  refine h.2 w fun v' hv'=>?_
  rcases List.mem_cons.1 hv' with rfl | h'
  ·exact fun h=>hwv h.symm
  ·exact hw v' h'
theorem zDL.of_set (r a:List Int) (v x:Int):zDL (v :: r) a (a.set v.toNat x):=by
 refine⟨by simp,fun w hw=>?_⟩
 rw[List.getElem?_set_ne (hw v (List.mem_cons_self ..))]
theorem zFd (m:Mod) (hm:zAF m=0) (j:Nat) (c:MCon) (hc:m.cons[j]? = some c):(∀v∈zBN c,0≤v∧v<(m.vars.length:Int))∧(c.kind=10→c.lits≠[]):=by
 obtain⟨_,_,hform,hvars,_,_⟩:=zGM _ _ (zKw m hm j c hc);obtain⟨h1,h2⟩:=zMV c _ hvars;refine⟨fun v hv=>?_,fun hk=>?_⟩
 ·rw[zHu] at hv
  unfold zCt at hv;rcases List.mem_append.1 hv with h | h
  ·exact h1 v h
  ·obtain⟨l,hl,rfl⟩:=List.mem_map.1 h
   exact h2 l hl
 ·intro h
  unfold zDl at hform;rw[hk,h] at hform;simp at hform
theorem zTQ (vs:List MVar) (c:Cla) (h:claE vs c=0):c.length≤40∧∀l∈c,litE vs l=0:=by
 unfold claE at h
 split at h
 ·cases h
 ·refine⟨by omega,fun l hl=>zDJ _ h _ (List.mem_map.2 ⟨l,hl,rfl⟩)⟩
theorem zRw (vs:List MVar) (l:List Cla) (h:zFm vs l=0):l.length≤600∧∀c∈l,claE vs c=0:=by
 unfold zFm at h
 split at h
 ·cases h
 ·refine⟨by omega,fun c hc=>zDJ _ h _ (List.mem_map.2 ⟨c,hc,rfl⟩)⟩
theorem zRx (vs:List MVar) (s:Sto) (c:Cla) (hs:s.length=vs.length) (h:claE vs c=0):zT4 s c:=by
 intro l hl;have:=((zTK vs l).1 ((zTQ vs c h).2 l hl)).1;rw[hs];exact this
theorem zKL (lo hi x:Int) (h1:lo≤x) (h2:x≤hi):x∈zGq lo hi:=by
 unfold zGq;rw[List.mem_map];exact⟨(x - lo).toNat,List.mem_range.2 (by omega),by omega⟩
theorem zHv (vs:List MVar):(zFp vs).length=vs.length:=by simp[zFp]
theorem zPv (vs:List MVar) (vals:List Int) (hl:vals.length=vs.length) (h:(vs.zip vals).all (fun p=>zCE p.1 p.2)=true):hasS (zFp vs) vals=true:=by
 rw[zMP] at h;rw[zNc,zHv];refine⟨hl.symm,fun k r x hr hx=>?_⟩
 unfold zFp at hr;rw[List.getElem?_map] at hr;obtain⟨v,hv,rfl⟩:=Option.map_eq_some_iff.1 hr;have:=h k v x hv hx;unfold zCE at this;simp only[Bool.and_eq_true,Bool.not_eq_true',decide_eq_false_iff_not] at this;exact zKL _ _ _ (by omega) (by omega)
theorem zOW (m:Mod) (vals:List Int) (h:allA m vals=(true,0)):zAF m=0∧hasS (zFp m.vars) vals=true∧∀c∈m.cons,zA0 c vals=true:=by
 unfold allA at h
 split at h
 ·rename_i h0
  split at h
  ·rename_i hl
   have h1:=congrArg Prod.fst h;simp only[Bool.and_eq_true] at h1;exact⟨h0,zPv m.vars vals hl h1.1,List.all_eq_true.1 h1.2⟩
  ·cases h
 ·cases h
theorem zRy (m:Mod) (c:Cla) (hc:claE m.vars c=0):zT4 (zFp m.vars) c:=zRx m.vars _ c (zHv _) hc
structure MStep where
 kind:Int
 con:Int
 cla:Cla
end Go.Proofs.YtdjbejlbmaiocagGreatDoor
