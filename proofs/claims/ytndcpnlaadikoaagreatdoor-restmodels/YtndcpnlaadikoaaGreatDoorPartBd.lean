/- What the proof leans on, part 30. -/
import Derived.Test.YtndcpnlaadikoaaGreatDoorPartBc
import Derived.Test.YtndcpnlaadikoaaGreatDoorPartBa
import Derived.Test.YtndcpnlaadikoaaGreatDoorPartAt
import Derived.Test.YtndcpnlaadikoaaGreatDoorPartAo
import Derived.Lib.AppendZerosOnto
import Derived.Lib.SliceRun
set_option maxRecDepth 100000
set_option maxHeartbeats 6400000
namespace Go.Proofs.YtndcpnlaadikoaaGreatDoor
open Go.RowKit Go.Maps
theorem SkD.add {W w w':World} {s r mb:Nat} {sv pv cv cv' prv pav:Value} {L:List SV} {M:List Nat} {S:Sk} {V:World} {h:Nat} (hD:SkD W w s r mb sv pv cv prv pav L M S) (hV:V.heap.size=W.heap.size) (hR:RulD V w' r sv pv cv' (S.cs++[h])) (hf:Fr (fun k=>k=r∨cv.ownBlock=some k) w w') :
 SkD W w' s r mb sv pv cv' prv pav L M ⟨S.cs++[h],S.fuel,S.proof,S.path⟩:=by
 have hcr:cv.ownBlock≠some r:=zCC hD.own hD.blkR (by decide)
 have hcs:cv.ownBlock≠some s:=zCC hD.own hD.blkS (by decide)
 have nX:∀{B:Nat} {e:TypeId} {n1 n2:Nat} {v:Value} {xs:List Value},w.ownsRow B e n1 v n2 xs→e≠136→e≠141→w'.ownsRow B e n1 v n2 xs:=fun ho he hr=>by
  refine zEC ho hf fun g hg hx=>?_
  rcases hx with hx | hx
  ·subst hx
   exact zCC ho hD.blkR (Ne.symm hr) hg
  ·rcases zDG ho hD.own he with h1 | h1
   ·rw[h1] at hg;cases hg
   ·exact h1 (hg.trans hx.symm)
 refine⟨hR.blk,(hf.block s (Array.getElem?_eq_some_iff.1 hD.blkS).1 (fun hx=>?_)).trans hD.blkS,?_,hR.lt36,⟨nX hD.prf.1 (by decide) (by decide),fun x hx=>nX (hD.prf.2 x hx) (by decide) (by decide)⟩,hD.prfE,?_,nX hD.path (by decide) (by decide),hD.apart,?_⟩
 ·rcases hx with hx | hx
  ·exact hD.rs hx.symm
  ·exact hcs hx
 ·rw[←hV];exact hR.own
 ·obtain⟨es,clock,h1,h2⟩:=hD.map
  refine⟨es,clock,(hf.block mb (Array.getElem?_eq_some_iff.1 h1).1 (fun hx=>?_)).trans h1,h2⟩
  rcases hx with hx | hx
  ·exact hD.nr hx.symm
  ·exact zCg hD.own hD.map hx
 ·refine⟨hf.os.trans hD.fr.os,hf.tape.trans hD.fr.tape,hf.output.trans hD.fr.output,Nat.le_trans hD.fr.size hf.size,fun k hk hn=>(hf.block k (Nat.lt_of_lt_of_le hk hD.fr.size) (fun hx=>?_)).trans (hD.fr.block k hk hn)⟩
  rcases hx with hx | hx
  ·exact hn (Or.inl hx)
  ·have:=(hD.own.lt k hx).1
   omega
def oldW (w:World) (n:Nat):World:={ w with heap:=w.heap.extract 0 n }
theorem zDP (w:World) (n:Nat) (h:n≤w.heap.size):(oldW w n).heap.size=n:=by
 show (w.heap.extract 0 n).size=n;simp;omega
theorem zSe {X:Nat→Prop} (w:World) (n:Nat) (h:n≤w.heap.size):Fr X (oldW w n) w :=
 ⟨rfl,rfl,rfl,by rw[zDP w n h];exact h,fun k hk _=>by
   rw[zDP w n h] at hk;show w.heap[k]? = (w.heap.extract 0 n)[k]?;rw[Array.getElem?_extract];simp;intro h9;omega⟩
theorem SkD.rulD {W w:World} {s r mb:Nat} {sv pv cv prv pav:Value} {L:List SV} {M:List Nat} {S:Sk} (hD:SkD W w s r mb sv pv cv prv pav L M S):RulD (oldW w W.heap.size) w r sv pv cv S.cs :=
 ⟨hD.blkR,by rw[zDP w _ hD.fr.size];exact hD.own,hD.lt36,zSe w _ hD.fr.size⟩
theorem SkD.rul {W w:World} {s r mb:Nat} {sv pv cv prv pav:Value} {L:List SV} {M:List Nat} {S:Sk} {vs:List MVar} {pt:List (List Nat)} (hB:SkB W s r mb sv pv vs pt) (hD:SkD W w s r mb sv pv cv prv pav L M S):Rul (oldW w W.heap.size) r sv pv vs pt:=by
 refine⟨by rw[zDP w _ hD.fr.size];exact hB.rlt,fun w' hf=>hB.keep w' ?_⟩
 have hz:=zDP w _ hD.fr.size;refine⟨hf.os.trans hD.fr.os,hf.tape.trans hD.fr.tape,hf.output.trans hD.fr.output,by rw[←hz];exact hf.size,fun k hk hn=>?_⟩
 have h1:=hf.block k (by rw[hz];exact hk) (fun he=>hn (Or.inl he))
 have h2:(oldW w W.heap.size).heap[k]? = w.heap[k]? := by
  show (w.heap.extract 0 W.heap.size)[k]? = w.heap[k]?;rw[Array.getElem?_extract];have h8:=hD.fr.size;simp;intro h9;omega
 exact h1.trans (h2.trans (hD.fr.block k hk hn))
theorem zRT (vs:List MVar) (hva:zAQ vs) (hn1:1≤vs.length) (pt:List (List Nat)) (W:World) (s r mb:Nat) (sv pv cv prv pav:Value) (hB:SkB W s r mb sv pv vs pt) (L:List SV) (S:Sk) (hS:S.proof.length≤6000) (hcs:S.cs.length+S.fuel≤1000) (hp:S.path.length≤36) (hz:zAo vs pt S=0) (w:World)
 (hD:SkD W w s r mb sv pv cv prv pav L (S.proof.map fun x=>zAH vs x.cla) S) :
 Calls Tryz.prog 124 #[.pointer (some ⟨s,0,none⟩)] w fun e w'=>e=.returned (.int .i64 (zBL vs pt S).1)∧TFr w w'∧∃cv' prv' pav' L',SkD W w' s r mb sv pv cv' prv' pav' L' ((zBL vs pt S).2.proof.map fun x=>zAH vs x.cla) (zBL vs pt S).2:=by
 obtain⟨R,hR⟩:∃R,zBL vs pt S=R:=⟨_,rfl⟩;rw[hR];unfold zBL at hR;have HVO:Hid (zAQ vs):=hva;have HSB:Hid (SkB W s r mb sv pv vs pt):=hB;have HD:Hid (SkD W w s r mb sv pv cv prv pav L (S.proof.map fun x=>zAH vs x.cla) S):=hD
 obtain⟨asv,csv,hsv⟩:∃a c,sv=.slice a vs.length c:=by obtain⟨a,c,h,_⟩:=(hB.keep w hD.fr).1;exact⟨a,c,h⟩
 subst hsv;obtain⟨apa,cpa,rfl⟩:=zAC hD.path;obtain⟨apr,cpr,rfl⟩:=zAC hD.prf.1;obtain⟨s0,s1,s2,s3,s4,s5,s6⟩:=hD.cells;have z2:=hD.frz 2;have hf300:S.fuel≤1000:=by omega
 by_cases h0:S.fuel=0
 ·rw[if_pos h0] at hR
  subst hR;have s3':w.cell? ⟨s,2,none⟩=some (.int .i64 0):=by rw[s3,h0];rfl
  clear s3 hD hB hva hz;go_enter Tryz.func124,Tryz.ntmps124
  go_wp2
  go_ret
  exact⟨rfl,TFr.refl _,_,_,_,_,HD.out⟩
 ·rw[if_neg h0] at hR
  have HR:=(show Hid _ from hR)
  obtain⟨f,hf⟩:∃f,S.fuel=f+1:=⟨S.fuel - 1,by omega⟩
  have hLA:zKr vs S.cs pt S.path=(zBz vs S.cs pt S.path,true):=by
   unfold zKr zBB;unfold zAo at hz;rw[hz];rfl
  obtain⟨C,hC⟩:∃C,zBz vs S.cs pt S.path=C:=⟨_,rfl⟩;have hCm:∀x∈C,x∈S.path:=fun x hx=>zIz vs S.cs pt S.path x (by rw[hC];exact hx)
  have hCl:C.length≤S.path.length:=by rw[←hC];exact zI0 vs S.cs pt S.path
  rw[hC] at hLA HR;have s3':w.cell? ⟨s,2,none⟩=some (.int .i64 ((f:Int)+1)):=by rw[s3,hf];congr 2
  have HDY:Hid (SkD W (w.setCell ⟨s,2,none⟩ (.int .i64 (f:Int))) s r mb (.slice asv vs.length csv) pv cv (.slice apr L.length cpr) (.slice apa S.path.length cpa) L (S.proof.map fun x=>zAH vs x.cla) ⟨S.cs,f,S.proof,S.path⟩):=HD.out.burn f
  rw[hf] at HR;have HTY:Hid (TFr w (w.setCell ⟨s,2,none⟩ (.int .i64 (f:Int)))):=TFr.set HD.out.blkS zJq 2 _;have hf1:f≤1000:=by omega
  have hcs1:S.cs.length≤1000:=by omega
  have HLE:Hid (∀Z,SkD W Z s r mb (.slice asv vs.length csv) pv cv (.slice apr L.length cpr) (.slice apa S.path.length cpa) L (S.proof.map fun x=>zAH vs x.cla) ⟨S.cs,f,S.proof,S.path⟩ →
   Calls Tryz.prog 84 #[.pointer (some ⟨r,0,none⟩),.slice apa S.path.length cpa] Z fun e w'=>∃x,e=.returned (.tuple #[x,.bool true])∧LOwn Z.heap.size w' x C∧Below Z.heap.size Z w'):=fun Z hZ=>by
   have:=zN8 vs hva hn1 S.cs pt S.path (by omega) r _ pv cv _ Z (hZ.rules hB) (LOwn.arg hZ.path)
   rw[hLA] at this;exact this
  clear s3 hD hB hva hz hf h0 hLA hC hcs HD;go_enter Tryz.func124,Tryz.ntmps124
  go_wp2_with fail
  obtain⟨Y,hY⟩:∃Y,w.setCell ⟨s,2,none⟩ (.int .i64 (f:Int))=Y:=⟨_,rfl⟩;rw[hY] at HDY HTY ⊢;clear hY s0 s1 s2 s3' s4 s5 s6 z2;obtain⟨s0,s1,s2,s3,s4,s5,s6⟩:=HDY.out.cells;go_region_law
   (first
     | (rw[if_pos (by rfl)];go_simp;go_at_call 84;refine (HLE.out _ (HDY.out.below (Below.refl _ _).drew)).mono ?_;rintro e w2 ⟨x,rfl,hx2,hb2⟩;have hB2:Below Y.heap.size Y w2:=(Below.refl _ _).drew.trans hb2;obtain⟨ax,cx,hxf⟩:=zAC (show w2.ownsRow _ _ _ _ _ _ from hx2);subst hxf;dsimp only))
  all_goals
   have HD2:=(show Hid _ from HDY.out.below hB2)
   have HT2:Hid (TFr w w2):=HTY.out.trans (TFr.below hB2);have HX2:Hid (LOwn Y.heap.size w2 (.slice ax C.length cx) C):=hx2;clear hx2 hb2 hB2 s0 s1 s2 s3 s4 s5 s6;obtain⟨s0,s1,s2,s3,s4,s5,s6⟩:=HD2.out.cells;go_wp2_with fail
   refine (zN9 vs HVO.out hn1 pt S.cs (by omega) C (by omega) r _ pv cv _ w2 (HD2.out.rules HSB.out) (LOwn.arg HX2.out)).mono ?_
   rintro e w3 ⟨stv,T,rfl,hTe,hst,hTl,hb3⟩;have HD3:=(show Hid _ from HD2.out.below hb3)
   have HT3':Hid (TFr w w3):=HT2.out.trans (TFr.below hb3);have HX3:Hid (LOwn Y.heap.size w3 (.slice ax C.length cx) C):=zAB (show w2.ownsRow _ _ _ _ _ _ from HX2.out) hb3
   have HT3:Hid (zB0 w2.heap.size w3 stv T):=hst;have HTE:Hid (T.map (·.1)=zEe vs S.cs pt C):=hTe
   have HPB:Hid (∀g,(Value.slice apa S.path.length cpa).ownBlock=some g→g<w2.heap.size):=fun g hg=>(HD2.out.path.lt g hg).2
   have HQB:Hid (∀g,(Value.slice apr L.length cpr).ownBlock=some g→g<w2.heap.size):=fun g hg=>(HD2.out.prf.1.lt g hg).2
   have HW2:Hid (W.heap.size≤w2.heap.size):=HD2.out.fr.size;obtain⟨ast,cst,rfl⟩:=zAC hst.1;clear hTe hst hb3 s0 s1 s2 s3 s4 s5 s6;obtain⟨s0,s1,s2,s3,s4,s5,s6⟩:=HD3.out.cells;go_wp2_with fail
   refine (zPl vs HVO.out pt W s r mb _ pv cv _ _ HSB.out L ⟨S.cs,f,S.proof,S.path⟩ hS T hTl w2.heap.size _ w3 HD3.out HT3.out HW2.out HPB.out HQB.out).mono ?_;rintro e w4 ⟨rfl,prv',L',hd4,hf4,ht4⟩;have HT4:Hid (TFr w w4):=HT3'.out.trans ht4;clear ht4;have HX4:Hid (LOwn Y.heap.size w4 (.slice ax C.length cx) C):=by
    have ho:w3.ownsRow Y.heap.size 76 3 (.slice ax C.length cx) C.length (zBI C):=HX3.out;refine zEC ho hf4 fun g hg hx=>?_
    rcases hx with hx | hx | hx
    ·subst hx
     exact zCC ho HD3.out.blkS (by decide) hg
    ·subst hx
     exact zCg ho HD3.out.map hg
    ·rcases zDG ho HD3.out.prf.1 (by decide) with h1 | h1
     ·rw[h1] at hg;cases hg
     ·exact h1 (hg.trans hx.symm)
   rw[HTE.out] at hd4;obtain⟨PR,hPR⟩:∃PR,zAZ vs (zEe vs S.cs pt C) S.proof=PR:=⟨_,rfl⟩;simp only at hd4;rw[hPR] at hd4;have HR4:=HR.out;rw[hPR] at HR4;have HD4:Hid (SkD W w4 s r mb (.slice asv vs.length csv) pv cv prv' (.slice apa S.path.length cpa) L' (PR.map fun x=>zAH vs x.cla) ⟨S.cs,f,PR,S.path⟩):=hd4
   have hLP:PR.length=L'.length:=by have h9:=hd4.prfE;simp only at h9;rw[←h9,List.length_map]
   obtain⟨ap4,cp4,rfl⟩:=zAC hd4.prf.1;clear hd4 hf4 hPR s0 s1 s2 s3 s4 s5 s6 HD2 HD3 HX2 HX3 HT3 HTE HPB HQB HW2 HDY HLE HR;obtain⟨s0,s1,s2,s3,s4,s5,s6⟩:=HD4.out.cells;by_cases h6:6000<L'.length
   ·have h6':(6000:Int)<(L'.length:Int):=by omega
    rw[if_pos (by omega)] at HR4
    subst HR4;clear hLP;go_wp2
    go_ret
    exact⟨rfl,HT4.out,_,_,_,_,HD4.out⟩
   ·have h6':¬(6000:Int)<(L'.length:Int):=by omega
    rw[if_neg (by omega)] at HR4
    by_cases hc0:C.length=0
    ·rw[if_pos hc0] at HR4
     subst HR4;have hc1:C=[]:=List.length_eq_zero_iff.1 hc0;subst hc1;clear hLP;go_wp2
     go_ret
     exact⟨rfl,HT4.out,_,_,_,_,HD4.out⟩
    ·rw[if_neg hc0] at HR4
     have HR5:Hid _:=HR4;clear HR4 hLP;have hc2:¬(C.length:Int)=0:=by omega
     have hc3:0<C.length:=by omega
     have hc4:¬C=[]:=fun h=>by rw[h] at hc0;exact hc0 rfl
     go_wp2_with fail
     refine (zPf vs HVO.out pt S.cs (by omega) C (oldW w4 W.heap.size) r _ pv cv _ w4 (HD4.out.rul HSB.out) HD4.out.rulD (LOwn.arg HX4.out)).mono ?_
     rintro e w5 ⟨rfl,cv',hr5,hf5⟩;have hd5:=HD4.out.add (zDP w4 _ HD4.out.fr.size) hr5 hf5;have HT5:Hid (TFr w w5):=HT4.out.trans ⟨hf5.os,hf5.tape,hf5.output,hf5.size,fun k cs t z hk ht=>hf5.block k (Array.getElem?_eq_some_iff.1 hk).1 fun hx=>by
      rcases hx with hx | hx
      ·subst hx
       have:=hk.symm.trans HD4.out.blkR;simp only[Option.some.injEq,Obj.cells.injEq] at this;rw[this.2.1] at ht;exact zPk ht
      ·rcases HD4.out.own.2 with ⟨hv,_⟩ | ⟨g,cap,cur,hv,_,hh,_⟩
       ·rw[hv] at hx;cases hx
       ·rw[hv] at hx
        have:g=k:=by simpa[Value.ownBlock] using hx
        subst this;have:=hk.symm.trans hh;simp only[Option.some.injEq,Obj.cells.injEq] at this;rw[this.2.1] at ht;exact zNB ht⟩
     have HX5:Hid (LOwn Y.heap.size w5 (.slice ax C.length cx) C):=by
      have ho:w4.ownsRow Y.heap.size 76 3 (.slice ax C.length cx) C.length (zBI C):=HX4.out;refine zEC ho hf5 fun g hg hx=>?_
      rcases hx with hx | hx
      ·subst hx
       exact zCC ho HD4.out.blkR (by decide) hg
      ·rcases zDG ho HD4.out.own (by decide) with h1 | h1
       ·rw[h1] at hg;cases hg
       ·exact h1 (hg.trans hx.symm)
     clear hr5 hf5 HX4 HD4 s0 s1 s2 s3 s4 s5 s6;have hlm:zKa C∈C:=zKc C hc0;have hlp:zKa C∈S.path:=hCm _ hlm;have hgl:C[C.length - 1]? = some (zKa C):=by unfold zKa;rw[List.getD_eq_getElem?_getD,List.getElem?_eq_getElem (by omega)];rfl
     obtain⟨l,hl⟩:∃l,zKa C=l:=⟨_,rfl⟩;rw[hl] at hlm hlp hgl HR5;have hidx:=zPU l S.path hlp;have HIX:Hid (∀Z,Below w5.heap.size w5 Z→Calls Tryz.prog 200 #[.slice apa S.path.length cpa,.agg #[.int .i64 l.var,.int .i64 l.op,.int .i64 l.n]] Z fun e w'=>e=.returned (.int .i64 (idxL l S.path:Nat))∧Below Z.heap.size Z w'):=fun Z hZ =>
      zOC l S.path hlp (by omega) _ Z (LOwn.arg (zAB (show w5.ownsRow _ _ _ _ _ _ from hd5.path) hZ))
     obtain⟨ix,hix⟩:∃ix,idxL l S.path=ix:=⟨_,rfl⟩;rw[hix] at hidx HIX HR5;obtain⟨bx,ox,hax,hbx,x0,x1,x2⟩:=zKf HX5.out (C.length - 1) l hgl;subst hax;obtain⟨g,hg,hcap,hcm⟩:∃g,apa=some ⟨g,0,none⟩∧S.path.length≤cpa∧cpa≤9223372036854775807:=by
      have ho:w5.ownsRow W.heap.size 76 3 (.slice apa S.path.length cpa) S.path.length (zBI S.path):=hd5.path;rcases ho.2 with ⟨_,hn⟩ | ⟨g,cap,cur,he,_,_,k1,k2,_⟩
      ·omega
      ·cases he
       exact⟨g,rfl,k1,k2⟩
     subst hg;have hic:ix≤cpa:=by omega
     have HD5:Hid _:=hd5;obtain⟨s0,s1,s2,s3,s4,s5,s6⟩:=hd5.cells;obtain⟨m,hm⟩:∃m,C.length=m+1:=⟨C.length - 1,by omega⟩
     rw[show C.length - 1=m by omega] at x0 x1 x2
     have hC5:C.length≤36:=by omega
     clear hgl hlm hlp hl hix hCm HX5 hc2 hc0 hc3 hc4 hd5 hCl;go_wp2_with fail
     have hm36:m≤36:=by omega
     have hmm:m<m+1:=by omega
     have hmi:(m:Int)<(m:Int)+1:=by omega
     have hwm:IntKind.i64.wrap (m:Int)=(m:Int):=by rw[IntKind.wrap_i64];omega
     clear hm hC5;go_region_law
      (first
        | (rw[if_pos (by rfl)];go_simp;go_at_call 200;refine (HIX.out _ (Below.refl _ _).drew).mono ?_;rintro e w6 ⟨rfl,hb6⟩;have hB6:Below w5.heap.size w5 w6:=(Below.refl _ _).drew.trans hb6;have t6:=(hB6.cell (p:=⟨s,5,none⟩) s0).trans s6;have z6:=(HD5.out.below hB6).frz 5;have l6:s<w6.heap.size:=Nat.lt_of_lt_of_le s0 hB6.size;dsimp only))
     all_goals
      have HD6:=(HD5.out.below hB6).cutp ix (by omega) rfl
      have HT6:=(HT5.out.trans (TFr.below hB6)).trans (TFr.set (HD5.out.below hB6).blkS zJq 5 (.slice (some ⟨g,0,none⟩) ix cpa));go_wp2
      go_ret
      rw[←HR5.out];exact⟨rfl,HT6,_,_,_,_,HD6⟩
open Go.RowKit Go.Lib
theorem zH3 (w:World) (o:Obj):(w.alloc o).heap[w.heap.size]? = some o:=by
 show (w.heap.push o)[w.heap.size]? = some o;simp
theorem zGO {P:Program} {w:World} {ops:Array Oper} {rest:List Oper} {o:Oper} {a:Act} {Q:Exit→Act→World→Prop} (hgd:o.guard=none) (s x:Operand) (t1 t2:TypeId)
 (ho:o.op=.call { callee:=.builtin .append,args:=#[s,x],argTypes:=#[t1,t2] }) (v u v':Value) (w':World) (hs:a.eval s=v) (hx:a.eval x=u)
 (hr:∀ty,(Builtin.append_ #[t1,t2] ty #[v,u]).run P w=.ok v' w') (h:wpList P ops Q rest (a.put o.dst v') w'):wpList P ops Q (o :: rest) a w :=
 wpList_plain hgd fun _ hK=>by
  unfold Oper.wp execOp;simp only[ho,resolve,invoke,builtin,Sem.run_bind,Sem.run_pure,Result.andThen_ok,List.map_toArray,List.map_cons,List.map_nil,hs,hx,hr];exact hK _ _ h
theorem zRU (n:Nat) (hn:n≤1000) (w:World) :
 Calls Tryz.prog 201 #[.slice none 0 0,.int .i64 n] w fun e w'=>∃x,e=.returned x∧w'.ownsRow w.heap.size 3 1 x 0 []∧Below w.heap.size w w':=by
 obtain⟨i0,hi,hz0,hz1,hz2⟩:=info_parts Tryz.infoInt0;by_cases h0:n=0
 ·subst h0
  go_enter Tryz.func201,Tryz.ntmps201
  go_wp2
  go_ret
  exact⟨_,rfl,World.ownsRow_nil _ _ _ _,Below.refl _ _⟩
 ·have hold:(Builtin.firstCells i0.size 0 (.slice none 0 0)).run Tryz.prog w.drew=.ok ([]:List Value).toArray w.drew:=run_firstCells_none w.drew i0.size 0 0 0
  obtain⟨G,hG⟩:∃G,grownCap w n 0 3=G:=⟨_,rfl⟩;have hrz:∀ty,(Builtin.append_ #[42,3] ty #[.slice none 0 0,.int .i64 (n:Int)]).run Tryz.prog w=.ok (.slice (some ⟨w.heap.size,0,none⟩) n G) (w.drew.alloc (.cells (Builtin.zeroCells (Value.int .i64 0).cells n++Builtin.zeroCells (Value.int .i64 0).cells (G - n)) 3)):=fun ty=>by
   have hf:Builtin.nextslicecap (0+n) 0 * i0.bytes≤281474976710656:=growslice_fits (by omega) (by rw[hz2];omega)
   have h:=Lib.run_append_grow_zeros w 42 3 ty 3 i0 (.int .i64 0) .i64 .i64 Tryz.underlying42 Tryz.underlying3 hi hz0 none 0 0 [] hold n (by omega) (by omega) (by omega) (by omega) (by rw[hz2];omega) hf
   rw[Nat.zero_add,hG] at h;simpa using h
  have hGn:n≤G:=by rw[←hG];exact grownCap_ge w _ _ _
  have hG63:G≤maxLen:=by rw[←hG];exact grownCap_le_maxLen w _ 0 _ (by unfold maxLen;omega)
  have h1:¬((n:Int)<0):=by omega
  have h2:(n:Int) > 0:=by omega
  have h3:¬n=0:=h0;have HO:Hid ((w.drew.alloc (.cells (Builtin.zeroCells (Value.int .i64 0).cells n++Builtin.zeroCells (Value.int .i64 0).cells (G - n)) 3)).ownsRow w.heap.size 3 1 (.slice (some ⟨w.heap.size,0,none⟩) 0 G) 0 []):=by
   refine⟨rfl,.inr ⟨w.heap.size,G,_,rfl,Nat.le_refl _,zH3 _ _,Nat.zero_le _,hG63,?_,by simp⟩⟩
   simp[Builtin.zeroCells,Value.cells];omega
  have hG64:G≤9223372036854775807:=by unfold maxLen at hG63;exact hG63
  clear hold hG hG63;go_enter Tryz.func201,Tryz.ntmps201
  go_wp2_with (at_builtin;refine zGO rfl _ _ _ _ rfl _ _ _ _ rfl rfl hrz ?_)
  go_ret
  exact⟨_,rfl,HO.out,(Below.refl _ _).drew.alloc (Nat.le_refl _) _⟩
theorem zKv (s:Sto) (k:Nat) (x:List Int) (h:s[k]? = some x):(s.take (k+1)).flatten=(s.take k).flatten++x:=by
 rw[List.take_add_one,h];simp
theorem zPn (s:Sto) (hs:s.length≤6) (hr:∀r∈s,r.length≤100) (k:Nat):(s.take k).flatten.length≤600:=by
 have:∀(l:Sto),(∀r∈l,r.length≤100)→l.flatten.length≤100 * l.length:=by
  intro l
  induction l with
  | nil=>intro _;simp
  | cons x r ih =>
    intro h;rw[List.flatten_cons,List.length_append,List.length_cons];have:=ih fun y hy=>h y (List.mem_cons_of_mem _ hy)
    have:=h x (List.mem_cons_self ..);omega
 have h1:=this (s.take k) fun r hr2=>hr r (List.mem_of_mem_take hr2)
 have:(s.take k).length≤6:=by rw[List.length_take];omega
 omega
theorem zOD (s:Sto) (hs:s.length≤6) (hr6:∀r∈s,r.length≤100) (v:Value) (w:World) (hv:RArg w v s) :
 Calls Tryz.prog 127 #[v] w fun e w'=>∃x,e=.returned x∧w'.ownsRow w.heap.size 3 1 x s.flatten.length (s.flatten.map (Value.int .i64))∧Below w.heap.size w w':=by
 have HRA:Hid (∀Y,Below w.heap.size w Y→RArg Y v s):=fun Y hY=>RArg.below hY hv
 obtain⟨a,c,rfl,hl,hr⟩:=hv;have HV:Hid (∀(i:Nat) (r:List Int),s[i]? = some r→∃b off x,a=some ⟨b,off,none⟩∧b<w.heap.size∧w.cell? ⟨b,off+i,none⟩=some x∧IArg w x r):=hr;have HR6:Hid (∀k,(s.take k).flatten.length≤600):=zPn s hs hr6;have HFA:Hid ((s.take s.length).flatten=s.flatten):=by show _=_;rw[List.take_length]
 unfold maxLen at hl;obtain⟨hl1,hl⟩:=hl;clear hr hr6;go_enter Tryz.func127,Tryz.ntmps127
 go_wp2_with fail
 go_loopw [3,11] (fun sz i wr=>∃k:Nat,k≤s.length∧i=.int .i64 k∧sz=.int .i64 ((s.take k).flatten.length:Nat)∧wr=w) (fun _ i _=>s.length - (intOf i).toNat)
 case atStart=>exact⟨0,by omega,rfl,rfl,rfl⟩
 case round =>
  obtain⟨k,hk,rfl,rfl,rfl⟩:=hrel;by_cases hlt:k<s.length
  ·obtain⟨x,hx⟩:∃x,s[k]? = some x:=⟨s[k],by simp[hlt]⟩
   have HF:Hid ((s.take (k+1)).flatten.length=(s.take k).flatten.length+x.length):=by show _=_;rw[zKv s k x hx,List.length_append]
   have hx1:=HR6.out (k+1);rw[HF.out] at hx1;obtain⟨bb,off,y,hax,hlb,hc,a5,c5,rfl,⟨hm5,hm6⟩,_⟩:=HV.out k x hx;subst hax;unfold maxLen at hm6;obtain⟨q,hq⟩:∃q,(s.take k).flatten.length=q:=⟨_,rfl⟩;rw[hq] at HF hx1 ⊢;clear hx hq;go_wp2
   go_roundw
   case rel=>exact⟨k+1,by omega,by go_num,by rw[HF.out];go_num,trivial⟩
   case measure=>simp[intOf];omega
  ·have hks:k=s.length:=by omega
   subst hks;have hx1:=HR6.out s.length;obtain⟨q,hq⟩:∃q,(s.take s.length).flatten.length=q:=⟨_,rfl⟩;rw[hq] at hx1 ⊢;clear hq hlt hk;obtain⟨wo,rfl⟩:∃wo:World,wo=wr:=⟨_,rfl⟩;go_wp2_with fail
   refine (zRU q (by omega) _).mono ?_
   rintro e w1 ⟨x,rfl,hox,hb1⟩;obtain⟨ax,cx,rfl⟩:=zAC hox;have HOX:Hid (w1.ownsRow wo.heap.size 3 1 (.slice ax 0 cx) 0 []):=hox;have HB1:Hid (Below wo.heap.size wo w1):=hb1;clear hox hb1;go_wp2_with fail
   go_loopw [6,27] (fun nv i wy=>∃k:Nat,k≤s.length∧i=.int .i64 k∧wy.ownsRow wo.heap.size 3 1 nv (s.take k).flatten.length ((s.take k).flatten.map (Value.int .i64))∧Below wo.heap.size wo wy) (fun _ i _=>s.length - (intOf i).toNat)
   case atStart=>exact⟨0,by omega,rfl,HOX.out,HB1.out⟩
   case round =>
    obtain⟨k,hk,rfl,hnv,hbw⟩:=hrel;obtain⟨an,cn,rfl⟩:=zAC hnv;have HNV:Hid (wr.ownsRow wo.heap.size 3 1 (.slice an (s.take k).flatten.length cn) (s.take k).flatten.length ((s.take k).flatten.map (Value.int .i64))):=hnv;have HBW:Hid (Below wo.heap.size wo wr):=hbw;have hbs:=hbw.size;clear hnv hbw;by_cases hlt:k<s.length
    ·obtain⟨x,hx⟩:∃x,s[k]? = some x:=⟨s[k],by simp[hlt]⟩
     have HF:Hid ((s.take (k+1)).flatten=(s.take k).flatten++x):=zKv s k x hx;have hx1:=HR6.out (k+1);rw[HF.out,List.length_append] at hx1;obtain⟨bb,off,y,hax,hlb,hc0,hix⟩:=HV.out k x hx;subst hax;have hc:=(HBW.out.cell (p:=⟨bb,off+k,none⟩) hlb).trans hc0;have HIX:Hid (IArg wr y x):=IArg.below HBW.out hix;obtain⟨a5,c5,rfl,⟨hm5,hm6⟩,_⟩:=hix;obtain⟨acc,hacc⟩:∃acc,(s.take k).flatten=acc:=⟨_,rfl⟩;rw[hacc] at HF hx1 HNV ⊢;clear hx hacc hc0;go_wp2_with (at_builtin;refine zCO rfl _ _ rfl wo.heap.size _ acc rfl HNV.out _ x rfl HIX.out (by omega) hbs ?_)
     intro v3 w3 hown3 hg3 _;have HB3:Hid (Below wo.heap.size wo w3):=HBW.out.grown hg3 hbs (fun k h=>(HNV.out.lt k h).1)
     have HO3:Hid (w3.ownsRow wo.heap.size 3 1 v3 (acc++x).length ((acc++x).map (Value.int .i64))):=by
      show World.ownsRow _ _ _ _ _ _ _;rw[List.length_append,List.map_append];exact hown3
     clear hown3 hg3;go_wp2
     go_roundw
     case rel=>exact⟨k+1,by omega,by go_num,by rw[HF.out];exact HO3.out,HB3.out⟩
     case measure=>simp[intOf];omega
    ·have hks:k=s.length:=by omega
     subst hks;rw[HFA.out] at HNV ⊢;go_wp2
     go_ret
     exact⟨_,rfl,HNV.out,HBW.out⟩
theorem zJr {p:Nat→Prop} (h:∃n,p n):∃n,p n∧∀m,p m→n≤m:=by
 obtain⟨n,hn⟩:=h;have:∀(k n:Nat),n≤k→p n→∃n,p n∧∀m,p m→n≤m:=by
  intro k
  induction k with
  | zero=>intro n hk hn;exact⟨n,hn,fun m _=>by omega⟩
  | succ k ih =>
    intro n hk hn;by_cases h:∃m,p m∧m<n
    ·obtain⟨m,hm,hlt⟩:=h
     exact ih m (by omega) hm
    ·refine⟨n,hn,fun m hm=>?_⟩
     apply Classical.byContradiction;intro hl;exact h ⟨m,hm,by omega⟩
 exact this n n (Nat.le_refl _) hn
open Classical in
noncomputable def zCh (p:Nat→Prop):Nat:=if h:∃n,p n then Classical.choose (zJr h) else 0
theorem zEj {p:Nat→Prop} (h:∃n,p n):p (zCh p):=by
 unfold zCh;rw[dif_pos h];exact (Classical.choose_spec (zJr h)).1
theorem zDw {p:Nat→Prop} {n:Nat} (h:p n):zCh p≤n:=by
 have he:∃n,p n:=⟨n,h⟩;unfold zCh;rw[dif_pos he];exact (Classical.choose_spec (zJr he)).2 n h
structure SkO (vs:List MVar) (S:Sk):Prop where
 prf:S.proof.length≤6000
 cs:S.cs.length+S.fuel≤1000
 path:zHp vs S.path
theorem zL2 (vs:List MVar) (pt:List (List Nat)) (S:Sk) (h:SkO vs S) (h0:(zBL vs pt S).1=0):SkO vs (zBL vs pt S).2:=by
 unfold zBL at h0 ⊢
 split
 ·rename_i hc;rw[if_pos hc] at h0;cases h0
 ·rename_i hc0
  rw[if_neg hc0] at h0
  split
  ·rename_i hc;rw[if_pos hc] at h0;cases h0
  ·rename_i hc1
   rw[if_neg hc1] at h0
   split
   ·rename_i hc;rw[if_pos hc] at h0;cases h0
   ·refine⟨by simp only;omega,?_,zPT vs _ h.path _⟩
    have:=h.cs;simp only[List.length_append,List.length_singleton];omega
theorem zPo (vs:List MVar) (hv:zAc vs) (pt:List (List Nat)) (S:Sk) (h:SkO vs S) (hf:¬zBV (zAb vs (zAo vs pt S))<0):SkO vs (zEf (zAb vs (zAo vs pt S)) S) :=
 ⟨h.prf,h.cs,zQ9 vs hv pt S h.path hf⟩
def NxI (W w:World) (s r mb:Nat) (sv pv:Value) (vs:List MVar) (pt:List (List Nat)) (R:Int×List Int×Sk) (wr:World) (n:Nat):Prop :=
 ∃(S:Sk) (cv prv pav:Value) (L:List SV),zCY vs S=n∧zAt vs pt S=R∧SkO vs S∧SkD W wr s r mb sv pv cv prv pav L (S.proof.map fun x=>zAH vs x.cla) S∧TFr w wr
theorem zKw (vs:List MVar) (hva:zAQ vs) (hn1:1≤vs.length) (pt:List (List Nat)) (W:World) (s r mb:Nat) (sv pv cv prv pav:Value) (hB:SkB W s r mb sv pv vs pt) (L:List SV) (S:Sk) (hS:SkO vs S) (w:World)
 (hD:SkD W w s r mb sv pv cv prv pav L (S.proof.map fun x=>zAH vs x.cla) S) :
 Calls Tryz.prog 66 #[.pointer (some ⟨s,0,none⟩)] w fun e w'=>∃x,e=.returned (.tuple #[.int .i64 (zAt vs pt S).1,x])∧w'.ownsRow w.heap.size 3 1 x (zAt vs pt S).2.1.length ((zAt vs pt S).2.1.map (Value.int .i64))∧TFr w w' ∧
  ∃cv' prv' pav' L',SkD W w' s r mb sv pv cv' prv' pav' L' ((zAt vs pt S).2.2.proof.map fun x=>zAH vs x.cla) (zAt vs pt S).2.2:=by
 obtain⟨R,hR⟩:∃R,zAt vs pt S=R:=⟨_,rfl⟩;rw[hR];obtain⟨i0,hi0,hz0,hz1,hz2⟩:=info_parts Tryz.infoLit;have HVO:Hid (zAQ vs):=hva;have HSB:Hid (SkB W s r mb sv pv vs pt):=hB;have HI:Hid (∃n,NxI W w s r mb sv pv vs pt R w n):=⟨_,S,cv,prv,pav,L,rfl,hR,hS,hD,TFr.refl _⟩;obtain⟨asv,csv,hsv⟩:∃a c,sv=.slice a vs.length c:=by obtain⟨a,c,h,_⟩:=(hB.keep w hD.fr).1;exact⟨a,c,h⟩
 subst hsv;clear hD hB hva hR hS;go_enter Tryz.func66,Tryz.ntmps66
 go_wp2_with fail
 go_loopw [] (fun wr=>∃n,NxI W w s r mb (.slice asv vs.length csv) pv vs pt R wr n) (fun wr=>zCh (NxI W w s r mb (.slice asv vs.length csv) pv vs pt R wr))
 case atStart=>exact HI.out
 case round =>
  have hsp:=zEj hrel;obtain⟨N,hN⟩:∃N,zCh (NxI W w s r mb (.slice asv vs.length csv) pv vs pt R wr)=N:=⟨_,rfl⟩;have HN:Hid (zCh (NxI W w s r mb (.slice asv vs.length csv) pv vs pt R wr)=N):=hN;rw[hN] at hsp;clear hrel HI hN;obtain⟨S',cv',prv',pav',L',hop,hnx,hok,hd,htf⟩:=hsp;have HOP:Hid (zCY vs S'=N):=hop;have HNX:Hid (zAt vs pt S'=R):=hnx;have HOK:Hid (SkO vs S'):=hok;have HD:Hid (SkD W wr s r mb (.slice asv vs.length csv) pv cv' prv' pav' L' (S'.proof.map fun x=>zAH vs x.cla) S'):=hd
  have HTF:Hid (TFr w wr):=htf;obtain⟨apa,cpa,rfl⟩:=zAC hd.path;obtain⟨s0,s1,s2,s3,s4,s5,s6⟩:=hd.cells;have hp36:=zM3 vs _ hok.path;obtain⟨l,hl⟩:∃l,zAo vs pt S'=l:=⟨_,rfl⟩;have HL:Hid (zAo vs pt S'=l):=hl;have HLE:Hid (∀Z,Below wr.heap.size wr Z→Calls Tryz.prog 123 #[.pointer (some ⟨r,0,none⟩),.slice apa S'.path.length cpa] Z fun e w'=>e=.returned (.int .u64 (l:Int))∧Below Z.heap.size Z w'):=fun Z hZ=>by
   rw[←hl];exact zKq vs HVO.out hn1 S'.cs pt S'.path r _ pv cv' _ Z ((hd.below hZ).rules HSB.out) (LOwn.arg (hd.below hZ).path)
  have hst:=zFt vs HVO.out.1 pt S';rw[hnx,hl] at hst;have hwl:∀i,l.testBit i=true→(zAE vs).testBit i=true:=fun i hi=>by rw[←hl] at hi;exact (zDs vs HVO.out.1 _ _ _ i hi).1
  have HWL:Hid (∀i,l.testBit i=true→(zAE vs).testBit i=true):=hwl;have HST:=(show Hid _ from hst)
  clear hop hnx hok hd htf hl hst hwl;go_wp2_with fail
  go_region_law
   (first
     | (rw[if_pos (by rfl)];go_simp;go_at_call 123;refine (HLE.out _ (Below.refl _ _).drew).mono ?_;rintro e w2 ⟨rfl,hb2⟩;have hB2:Below wr.heap.size wr w2:=(Below.refl _ _).drew.trans hb2;dsimp only))
  all_goals
   have HD2:=(show Hid _ from HD.out.below hB2)
   have HT2:Hid (TFr w w2):=HTF.out.trans (TFr.below hB2);clear hb2 hB2 s0 s1 s2 s3 s4 s5 s6 HD HTF;obtain⟨s0,s1,s2,s3,s4,s5,s6⟩:=HD2.out.cells;by_cases hl0:l=0
   ·have hst:=HST.out
    rw[if_pos hl0] at hst;subst hl0;go_wp2_with fail
    refine (zRT vs HVO.out hn1 pt W s r mb _ pv _ _ _ HSB.out L' S' HOK.out.prf HOK.out.cs hp36 HL.out w2 HD2.out).mono ?_;rintro e w3 ⟨rfl,ht3,cv3,prv3,pav3,L3,hd3⟩;have HT3:Hid (TFr w w3):=HT2.out.trans ht3;clear ht3;by_cases hv:(zBL vs pt S').1=0
    ·rw[if_pos hv] at hst
     have HNI:Hid (NxI W w s r mb (.slice asv vs.length csv) pv vs pt R w3 (zCY vs (zBL vs pt S').2)):=⟨_,cv3,prv3,pav3,L3,rfl,hst.symm,zL2 vs pt S' HOK.out hv,hd3,HT3.out⟩;have HLT:Hid (zCY vs (zBL vs pt S').2<N):=by rw[←HOP.out];exact zDt vs pt S' hv
     rw[hv];clear hst hv hd3 HST HLE;go_wp2
     go_roundw
     case rel=>exact⟨_,HNI.out⟩
     case measure=>exact Nat.lt_of_le_of_lt (zDw HNI.out) (by rw[HN.out];exact HLT.out)
    ·rw[if_neg hv] at hst
     have HST2:Hid (R=((zBL vs pt S').1,[],(zBL vs pt S').2)):=hst;have HD3:=(show Hid _ from hd3)
     obtain⟨vd,hvd⟩:∃vd,(zBL vs pt S').1=vd:=⟨_,rfl⟩;have HVD:Hid ((zBL vs pt S').1=vd):=hvd;rw[hvd] at hv ⊢;have hv':(vd != 0)=true:=by simpa using hv
     clear hst hd3 hvd HST HLE;go_wp2
     go_ret2
     rw[HST2.out,HVD.out];exact⟨_,rfl,World.ownsRow_nil _ _ _ _,HT3.out,_,_,_,_,HD3.out⟩
   ·have hst:=HST.out
    rw[if_neg hl0] at hst;have hl0':((l:Int)==0)=false:=by simpa using hl0
    obtain⟨st,hstp⟩:∃st,zAb vs l=st:=⟨_,rfl⟩;have HSTP:Hid (zAb vs l=st):=hstp;rw[hstp] at hst;have hstl:st.length≤6:=by rw[←hstp,zEv];exact HVO.out.1.1
    have HSR:Hid (∀r∈st,r.length≤100):=fun r hr=>by
     obtain⟨i,hi⟩:=List.mem_iff_getElem?.1 hr;have h1:=zEh (zBY vs l) (List.replicate vs.length []) i;have h2:(zBi (zBY vs l) (List.replicate vs.length [])).getD i []=r:=by
      have:zBi (zBY vs l) (List.replicate vs.length [])=st:=hstp;rw[this,List.getD_eq_getElem?_getD,hi];rfl
     rw[h2] at h1;have h3:=zD7 vs l;have h4:((List.replicate vs.length ([]:List Int)).getD i []).length=0:=by
      rw[List.getD_eq_getElem?_getD,List.getElem?_replicate]
      split <;> rfl
     omega
    clear hstp;go_wp2_with fail
    refine (zN2 vs HVO.out l HWL.out _ w2 (HSB.out.keep _ HD2.out.fr).1 (HSB.out.keep _ HD2.out.fr).2.2).mono ?_;rintro e w3 ⟨B,cells,rfl,hg3,hBs,hb3⟩;rw[HSTP.out] at hg3;have HG3:Hid (zE3 w3 B vs.length cells st):=hg3;have HD3:=(show Hid _ from HD2.out.below hb3)
    have HT3:Hid (TFr w w3):=HT2.out.trans (TFr.below hb3);clear hb3 s0 s1 s2 s3 s4 s5 s6 HD2 HT2 HLE;obtain⟨s0,s1,s2,s3,s4,s5,s6⟩:=HD3.out.cells;go_wp2_with fail
    refine (zOB st hstl _ w3 HG3.out.rarg).mono ?_;rintro e w4 ⟨rfl,rfl⟩;obtain⟨ff,hff⟩:∃ff,zBV st=ff:=⟨_,rfl⟩;have HFF:Hid (zBV st=ff):=hff;rw[hff] at hst ⊢;by_cases hf0:ff<0
    ·rw[if_pos hf0] at hst
     have HST2:Hid (R=(1,st.flatten,S')):=hst;clear hst hff hg3;go_wp2_with fail
     refine (zOD st hstl HSR.out _ w4 HG3.out.rarg).mono ?_;rintro e w5 ⟨x,rfl,hox,hb5⟩;have HO5:Hid (w5.ownsRow w4.heap.size 3 1 x st.flatten.length (st.flatten.map (Value.int .i64))):=hox;have HD5:=(show Hid _ from HD3.out.below hb5)
     have HT5:Hid (TFr w w5):=HT3.out.trans (TFr.below hb5);have HLE4:Hid (w.heap.size≤w4.heap.size):=HT3.out.size;clear hox hb5;go_wp2
     go_ret2
     rw[HST2.out];exact⟨_,rfl,World.ownsRow.mono HO5.out HLE4.out,HT5.out,_,_,_,_,HD5.out⟩
    ·rw[if_neg hf0] at hst
     obtain⟨hfs,hfl⟩:=zFP st (by rw[hff];exact hf0)
     rw[hff] at hfs hfl;obtain⟨v,rfl⟩:∃v:Nat,ff=(v:Int):=⟨ff.toNat,by omega⟩
     rw[Int.toNat_natCast] at hfl;have hvl:v<st.length:=by omega
     obtain⟨row,hrow⟩:∃row,st[v]? = some row:=⟨st[v],by rw[List.getElem?_eq_getElem hvl]⟩
     rw[List.getD_eq_getElem?_getD,hrow] at hfl;simp only[Option.getD_some] at hfl;obtain⟨htop,hlen,hrws,_⟩:=hg3;obtain⟨xr,hxr,hoxr⟩:=hrws v row hrow;obtain⟨axr,cxr,rfl⟩:=zAC hoxr;obtain⟨gx,hgx⟩:∃gx,axr=some ⟨gx,0,none⟩:=by
      rcases hoxr.2 with ⟨_,hn⟩ | ⟨g,cap,cur,he,_⟩
      ·omega
      ·cases he;exact⟨g,rfl⟩
     subst hgx;obtain⟨x0,hx0⟩:∃x0,row[0]? = some x0:=⟨row[0],by rw[List.getElem?_eq_getElem (by omega)]⟩
     have cB:w4.cell? ⟨B,v,none⟩=some (.slice (some ⟨gx,0,none⟩) row.length cxr):=by rw[htop.cellAt v (by omega)];exact hxr
     have lB:B<w4.heap.size:=(htop.lt B rfl).2;have cX:w4.cell? ⟨gx,0,none⟩=some (.int .i64 x0):=by rw[hoxr.cellAt 0 (by omega),List.getElem?_map,hx0];rfl
     have lX:gx<w4.heap.size:=(hoxr.lt gx rfl).2;have HPK:Hid (zPR st=⟨(v:Int),4,x0⟩):=by
      show _=_;unfold zPR;have hgd:st.getD v []=row:=by rw[List.getD_eq_getElem?_getD,hrow];rfl
      rw[hff,Int.toNat_natCast,hgd,List.getD_eq_getElem?_getD,hx0];rfl
     have HST2:Hid (R=zAt vs pt (zEf st S')):=hst;have HOK2:Hid (SkO vs (zEf st S')):=by rw[←HSTP.out,←HL.out];exact zPo vs HVO.out.1 pt S' HOK.out (by rw[HL.out,HSTP.out,hff];exact hf0)
     have HOP2:Hid (zCY vs (zEf st S')<N):=by rw[←HOP.out,←HSTP.out,←HL.out];exact zEx vs HVO.out.1 pt S' (by rw[HL.out,HSTP.out,hff];exact hf0)
     have hvn:v<vs.length:=by omega
     have hvn':(v:Int)<(vs.length:Int):=by omega
     have hr1:0<row.length:=by omega
     have hr2:(0:Int)<(row.length:Int):=by omega
     have hr3:¬row=[]:=fun h=>by rw[h] at hr1;cases hr1
     have hWs:W.heap.size≤w4.heap.size:=HD3.out.fr.size;have hopa:w4.ownsRow W.heap.size 76 3 (.slice apa S'.path.length cpa) S'.path.length (zBI S'.path):=HD3.out.path;have hf1:¬((v:Int)<0):=by omega
     clear hst hff hrow hxr hx0 hoxr htop hrws hlen hfs hfl hvl HST hstl;go_wp2_with fail
     go_region_law
      (first
        | (rw[if_pos (by rfl)];refine zBP _ _ _ 28 rfl W.heap.size 76 i0 _ 3 24 Tryz.underClauseE hi0 hz0 hz1 hz2 rfl (by decide) _ _ _ rfl (hopa.drew.alloc _) ⟨w4.heap.size,0,none⟩ 1 1 (zDS ⟨(v:Int),4,x0⟩) rfl rfl (zMx w4.drew ⟨(v:Int),4,x0⟩) (by intro u hu;simp[zDS] at hu;rcases hu with rfl | rfl | rfl <;> rfl) ?_ ?_ ?_ ?_;(unfold maxLen;omega);omega;(simp;omega);intro v7 w7 hown7 hg7 hat7;obtain⟨a7,c7,hv7⟩:=zAC hown7;subst hv7
           have hbl7:=zBF (HD3.out.below ((Below.refl _ _).drew.alloc (Nat.le_refl _) _)).blkS hg7 (hopa.drew.alloc _) (by decide)
           have t5:w7.cell? ⟨s,5,none⟩=some (.slice apa S'.path.length cpa):=blk9 hbl7 5 _ rfl;have z5:w7.frozen? ⟨s,5,none⟩=false:=frz9 hbl7 5;have l5:s<w7.heap.size:=(Array.getElem?_eq_some_iff.1 hbl7).1))
     all_goals
      have HNI:Hid (NxI W w s r mb (.slice asv vs.length csv) pv vs pt R (w7.setCell ⟨s,5,none⟩ (.slice a7 (S'.path.length+1) c7)) (zCY vs (zEf st S'))):=by
       have hb5:Below w4.heap.size w4 (w4.drew.alloc (.cells #[.int .i64 (v:Int),.int .i64 4,.int .i64 x0] 76)):=(Below.refl _ _).drew.alloc (Nat.le_refl _) _;have hpush:=HD3.out.pushp (l:=⟨(v:Int),4,x0⟩) hb5 hg7 hat7 rfl hown7;have hsk:SkD W (w7.setCell ⟨s,5,none⟩ (.slice a7 (S'.path.length+1) c7)) s r mb (.slice asv vs.length csv) pv cv' prv' (.slice a7 (S'.path.length+1) c7) L' ((zEf st S').proof.map fun x=>zAH vs x.cla) (zEf st S'):=by
        unfold zEf;rw[HPK.out];exact hpush
       exact⟨zEf st S',_,_,_,L',rfl,HST2.out.symm,HOK2.out,hsk,((HT3.out.trans (TFr.below hb5)).trans (TFr.grown (hopa.drew.alloc _) hg7 zSc)).trans (TFr.set hbl7 zJq 5 _)⟩
      go_wp2
      go_roundw
      case rel=>exact⟨_,HNI.out⟩
      case measure=>exact Nat.lt_of_le_of_lt (zDw HNI.out) (by rw[HN.out];exact HOP2.out)
end Go.Proofs.YtndcpnlaadikoaaGreatDoor
