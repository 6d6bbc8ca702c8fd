/- What the proof leans on, part 23. -/
import Derived.Test.YtdjbejlbmaiocagGreatDoorPartAj
import Derived.Test.YtdjbejlbmaiocagGreatDoorPartAq
import Derived.Test.YtdjbejlbmaiocagGreatDoorPartAv
import Derived.Test.YtdjbejlbmaiocagGreatDoorPartAt
import Derived.Test.YtdjbejlbmaiocagGreatDoorPartAh
import Derived.Lib.AppendZerosOnto
import Derived.Lib.SliceRun
set_option maxRecDepth 100000
set_option maxHeartbeats 6400000
namespace Go.Proofs.YtdjbejlbmaiocagGreatDoor
open Go.RowKit
theorem zQY (s:Sto) (k:Nat) (x:List Int) (b:Int) (h:s[k]? = some x):fewF s k (s.drop k) b=fewF s (k+1) (s.drop (k+1)) (if 1<x.length∧(b<0∨x.length<(s.getD b.toNat []).length) then (k:Int) else b):=by
 have hk:=(List.getElem?_eq_some_iff.1 h).1;have:s[k]=x:=by rw[List.getElem?_eq_getElem hk] at h;exact Option.some.inj h
 rw[List.drop_eq_getElem_cons hk,this];rfl
theorem zOv (s:Sto) (hs:s.length≤6) (v:Value) (w:World) (hv:RArg w v s) :
 Calls Tryz.prog 135 #[v] w fun e w'=>e=.returned (.int .i64 (zBf s))∧w'=w:=by
 obtain⟨a,c,rfl,hl,hr⟩:=hv;have HV:Hid (∀(i:Nat) (r:List Int),s[i]? = some r→∃b off x,a=some ⟨b,off,none⟩∧b<w.heap.size∧w.cell? ⟨b,off+i,none⟩=some x∧IArg w x r):=hr;unfold maxLen at hl;obtain⟨hl1,hl⟩:=hl;obtain⟨R,hR⟩:∃R,zBf s=R:=⟨_,rfl⟩;rw[hR];have HR:Hid (fewF s 0 (s.drop 0) (-1)=R):=hR;clear hr hR;go_enter Tryz.func135,Tryz.ntmps135
 go_wp2_with fail
 go_loopw [3,8] (fun bv i wr=>∃(k:Nat) (b:Int),k≤s.length∧i=.int .i64 k∧bv=.int .i64 b∧-1≤b∧b<(s.length:Int)∧Hid (fewF s k (s.drop k) b=R)∧wr=w) (fun _ i _=>s.length - (intOf i).toNat)
 case atStart=>exact⟨0,-1,by omega,rfl,rfl,by omega,by omega,HR,rfl⟩
 case round =>
  obtain⟨k,b,hk,rfl,rfl,hb0,hb1,hf,rfl⟩:=hrel;by_cases hlt:k<s.length
  ·obtain⟨x,hx⟩:∃x,s[k]? = some x:=⟨s[k],by simp[hlt]⟩
   have HF:=hf.out;rw[zQY s k x b hx] at HF;obtain⟨bb,off,y,hax,hlb,hc,a5,c5,rfl,⟨hm5,hm6⟩,_⟩:=HV.out k x hx;subst hax;unfold maxLen at hm6;by_cases h1:1<x.length
   ·have h1':(1:Int)<(x.length:Int):=by omega
    by_cases h2:b<0
    ·rw[if_pos ⟨h1,Or.inl h2⟩] at HF
     have HF2:Hid (fewF s (k+1) (s.drop (k+1)) (k:Int)=R):=HF;clear HF hf hx;go_wp2
     go_roundw
     case rel=>exact⟨k+1,(k:Int),by omega,by go_num,rfl,by omega,by omega,HF2,trivial⟩
     case measure=>simp[intOf];omega
    ·obtain⟨bn,rfl⟩:∃bn:Nat,b=(bn:Int):=⟨b.toNat,by omega⟩
     have hbn:bn<s.length:=by omega
     obtain⟨z,hz⟩:∃z,s[bn]? = some z:=⟨s[bn],by simp[hbn]⟩
     obtain⟨bb2,off2,y2,hax2,hlb2,hc2,a6,c6,rfl,⟨hn5,hn6⟩,_⟩:=HV.out bn z hz;cases hax2
     unfold maxLen at hn6;have hgz:s.getD ((bn:Int)).toNat []=z:=by rw[Int.toNat_natCast,List.getD_eq_getElem?_getD,hz];rfl
     rw[hgz] at HF;by_cases h3:x.length<z.length
     ·rw[if_pos ⟨h1,Or.inr h3⟩] at HF
      have h3':(x.length:Int)<(z.length:Int):=by omega
      have HF2:Hid (fewF s (k+1) (s.drop (k+1)) (k:Int)=R):=HF;clear HF hf hx hz hgz;go_wp2
      go_roundw
      case rel=>exact⟨k+1,(k:Int),by omega,by go_num,rfl,by omega,by omega,HF2,trivial⟩
      case measure=>simp[intOf];omega
     ·rw[if_neg (fun h=>by rcases h.2 with h | h <;> omega)] at HF
      have h3':¬(x.length:Int)<(z.length:Int):=by omega
      have HF2:Hid (fewF s (k+1) (s.drop (k+1)) (bn:Int)=R):=HF;clear HF hf hx hz hgz;go_wp2
      go_roundw
      case rel=>exact⟨k+1,(bn:Int),by omega,by go_num,rfl,by omega,by omega,HF2,trivial⟩
      case measure=>simp[intOf];omega
   ·have h1':¬(1:Int)<(x.length:Int):=by omega
    rw[if_neg (fun h=>h1 h.1)] at HF
    have HF2:Hid (fewF s (k+1) (s.drop (k+1)) b=R):=HF;clear HF hf hx;go_wp2
    go_roundw
    case rel=>exact⟨k+1,b,by omega,by go_num,rfl,by omega,by omega,HF2,trivial⟩
    case measure=>simp[intOf];omega
  ·have HF2:Hid (b=R):=by
    have:=hf.out;rw[List.drop_of_length_le (by omega)] at this
    exact this
   clear hf;go_wp2
   go_ret
   exact⟨zAE HF2.out,rfl⟩
theorem zSQ (l:MLit) (c:Cla) (k:Nat) (x:MLit) (h:c[k]? = some x):idxL l (c.drop k)=if zP0 l x then 0 else idxL l (c.drop (k+1))+1:=by
 have hk:=(List.getElem?_eq_some_iff.1 h).1;have:c[k]=x:=by rw[List.getElem?_eq_getElem hk] at h;exact Option.some.inj h
 rw[List.drop_eq_getElem_cons hk,this];rfl
theorem zOw (l:MLit) (c:Cla) (hm:l∈c) (hlen:c.length≤900) (v:Value) (w:World) (hv:LArg w v c) :
 Calls Tryz.prog 196 #[v,.agg #[.int .i64 l.var,.int .i64 l.op,.int .i64 l.n]] w fun e w'=>e=.returned (.int .i64 (idxL l c:Nat))∧Below w.heap.size w w':=by
 obtain⟨a,cc,rfl,hl,hr⟩:=hv;have HV:Hid (∀(i:Nat) (t:MLit),c[i]? = some t→∃b off,a=some ⟨b,off,none⟩∧b<w.heap.size ∧
  w.cell? ⟨b,off+i * 3,none⟩=some (.int .i64 t.var)∧w.cell? ⟨b,off+i * 3+1,none⟩=some (.int .i64 t.op)∧w.cell? ⟨b,off+i * 3+2,none⟩=some (.int .i64 t.n)):=hr
 have HI:Hid (idxL l c<c.length):=zP4 l c hm;unfold maxLen at hl;obtain⟨hl1,hl⟩:=hl;obtain⟨R,hR⟩:∃R,idxL l c=R:=⟨_,rfl⟩;rw[hR] at HI ⊢;have HR:Hid (0+idxL l (c.drop 0)=R):=by show 0+idxL l (c.drop 0)=R;rw[List.drop_zero,Nat.zero_add];exact hR
 clear hr hR hm;go_enter Tryz.func196,Tryz.ntmps196
 go_wp2_with fail
 go_loopw [8] (fun i wr=>∃k:Nat,k≤c.length∧i=.int .i64 k∧Hid (k+idxL l (c.drop k)=R)∧Below (w.heap.size+1) (w.alloc (.cells #[.int .i64 l.var,.int .i64 l.op,.int .i64 l.n] 88)) wr) (fun i _=>c.length - (intOf i).toNat)
 case atStart=>exact⟨0,by omega,rfl,HR,Below.refl _ _⟩
 case round =>
  obtain⟨k,hk,rfl,hf,hbw⟩:=hrel;have hbw2:Below w.heap.size w wr:=(zAA _ _).trans (hbw.mono (by omega))
  have g0:wr.cell? ⟨w.heap.size,0,none⟩=some (.int .i64 l.var):=(hbw.cell (p:=⟨w.heap.size,0,none⟩) (by simp)).trans (by simp)
  have g1:wr.cell? ⟨w.heap.size,1,none⟩=some (.int .i64 l.op):=(hbw.cell (p:=⟨w.heap.size,1,none⟩) (by simp)).trans (by simp)
  have g2:wr.cell? ⟨w.heap.size,2,none⟩=some (.int .i64 l.n):=(hbw.cell (p:=⟨w.heap.size,2,none⟩) (by simp)).trans (by simp)
  have HB:Hid (Below w.heap.size w wr):=hbw2;have HBW:Hid (Below (w.heap.size+1) (w.alloc (.cells #[.int .i64 l.var,.int .i64 l.op,.int .i64 l.n] 88)) wr):=hbw;clear hbw hbw2;by_cases hlt:k<c.length
  ·obtain⟨x,hx⟩:∃x,c[k]? = some x:=⟨c[k],by simp[hlt]⟩
   have HF:=hf.out;rw[zSQ l c k x hx] at HF;obtain⟨bb,off,hax,hlb,c0,c1,c2⟩:=HV.out k x hx;subst hax;have e0:=(HB.out.cell (p:=⟨bb,off+k * 3,none⟩) hlb).trans c0;have e1:=(HB.out.cell (p:=⟨bb,off+k * 3+1,none⟩) hlb).trans c1;have e2:=(HB.out.cell (p:=⟨bb,off+k * 3+2,none⟩) hlb).trans c2;clear c0 c1 c2;by_cases hs:zP0 l x=true
   ·rw[if_pos hs] at HF
    have HF2:Hid (k=R):=by show k=R;omega
    obtain rfl:=(zMf l x).1 hs;clear HF hf hx hs;go_wp2_with fail
    go_quiet (fail)
    go_wp2_with fail
    go_ret
    exact⟨zAE (by rw[HF2.out]),below_drewN HB.out _⟩
   ·rw[if_neg hs] at HF
    have HF2:Hid (k+1+idxL l (c.drop (k+1))=R):=by show _=R;omega
    clear HF hf hx;obtain⟨lv,lo,ln⟩:=l;obtain⟨xv,xo,xn⟩:=x;simp only at g0 g1 g2 e0 e1 e2 HF2 HR;by_cases q1:lv=xv
    ·by_cases q2:lo=xo
     ·have q3:¬ln=xn:=fun h=>hs ((zMf _ _).2 (by rw[q1,q2,h]))
      subst q1 q2;have q3':(ln==xn)=false:=by simpa using q3
      clear hs;go_wp2_with fail
      go_quiet (fail)
      go_wp2
      go_roundw
      case rel=>exact⟨k+1,by omega,by go_num,HF2,below_drewN HBW.out _⟩
      case measure=>simp[intOf];omega
     ·have q2':(lo==xo)=false:=by simpa using q2
      subst q1;clear hs;go_wp2_with fail
      go_quiet (fail)
      go_wp2
      go_roundw
      case rel=>exact⟨k+1,by omega,by go_num,HF2,below_drewN HBW.out _⟩
      case measure=>simp[intOf];omega
    ·have q1':(lv==xv)=false:=by simpa using q1
     clear hs;go_wp2_with fail
     go_quiet (fail)
     go_wp2
     go_roundw
     case rel=>exact⟨k+1,by omega,by go_num,HF2,below_drewN HBW.out _⟩
     case measure=>simp[intOf];omega
  ·exfalso
   have:=hf.out;have:=HI.out;omega
open Go.RowKit Go.Maps
theorem SkD.add {W w w':World} {s r mb:Nat} {sv pv cv cv' prv pav:Value} {L:List SV} {M:List Nat} {S:Sk} {V:World} {h:Nat} (hD:SkD W w s r mb sv pv cv prv pav L M S) (hV:V.heap.size=W.heap.size) (hR:RulD V w' r sv pv cv' (S.cs++[h])) (hf:Fr (fun k=>k=r∨cv.ownBlock=some k) w w') :
 SkD W w' s r mb sv pv cv' prv pav L M ⟨S.cs++[h],S.fuel,S.proof,S.path⟩:=by
 have hcr:cv.ownBlock≠some r:=zCi hD.own hD.blkR (by decide)
 have hcs:cv.ownBlock≠some s:=zCi hD.own hD.blkS (by decide)
 have nX:∀{B:Nat} {e:TypeId} {n1 n2:Nat} {v:Value} {xs:List Value},w.ownsRow B e n1 v n2 xs→e≠183→e≠204→w'.ownsRow B e n1 v n2 xs:=fun ho he hr=>by
  refine zGv ho hf fun g hg hx=>?_
  rcases hx with hx | hx
  ·subst hx
   exact zCi ho hD.blkR (Ne.symm hr) hg
  ·rcases zFN ho hD.own he with h1 | h1
   ·rw[h1] at hg;cases hg
   ·exact h1 (hg.trans hx.symm)
 refine⟨hR.blk,(hf.block s (Array.getElem?_eq_some_iff.1 hD.blkS).1 (fun hx=>?_)).trans hD.blkS,?_,hR.lt36,⟨nX hD.prf.1 (by decide) (by decide),fun x hx=>nX (hD.prf.2 x hx) (by decide) (by decide)⟩,hD.prfE,?_,nX hD.path (by decide) (by decide),hD.apart,?_⟩
 ·rcases hx with hx | hx
  ·exact hD.rs hx.symm
  ·exact hcs hx
 ·rw[←hV];exact hR.own
 ·obtain⟨es,clock,h1,h2⟩:=hD.map
  refine⟨es,clock,(hf.block mb (Array.getElem?_eq_some_iff.1 h1).1 (fun hx=>?_)).trans h1,h2⟩
  rcases hx with hx | hx
  ·exact hD.nr hx.symm
  ·exact zDP hD.own hD.map hx
 ·refine⟨hf.os.trans hD.fr.os,hf.tape.trans hD.fr.tape,hf.output.trans hD.fr.output,Nat.le_trans hD.fr.size hf.size,fun k hk hn=>(hf.block k (Nat.lt_of_lt_of_le hk hD.fr.size) (fun hx=>?_)).trans (hD.fr.block k hk hn)⟩
  rcases hx with hx | hx
  ·exact hn (Or.inl hx)
  ·have:=(hD.own.lt k hx).1
   omega
def oldW (w:World) (n:Nat):World:={ w with heap:=w.heap.extract 0 n }
theorem zD9 (w:World) (n:Nat) (h:n≤w.heap.size):(oldW w n).heap.size=n:=by
 show (w.heap.extract 0 n).size=n;simp;omega
theorem zTb {X:Nat→Prop} (w:World) (n:Nat) (h:n≤w.heap.size):Fr X (oldW w n) w :=
 ⟨rfl,rfl,rfl,by rw[zD9 w n h];exact h,fun k hk _=>by
   rw[zD9 w n h] at hk;show w.heap[k]? = (w.heap.extract 0 n)[k]?;rw[Array.getElem?_extract];simp;intro h9;omega⟩
theorem SkD.rulD {W w:World} {s r mb:Nat} {sv pv cv prv pav:Value} {L:List SV} {M:List Nat} {S:Sk} (hD:SkD W w s r mb sv pv cv prv pav L M S):RulD (oldW w W.heap.size) w r sv pv cv S.cs :=
 ⟨hD.blkR,by rw[zD9 w _ hD.fr.size];exact hD.own,hD.lt36,zTb w _ hD.fr.size⟩
theorem SkD.rul {W w:World} {s r mb:Nat} {sv pv cv prv pav:Value} {L:List SV} {M:List Nat} {S:Sk} {vs:List MVar} {pt:List (List Nat)} (hB:SkB W s r mb sv pv vs pt) (hD:SkD W w s r mb sv pv cv prv pav L M S):Rul (oldW w W.heap.size) r sv pv vs pt:=by
 refine⟨by rw[zD9 w _ hD.fr.size];exact hB.rlt,fun w' hf=>hB.keep w' ?_⟩
 have hz:=zD9 w _ hD.fr.size;refine⟨hf.os.trans hD.fr.os,hf.tape.trans hD.fr.tape,hf.output.trans hD.fr.output,by rw[←hz];exact hf.size,fun k hk hn=>?_⟩
 have h1:=hf.block k (by rw[hz];exact hk) (fun he=>hn (Or.inl he))
 have h2:(oldW w W.heap.size).heap[k]? = w.heap[k]? := by
  show (w.heap.extract 0 W.heap.size)[k]? = w.heap[k]?;rw[Array.getElem?_extract];have h8:=hD.fr.size;simp;intro h9;omega
 exact h1.trans (h2.trans (hD.fr.block k hk hn))
theorem zSR (vs:List MVar) (hva:zAW vs) (hn1:1≤vs.length) (pt:List (List Nat)) (W:World) (s r mb:Nat) (sv pv cv prv pav:Value) (hB:SkB W s r mb sv pv vs pt) (L:List SV) (S:Sk) (hS:S.proof.length≤6000) (hcs:S.cs.length+S.fuel≤1000) (hp:S.path.length≤36) (hz:zAt vs pt S=0) (w:World)
 (hD:SkD W w s r mb sv pv cv prv pav L (S.proof.map fun x=>zAH vs x.cla) S) :
 Calls Tryz.prog 133 #[.pointer (some ⟨s,0,none⟩)] w fun e w'=>e=.returned (.int .i64 (zBV vs pt S).1)∧TFr w w'∧∃cv' prv' pav' L',SkD W w' s r mb sv pv cv' prv' pav' L' ((zBV vs pt S).2.proof.map fun x=>zAH vs x.cla) (zBV vs pt S).2:=by
 obtain⟨R,hR⟩:∃R,zBV vs pt S=R:=⟨_,rfl⟩;rw[hR];unfold zBV at hR;have HVO:Hid (zAW vs):=hva;have HSB:Hid (SkB W s r mb sv pv vs pt):=hB;have HD:Hid (SkD W w s r mb sv pv cv prv pav L (S.proof.map fun x=>zAH vs x.cla) S):=hD
 obtain⟨asv,csv,hsv⟩:∃a c,sv=.slice a vs.length c:=by obtain⟨a,c,h,_⟩:=(hB.keep w hD.fr).1;exact⟨a,c,h⟩
 subst hsv;obtain⟨apa,cpa,rfl⟩:=zAB hD.path;obtain⟨apr,cpr,rfl⟩:=zAB hD.prf.1;obtain⟨s0,s1,s2,s3,s4,s5,s6⟩:=hD.cells;have z2:=hD.frz 2;have hf300:S.fuel≤1000:=by omega
 by_cases h0:S.fuel=0
 ·rw[if_pos h0] at hR
  subst hR;have s3':w.cell? ⟨s,2,none⟩=some (.int .i64 0):=by rw[s3,h0];rfl
  clear s3 hD hB hva hz;go_enter Tryz.func133,Tryz.ntmps133
  go_wp2
  go_ret
  exact⟨rfl,TFr.refl _,_,_,_,_,HD.out⟩
 ·rw[if_neg h0] at hR
  have HR:=(show Hid _ from hR)
  obtain⟨f,hf⟩:∃f,S.fuel=f+1:=⟨S.fuel - 1,by omega⟩
  have hLA:zLU vs S.cs pt S.path=(zCX vs S.cs pt S.path,true):=by
   unfold zLU zBM;unfold zAt at hz;rw[hz];rfl
  obtain⟨C,hC⟩:∃C,zCX vs S.cs pt S.path=C:=⟨_,rfl⟩;have hCm:∀x∈C,x∈S.path:=fun x hx=>zJY vs S.cs pt S.path x (by rw[hC];exact hx)
  have hCl:C.length≤S.path.length:=by rw[←hC];exact zJZ vs S.cs pt S.path
  rw[hC] at hLA HR;have s3':w.cell? ⟨s,2,none⟩=some (.int .i64 ((f:Int)+1)):=by rw[s3,hf];congr 2
  have HDY:Hid (SkD W (w.setCell ⟨s,2,none⟩ (.int .i64 (f:Int))) s r mb (.slice asv vs.length csv) pv cv (.slice apr L.length cpr) (.slice apa S.path.length cpa) L (S.proof.map fun x=>zAH vs x.cla) ⟨S.cs,f,S.proof,S.path⟩):=HD.out.burn f
  rw[hf] at HR;have HTY:Hid (TFr w (w.setCell ⟨s,2,none⟩ (.int .i64 (f:Int)))):=TFr.set HD.out.blkS zKU 2 _;have hf1:f≤1000:=by omega
  have hcs1:S.cs.length≤1000:=by omega
  have HLE:Hid (∀Z,SkD W Z s r mb (.slice asv vs.length csv) pv cv (.slice apr L.length cpr) (.slice apa S.path.length cpa) L (S.proof.map fun x=>zAH vs x.cla) ⟨S.cs,f,S.proof,S.path⟩ →
   Calls Tryz.prog 193 #[.pointer (some ⟨r,0,none⟩),.slice apa S.path.length cpa] Z fun e w'=>∃x,e=.returned (.tuple #[x,.bool true])∧LOwn Z.heap.size w' x C∧Below Z.heap.size Z w'):=fun Z hZ=>by
   have:=zOr vs hva hn1 S.cs pt S.path (by omega) r _ pv cv _ Z (hZ.rules hB) (LOwn.arg hZ.path)
   rw[hLA] at this;exact this
  clear s3 hD hB hva hz hf h0 hLA hC hcs HD;go_enter Tryz.func133,Tryz.ntmps133
  go_wp2_with fail
  obtain⟨Y,hY⟩:∃Y,w.setCell ⟨s,2,none⟩ (.int .i64 (f:Int))=Y:=⟨_,rfl⟩;rw[hY] at HDY HTY ⊢;clear hY s0 s1 s2 s3' s4 s5 s6 z2;obtain⟨s0,s1,s2,s3,s4,s5,s6⟩:=HDY.out.cells;go_region_law
   (first
     | (rw[if_pos (by rfl)];go_simp;go_at_call 193;refine (HLE.out _ (HDY.out.below (Below.refl _ _).drew)).mono ?_;rintro e w2 ⟨x,rfl,hx2,hb2⟩;have hB2:Below Y.heap.size Y w2:=(Below.refl _ _).drew.trans hb2;obtain⟨ax,cx,hxf⟩:=zAB (show w2.ownsRow _ _ _ _ _ _ from hx2);subst hxf;dsimp only))
  all_goals
   have HD2:=(show Hid _ from HDY.out.below hB2)
   have HT2:Hid (TFr w w2):=HTY.out.trans (TFr.below hB2);have HX2:Hid (LOwn Y.heap.size w2 (.slice ax C.length cx) C):=hx2;clear hx2 hb2 hB2 s0 s1 s2 s3 s4 s5 s6;obtain⟨s0,s1,s2,s3,s4,s5,s6⟩:=HD2.out.cells;go_wp2_with fail
   refine (zOs vs HVO.out hn1 pt S.cs (by omega) C (by omega) r _ pv cv _ w2 (HD2.out.rules HSB.out) (LOwn.arg HX2.out)).mono ?_
   rintro e w3 ⟨stv,T,rfl,hTe,hst,hTl,hb3⟩;have HD3:=(show Hid _ from HD2.out.below hb3)
   have HT3':Hid (TFr w w3):=HT2.out.trans (TFr.below hb3);have HX3:Hid (LOwn Y.heap.size w3 (.slice ax C.length cx) C):=zAG (show w2.ownsRow _ _ _ _ _ _ from HX2.out) hb3
   have HT3:Hid (zCP w2.heap.size w3 stv T):=hst;have HTE:Hid (T.map (·.1)=zFG vs S.cs pt C):=hTe
   have HPB:Hid (∀g,(Value.slice apa S.path.length cpa).ownBlock=some g→g<w2.heap.size):=fun g hg=>(HD2.out.path.lt g hg).2
   have HQB:Hid (∀g,(Value.slice apr L.length cpr).ownBlock=some g→g<w2.heap.size):=fun g hg=>(HD2.out.prf.1.lt g hg).2
   have HW2:Hid (W.heap.size≤w2.heap.size):=HD2.out.fr.size;obtain⟨ast,cst,rfl⟩:=zAB hst.1;clear hTe hst hb3 s0 s1 s2 s3 s4 s5 s6;obtain⟨s0,s1,s2,s3,s4,s5,s6⟩:=HD3.out.cells;go_wp2_with fail
   refine (zQX vs HVO.out pt W s r mb _ pv cv _ _ HSB.out L ⟨S.cs,f,S.proof,S.path⟩ hS T hTl w2.heap.size _ w3 HD3.out HT3.out HW2.out HPB.out HQB.out).mono ?_;rintro e w4 ⟨rfl,prv',L',hd4,hf4,ht4⟩;have HT4:Hid (TFr w w4):=HT3'.out.trans ht4;clear ht4;have HX4:Hid (LOwn Y.heap.size w4 (.slice ax C.length cx) C):=by
    have ho:w3.ownsRow Y.heap.size 88 3 (.slice ax C.length cx) C.length (zBx C):=HX3.out;refine zGv ho hf4 fun g hg hx=>?_
    rcases hx with hx | hx | hx
    ·subst hx
     exact zCi ho HD3.out.blkS (by decide) hg
    ·subst hx
     exact zDP ho HD3.out.map hg
    ·rcases zFN ho HD3.out.prf.1 (by decide) with h1 | h1
     ·rw[h1] at hg;cases hg
     ·exact h1 (hg.trans hx.symm)
   rw[HTE.out] at hd4;obtain⟨PR,hPR⟩:∃PR,zAe vs (zFG vs S.cs pt C) S.proof=PR:=⟨_,rfl⟩;simp only at hd4;rw[hPR] at hd4;have HR4:=HR.out;rw[hPR] at HR4;have HD4:Hid (SkD W w4 s r mb (.slice asv vs.length csv) pv cv prv' (.slice apa S.path.length cpa) L' (PR.map fun x=>zAH vs x.cla) ⟨S.cs,f,PR,S.path⟩):=hd4
   have hLP:PR.length=L'.length:=by have h9:=hd4.prfE;simp only at h9;rw[←h9,List.length_map]
   obtain⟨ap4,cp4,rfl⟩:=zAB hd4.prf.1;clear hd4 hf4 hPR s0 s1 s2 s3 s4 s5 s6 HD2 HD3 HX2 HX3 HT3 HTE HPB HQB HW2 HDY HLE HR;obtain⟨s0,s1,s2,s3,s4,s5,s6⟩:=HD4.out.cells;by_cases h6:6000<L'.length
   ·have h6':(6000:Int)<(L'.length:Int):=by omega
    rw[if_pos (by omega)] at HR4
    subst HR4;clear hLP;go_wp2
    go_ret
    exact⟨rfl,HT4.out,_,_,_,_,HD4.out⟩
   ·have h6':¬(6000:Int)<(L'.length:Int):=by omega
    rw[if_neg (by omega)] at HR4
    by_cases hc0:C.length=0
    ·rw[if_pos hc0] at HR4
     subst HR4;have hc1:C=[]:=List.length_eq_zero_iff.1 hc0;subst hc1;clear hLP;go_wp2
     go_ret
     exact⟨rfl,HT4.out,_,_,_,_,HD4.out⟩
    ·rw[if_neg hc0] at HR4
     have HR5:Hid _:=HR4;clear HR4 hLP;have hc2:¬(C.length:Int)=0:=by omega
     have hc3:0<C.length:=by omega
     have hc4:¬C=[]:=fun h=>by rw[h] at hc0;exact hc0 rfl
     go_wp2_with fail
     refine (zQP vs HVO.out pt S.cs (by omega) C (oldW w4 W.heap.size) r _ pv cv _ w4 (HD4.out.rul HSB.out) HD4.out.rulD (LOwn.arg HX4.out)).mono ?_
     rintro e w5 ⟨rfl,cv',hr5,hf5⟩;have hd5:=HD4.out.add (zD9 w4 _ HD4.out.fr.size) hr5 hf5;have HT5:Hid (TFr w w5):=HT4.out.trans ⟨hf5.os,hf5.tape,hf5.output,hf5.size,fun k cs t z hk ht=>hf5.block k (Array.getElem?_eq_some_iff.1 hk).1 fun hx=>by
      rcases hx with hx | hx
      ·subst hx
       have:=hk.symm.trans HD4.out.blkR;simp only[Option.some.injEq,Obj.cells.injEq] at this;rw[this.2.1] at ht;exact zQV ht
      ·rcases HD4.out.own.2 with ⟨hv,_⟩ | ⟨g,cap,cur,hv,_,hh,_⟩
       ·rw[hv] at hx;cases hx
       ·rw[hv] at hx
        have:g=k:=by simpa[Value.ownBlock] using hx
        subst this;have:=hk.symm.trans hh;simp only[Option.some.injEq,Obj.cells.injEq] at this;rw[this.2.1] at ht;exact zNz ht⟩
     have HX5:Hid (LOwn Y.heap.size w5 (.slice ax C.length cx) C):=by
      have ho:w4.ownsRow Y.heap.size 88 3 (.slice ax C.length cx) C.length (zBx C):=HX4.out;refine zGv ho hf5 fun g hg hx=>?_
      rcases hx with hx | hx
      ·subst hx
       exact zCi ho HD4.out.blkR (by decide) hg
      ·rcases zFN ho HD4.out.own (by decide) with h1 | h1
       ·rw[h1] at hg;cases hg
       ·exact h1 (hg.trans hx.symm)
     clear hr5 hf5 HX4 HD4 s0 s1 s2 s3 s4 s5 s6;have hlm:zK3 C∈C:=zK5 C hc0;have hlp:zK3 C∈S.path:=hCm _ hlm;have hgl:C[C.length - 1]? = some (zK3 C):=by unfold zK3;rw[List.getD_eq_getElem?_getD,List.getElem?_eq_getElem (by omega)];rfl
     obtain⟨l,hl⟩:∃l,zK3 C=l:=⟨_,rfl⟩;rw[hl] at hlm hlp hgl HR5;have hidx:=zP4 l S.path hlp;have HIX:Hid (∀Z,Below w5.heap.size w5 Z→Calls Tryz.prog 196 #[.slice apa S.path.length cpa,.agg #[.int .i64 l.var,.int .i64 l.op,.int .i64 l.n]] Z fun e w'=>e=.returned (.int .i64 (idxL l S.path:Nat))∧Below Z.heap.size Z w'):=fun Z hZ =>
      zOw l S.path hlp (by omega) _ Z (LOwn.arg (zAG (show w5.ownsRow _ _ _ _ _ _ from hd5.path) hZ))
     obtain⟨ix,hix⟩:∃ix,idxL l S.path=ix:=⟨_,rfl⟩;rw[hix] at hidx HIX HR5;obtain⟨bx,ox,hax,hbx,x0,x1,x2⟩:=zLW HX5.out (C.length - 1) l hgl;subst hax;obtain⟨g,hg,hcap,hcm⟩:∃g,apa=some ⟨g,0,none⟩∧S.path.length≤cpa∧cpa≤9223372036854775807:=by
      have ho:w5.ownsRow W.heap.size 88 3 (.slice apa S.path.length cpa) S.path.length (zBx S.path):=hd5.path;rcases ho.2 with ⟨_,hn⟩ | ⟨g,cap,cur,he,_,_,k1,k2,_⟩
      ·omega
      ·cases he
       exact⟨g,rfl,k1,k2⟩
     subst hg;have hic:ix≤cpa:=by omega
     have HD5:Hid _:=hd5;obtain⟨s0,s1,s2,s3,s4,s5,s6⟩:=hd5.cells;obtain⟨m,hm⟩:∃m,C.length=m+1:=⟨C.length - 1,by omega⟩
     rw[show C.length - 1=m by omega] at x0 x1 x2
     have hC5:C.length≤36:=by omega
     clear hgl hlm hlp hl hix hCm HX5 hc2 hc0 hc3 hc4 hd5 hCl;go_wp2_with fail
     have hm36:m≤36:=by omega
     have hmm:m<m+1:=by omega
     have hmi:(m:Int)<(m:Int)+1:=by omega
     have hwm:IntKind.i64.wrap (m:Int)=(m:Int):=by rw[IntKind.wrap_i64];omega
     clear hm hC5;go_region_law
      (first
        | (rw[if_pos (by rfl)];go_simp;go_at_call 196;refine (HIX.out _ (Below.refl _ _).drew).mono ?_;rintro e w6 ⟨rfl,hb6⟩;have hB6:Below w5.heap.size w5 w6:=(Below.refl _ _).drew.trans hb6;have t6:=(hB6.cell (p:=⟨s,5,none⟩) s0).trans s6;have z6:=(HD5.out.below hB6).frz 5;have l6:s<w6.heap.size:=Nat.lt_of_lt_of_le s0 hB6.size;dsimp only))
     all_goals
      have HD6:=(HD5.out.below hB6).cutp ix (by omega) rfl
      have HT6:=(HT5.out.trans (TFr.below hB6)).trans (TFr.set (HD5.out.below hB6).blkS zKU 5 (.slice (some ⟨g,0,none⟩) ix cpa));go_wp2
      go_ret
      rw[←HR5.out];exact⟨rfl,HT6,_,_,_,_,HD6⟩
open Go.RowKit Go.Lib
theorem zIU (w:World) (o:Obj):(w.alloc o).heap[w.heap.size]? = some o:=by
 show (w.heap.push o)[w.heap.size]? = some o;simp
theorem zGy {P:Program} {w:World} {ops:Array Oper} {rest:List Oper} {o:Oper} {a:Act} {Q:Exit→Act→World→Prop} (hgd:o.guard=none) (s x:Operand) (t1 t2:TypeId)
 (ho:o.op=.call { callee:=.builtin .append,args:=#[s,x],argTypes:=#[t1,t2] }) (v u v':Value) (w':World) (hs:a.eval s=v) (hx:a.eval x=u)
 (hr:∀ty,(Builtin.append_ #[t1,t2] ty #[v,u]).run P w=.ok v' w') (h:wpList P ops Q rest (a.put o.dst v') w'):wpList P ops Q (o :: rest) a w :=
 wpList_plain hgd fun _ hK=>by
  unfold Oper.wp execOp;simp only[ho,resolve,invoke,builtin,Sem.run_bind,Sem.run_pure,Result.andThen_ok,List.map_toArray,List.map_cons,List.map_nil,hs,hx,hr];exact hK _ _ h
theorem zSS (n:Nat) (hn:n≤1000) (w:World) :
 Calls Tryz.prog 198 #[.slice none 0 0,.int .i64 n] w fun e w'=>∃x,e=.returned x∧w'.ownsRow w.heap.size 3 1 x 0 []∧Below w.heap.size w w':=by
 obtain⟨i0,hi,hz0,hz1,hz2⟩:=info_parts Tryz.infoInt0;by_cases h0:n=0
 ·subst h0
  go_enter Tryz.func198,Tryz.ntmps198
  go_wp2
  go_ret
  exact⟨_,rfl,World.ownsRow_nil _ _ _ _,Below.refl _ _⟩
 ·have hold:(Builtin.firstCells i0.size 0 (.slice none 0 0)).run Tryz.prog w.drew=.ok ([]:List Value).toArray w.drew:=run_firstCells_none w.drew i0.size 0 0 0
  obtain⟨G,hG⟩:∃G,grownCap w n 0 3=G:=⟨_,rfl⟩;have hrz:∀ty,(Builtin.append_ #[26,3] ty #[.slice none 0 0,.int .i64 (n:Int)]).run Tryz.prog w=.ok (.slice (some ⟨w.heap.size,0,none⟩) n G) (w.drew.alloc (.cells (Builtin.zeroCells (Value.int .i64 0).cells n++Builtin.zeroCells (Value.int .i64 0).cells (G - n)) 3)):=fun ty=>by
   have hf:Builtin.nextslicecap (0+n) 0 * i0.bytes≤281474976710656:=growslice_fits (by omega) (by rw[hz2];omega)
   have h:=Lib.run_append_grow_zeros w 26 3 ty 3 i0 (.int .i64 0) .i64 .i64 Tryz.underlying26 Tryz.underlying3 hi hz0 none 0 0 [] hold n (by omega) (by omega) (by omega) (by omega) (by rw[hz2];omega) hf
   rw[Nat.zero_add,hG] at h;simpa using h
  have hGn:n≤G:=by rw[←hG];exact grownCap_ge w _ _ _
  have hG63:G≤maxLen:=by rw[←hG];exact grownCap_le_maxLen w _ 0 _ (by unfold maxLen;omega)
  have h1:¬((n:Int)<0):=by omega
  have h2:(n:Int) > 0:=by omega
  have h3:¬n=0:=h0;have HO:Hid ((w.drew.alloc (.cells (Builtin.zeroCells (Value.int .i64 0).cells n++Builtin.zeroCells (Value.int .i64 0).cells (G - n)) 3)).ownsRow w.heap.size 3 1 (.slice (some ⟨w.heap.size,0,none⟩) 0 G) 0 []):=by
   refine⟨rfl,.inr ⟨w.heap.size,G,_,rfl,Nat.le_refl _,zIU _ _,Nat.zero_le _,hG63,?_,by simp⟩⟩
   simp[Builtin.zeroCells,Value.cells];omega
  have hG64:G≤9223372036854775807:=by unfold maxLen at hG63;exact hG63
  clear hold hG hG63;go_enter Tryz.func198,Tryz.ntmps198
  go_wp2_with (at_builtin;refine zGy rfl _ _ _ _ rfl _ _ _ _ rfl rfl hrz ?_)
  go_ret
  exact⟨_,rfl,HO.out,(Below.refl _ _).drew.alloc (Nat.le_refl _) _⟩
theorem zLZ (s:Sto) (k:Nat) (x:List Int) (h:s[k]? = some x):(s.take (k+1)).flatten=(s.take k).flatten++x:=by
 rw[List.take_add_one,h];simp
theorem zQZ (s:Sto) (hs:s.length≤6) (hr:∀r∈s,r.length≤100) (k:Nat):(s.take k).flatten.length≤600:=by
 have:∀(l:Sto),(∀r∈l,r.length≤100)→l.flatten.length≤100 * l.length:=by
  intro l
  induction l with
  | nil=>intro _;simp
  | cons x r ih =>
    intro h;rw[List.flatten_cons,List.length_append,List.length_cons];have:=ih fun y hy=>h y (List.mem_cons_of_mem _ hy)
    have:=h x (List.mem_cons_self ..);omega
 have h1:=this (s.take k) fun r hr2=>hr r (List.mem_of_mem_take hr2)
 have:(s.take k).length≤6:=by rw[List.length_take];omega
 omega
theorem zOx (s:Sto) (hs:s.length≤6) (hr6:∀r∈s,r.length≤100) (v:Value) (w:World) (hv:RArg w v s) :
 Calls Tryz.prog 136 #[v] w fun e w'=>∃x,e=.returned x∧w'.ownsRow w.heap.size 3 1 x s.flatten.length (s.flatten.map (Value.int .i64))∧Below w.heap.size w w':=by
 have HRA:Hid (∀Y,Below w.heap.size w Y→RArg Y v s):=fun Y hY=>RArg.below hY hv
 obtain⟨a,c,rfl,hl,hr⟩:=hv;have HV:Hid (∀(i:Nat) (r:List Int),s[i]? = some r→∃b off x,a=some ⟨b,off,none⟩∧b<w.heap.size∧w.cell? ⟨b,off+i,none⟩=some x∧IArg w x r):=hr;have HR6:Hid (∀k,(s.take k).flatten.length≤600):=zQZ s hs hr6;have HFA:Hid ((s.take s.length).flatten=s.flatten):=by show _=_;rw[List.take_length]
 unfold maxLen at hl;obtain⟨hl1,hl⟩:=hl;clear hr hr6;go_enter Tryz.func136,Tryz.ntmps136
 go_wp2_with fail
 go_loopw [3,11] (fun sz i wr=>∃k:Nat,k≤s.length∧i=.int .i64 k∧sz=.int .i64 ((s.take k).flatten.length:Nat)∧wr=w) (fun _ i _=>s.length - (intOf i).toNat)
 case atStart=>exact⟨0,by omega,rfl,rfl,rfl⟩
 case round =>
  obtain⟨k,hk,rfl,rfl,rfl⟩:=hrel;by_cases hlt:k<s.length
  ·obtain⟨x,hx⟩:∃x,s[k]? = some x:=⟨s[k],by simp[hlt]⟩
   have HF:Hid ((s.take (k+1)).flatten.length=(s.take k).flatten.length+x.length):=by show _=_;rw[zLZ s k x hx,List.length_append]
   have hx1:=HR6.out (k+1);rw[HF.out] at hx1;obtain⟨bb,off,y,hax,hlb,hc,a5,c5,rfl,⟨hm5,hm6⟩,_⟩:=HV.out k x hx;subst hax;unfold maxLen at hm6;obtain⟨q,hq⟩:∃q,(s.take k).flatten.length=q:=⟨_,rfl⟩;rw[hq] at HF hx1 ⊢;clear hx hq;go_wp2
   go_roundw
   case rel=>exact⟨k+1,by omega,by go_num,by rw[HF.out];go_num,trivial⟩
   case measure=>simp[intOf];omega
  ·have hks:k=s.length:=by omega
   subst hks;have hx1:=HR6.out s.length;obtain⟨q,hq⟩:∃q,(s.take s.length).flatten.length=q:=⟨_,rfl⟩;rw[hq] at hx1 ⊢;clear hq hlt hk;obtain⟨wo,rfl⟩:∃wo:World,wo=wr:=⟨_,rfl⟩;go_wp2_with fail
   refine (zSS q (by omega) _).mono ?_
   rintro e w1 ⟨x,rfl,hox,hb1⟩;obtain⟨ax,cx,rfl⟩:=zAB hox;have HOX:Hid (w1.ownsRow wo.heap.size 3 1 (.slice ax 0 cx) 0 []):=hox;have HB1:Hid (Below wo.heap.size wo w1):=hb1;clear hox hb1;go_wp2_with fail
   go_loopw [6,27] (fun nv i wy=>∃k:Nat,k≤s.length∧i=.int .i64 k∧wy.ownsRow wo.heap.size 3 1 nv (s.take k).flatten.length ((s.take k).flatten.map (Value.int .i64))∧Below wo.heap.size wo wy) (fun _ i _=>s.length - (intOf i).toNat)
   case atStart=>exact⟨0,by omega,rfl,HOX.out,HB1.out⟩
   case round =>
    obtain⟨k,hk,rfl,hnv,hbw⟩:=hrel;obtain⟨an,cn,rfl⟩:=zAB hnv;have HNV:Hid (wr.ownsRow wo.heap.size 3 1 (.slice an (s.take k).flatten.length cn) (s.take k).flatten.length ((s.take k).flatten.map (Value.int .i64))):=hnv;have HBW:Hid (Below wo.heap.size wo wr):=hbw;have hbs:=hbw.size;clear hnv hbw;by_cases hlt:k<s.length
    ·obtain⟨x,hx⟩:∃x,s[k]? = some x:=⟨s[k],by simp[hlt]⟩
     have HF:Hid ((s.take (k+1)).flatten=(s.take k).flatten++x):=zLZ s k x hx;have hx1:=HR6.out (k+1);rw[HF.out,List.length_append] at hx1;obtain⟨bb,off,y,hax,hlb,hc0,hix⟩:=HV.out k x hx;subst hax;have hc:=(HBW.out.cell (p:=⟨bb,off+k,none⟩) hlb).trans hc0;have HIX:Hid (IArg wr y x):=IArg.below HBW.out hix;obtain⟨a5,c5,rfl,⟨hm5,hm6⟩,_⟩:=hix;obtain⟨acc,hacc⟩:∃acc,(s.take k).flatten=acc:=⟨_,rfl⟩;rw[hacc] at HF hx1 HNV ⊢;clear hx hacc hc0;go_wp2_with (at_builtin;refine zC0 rfl _ _ rfl wo.heap.size _ acc rfl HNV.out _ x rfl HIX.out (by omega) hbs ?_)
     intro v3 w3 hown3 hg3 _;have HB3:Hid (Below wo.heap.size wo w3):=HBW.out.grown hg3 hbs (fun k h=>(HNV.out.lt k h).1)
     have HO3:Hid (w3.ownsRow wo.heap.size 3 1 v3 (acc++x).length ((acc++x).map (Value.int .i64))):=by
      show World.ownsRow _ _ _ _ _ _ _;rw[List.length_append,List.map_append];exact hown3
     clear hown3 hg3;go_wp2
     go_roundw
     case rel=>exact⟨k+1,by omega,by go_num,by rw[HF.out];exact HO3.out,HB3.out⟩
     case measure=>simp[intOf];omega
    ·have hks:k=s.length:=by omega
     subst hks;rw[HFA.out] at HNV ⊢;go_wp2
     go_ret
     exact⟨_,rfl,HNV.out,HBW.out⟩
end Go.Proofs.YtdjbejlbmaiocagGreatDoor
