/- What the proof leans on, part 39. -/
import Derived.Test.YtdjbejlbmaiocagGreatDoorPartBa
import Derived.Test.YtdjbejlbmaiocagGreatDoorPartBl
import Derived.Lib.AppendIntMem
import Derived.Lib.ItoaLen
import Derived.Test.YtdjbejlbmaiocagGreatDoorPartBc
import Derived.KernelRfl
import Derived.Test.YtdjbejlbmaiocagGreatDoorPartBd
namespace Go.Proofs.YtdjbejlbmaiocagGreatDoor
open Go.RowKit
def zDs (goal:Int):ByteArray:=if goal=0 then ⟨#[102,111,117,110,100,10]⟩ else ⟨#[98,101,115,116,10]⟩
def zFS (n:Int):ByteArray:=⟨(Lib.itoa n).toArray⟩
def zKL (vs:List MVar) (k:Nat):ByteArray:=(vs.getD k zTZ).name
def zIO (vs:List MVar) (k:Nat) (x:Int):ByteArray:=zKL vs k++⟨#[32,61,32]⟩++zFS x++⟨#[10]⟩
def zCW (vs:List MVar) (xs:List Int):List UInt8:=((List.range xs.length).map fun k=>(zIO vs k (xs.getD k 0)).data.toList).flatten
def zMp (m:Mod) (a:Ans):ByteArray :=
 if a.verdict=2 then ⟨#[110,111,110,101,10]⟩ else if a.verdict=3 then ⟨#[117,110,107,110,111,119,110,10]⟩ else ⟨((zDs m.goal).data.toList++zCW m.vars a.values).toArray⟩
theorem zJe (vs:List MVar) (xs:List Int) (k:Nat) (x:Int) (h:xs[k]? = some x):zCW vs (xs.take (k+1))=zCW vs (xs.take k)++(zIO vs k x).data.toList:=by
 have hk:=(List.getElem?_eq_some_iff.1 h).1
 unfold zCW
 have l1:(xs.take (k+1)).length=k+1:=by rw[List.length_take];omega
 have l2:(xs.take k).length=k:=by rw[List.length_take];omega
 rw[l1,l2,List.range_succ,List.map_append,List.flatten_append]
 congr 1
 ·congr 1
  apply List.map_congr_left
  intro j hj
  have hj:=List.mem_range.1 hj
  congr 2
  rw[List.getD_eq_getElem?_getD,List.getD_eq_getElem?_getD,List.getElem?_take,List.getElem?_take,if_pos (by omega),if_pos (by omega)]
 ·simp only[List.map_cons,List.map_nil,List.flatten_cons,List.flatten_nil,List.append_nil]
  congr 2
  rw[List.getD_eq_getElem?_getD,List.getElem?_take,if_pos (by omega),h];rfl
set_option maxHeartbeats 800000 in
theorem zQv (goal:Int) (w:World):Calls Tryz.prog 111 #[.int .i64 goal] w fun e w'=>e=.returned (.string (zDs goal))∧w'=w:=by
 unfold zDs
 by_cases hg:goal=0
 ·subst hg
  go_enter Tryz.func111,Tryz.ntmps111
  go_wp2
  go_ret
  exact⟨rfl,rfl⟩
 ·rw[if_neg hg]
  have hg':(goal==0)=false:=by simpa using hg
  go_enter Tryz.func111,Tryz.ntmps111
  go_wp2
  go_ret
  exact⟨rfl,rfl⟩
def TabP (w:World):Prop:=Lib.TabIs Tryz.prog w "internal/strconv.uint64pow10" .u64 Lib.pow10Tab
theorem zNq (n:Int) (hn:-1000000≤n∧n≤1000000) (w:World) (hP:TabP w):Calls Tryz.prog 55 #[.int .i64 n] w fun e w'=>e=.returned (.string (zFS n))∧Below w.heap.size w w' :=
 (Tryz.strconv_Itoa n (by omega) (by omega) w hP).mono (by
   rintro e w1 ⟨rfl,k,os,hw⟩
   exact⟨rfl,by rw[hw];exact Lib.below_grow w.heap.size w (Nat.le_refl _) k os⟩)
theorem zSO (w:World):Lib.IsBuilderF 150 5 w.heap.size w.heap.size (Lib.byteCells []) (w.alloc (.cells #[.pointer none,.slice none 0 0] 150)) :=
 Or.inl ⟨Nat.le_refl _,.slice none 0 0,by show (w.heap.push _)[w.heap.size]? = _;simp,World.ownsRowF_of (World.ownsRow_nil _ _ _ _),by simp[Value.ownBlock]⟩
theorem TabP.below {w w':World} (h:TabP w) (hb:Below w.heap.size w w'):TabP w':=by
 unfold TabP at h ⊢
 unfold Lib.TabIs World.var? at h ⊢
 cases hg:Tryz.prog.globalNamed "internal/strconv.uint64pow10" with
 | none=>rw[hg] at h;exact h
 | some g =>
   rw[hg] at h
   have hlt:g<w.heap.size:=by
    rcases Nat.lt_or_ge g w.heap.size with h' | h'
    ·exact h'
    ·simp[Array.getElem?_eq_none h'] at h
   have hb2:=hb.block g hlt
   simp only[Option.bind_some] at h ⊢
   rw[hb2];exact h
theorem zQw {B b:Nat} {bs:List Value} {w w':World} (h:Lib.IsBuilderF 150 5 B b bs w) (hb:Below w.heap.size w w'):Lib.IsBuilderF 150 5 B b bs w':=by
 have one:∀p,Lib.BuilderAtF 150 5 B b p bs w→Lib.BuilderAtF 150 5 B b p bs w':=by
  rintro p ⟨h1,v,h2,h3,h4⟩
  refine⟨h1,v,(hb.block b (Array.getElem?_eq_some_iff.1 h2).1).trans h2,?_,h4⟩
  refine⟨h3.1,?_⟩
  rcases h3.2 with hn | ⟨g,cap,cur,z,hv,hg,hh,r⟩
  ·exact .inl hn
  ·exact .inr ⟨g,cap,cur,z,hv,hg,(hb.block g (Array.getElem?_eq_some_iff.1 hh).1).trans hh,r⟩
 rcases h with h | h
 ·exact Or.inl (one _ h)
 ·exact Or.inr (one _ h)
theorem zQx (a b:List UInt8):Lib.byteCells (a++b)=Lib.byteCells a++Lib.byteCells b:=by unfold Lib.byteCells;rw[List.map_append]
theorem zLY (l:List UInt8):(Lib.byteCells l).length=l.length:=by unfold Lib.byteCells;rw[List.length_map]
theorem zLZ (vs:List MVar) (xs:List Int) (hn:∀x∈vs,x.name.size≤1000) (hi:∀x∈xs,(zFS x).size≤100):∀(k:Nat),k≤xs.length→(zCW vs (xs.take k)).length≤2000 * k
 | 0,_=>by simp[zCW]
 | k+1,hk=>by
   have hx:xs[k]? = some (xs[k]'(by omega)):=by rw[List.getElem?_eq_getElem (by omega)]
   rw[zJe vs xs k _ hx,List.length_append]
   have h1:=zLZ vs xs hn hi k (by omega)
   have h2:(zIO vs k (xs[k]'(by omega))).data.toList.length=(zIO vs k (xs[k]'(by omega))).size:=rfl
   have h3:(zIO vs k (xs[k]'(by omega))).size≤1200:=by
    unfold zIO
    rw[ByteArray.size_append,ByteArray.size_append,ByteArray.size_append]
    have h4:=hi _ (List.mem_of_getElem? hx)
    have h5:(zKL vs k).size≤1000:=by
     unfold zKL
     by_cases hkv:k<vs.length
     ·rw[List.getD_eq_getElem?_getD,List.getElem?_eq_getElem hkv]
      exact hn _ (List.getElem_mem _)
     ·rw[List.getD_eq_getElem?_getD,List.getElem?_eq_none (by omega)]
      decide
    have h6:(⟨#[32,61,32]⟩:ByteArray).size=3:=rfl
    have h7:(⟨#[10]⟩:ByteArray).size=1:=rfl
    omega
   omega
set_option maxHeartbeats 3200000 in
set_option maxRecDepth 100000 in
theorem zSP (m:Mod) (a:Ans) (hn:∀x∈m.vars,x.name.size≤1000) (hl:a.values.length≤m.vars.length) (hl6:m.vars.length≤6) (hx:∀x∈a.values,-1000≤x∧x≤1000) (hi:∀x∈a.values,(zFS x).size≤100) (vs cs vv:Value) (ap:Option Addr) (np cp:Nat) (w:World) (hma:MArg w vs cs m) (hv:IArg w vv a.values) (hP:TabP w) :
 Calls Tryz.prog 56 #[modV vs cs m,.agg #[.int .i64 a.verdict,vv,.slice ap np cp]] w fun e w'=>e=.returned (.string (zMp m a))∧Below w.heap.size w w':=by
 have HMA:Hid (∀w',Below w.heap.size w w'→MArg w' vs cs m):=fun w' h=>MArg.below h hma
 have HP:Hid (∀w',Below w.heap.size w w'→TabP w'):=fun w' h=>hP.below h
 obtain⟨⟨a1,c1,rfl,_,hvr⟩,⟨a2,c2,rfl,_,_⟩⟩:=hma
 obtain⟨av,cv,rfl,_,hir⟩:=hv
 have HV:Hid (∀(i:Nat) (t:MVar),m.vars[i]? = some t→t.name.size≤maxLen∧∃b off,a1=some ⟨b,off,none⟩∧b<w.heap.size ∧
  w.cell? ⟨b,off+i * 3,none⟩=some (.string t.name)∧w.cell? ⟨b,off+i * 3+1,none⟩=some (.int .i64 t.lo)∧w.cell? ⟨b,off+i * 3+2,none⟩=some (.int .i64 t.hi)):=hvr
 have HI:Hid (∀(i:Nat) (z:Int),a.values[i]? = some z→∃b off,av=some ⟨b,off,none⟩∧b<w.heap.size∧w.cell? ⟨b,off+i,none⟩=some (.int .i64 z)):=hir
 obtain⟨R,hR⟩:∃R,zMp m a=R:=⟨_,rfl⟩
 rw[hR]
 unfold zMp at hR
 have HR:=(show Hid _ from hR)
 have HN:Hid (∀x∈m.vars,x.name.size≤1000):=hn
 have HXB:Hid (∀x∈a.values,-1000≤x∧x≤1000):=hx
 have HIB:Hid (∀x∈a.values,(zFS x).size≤100):=hi
 clear hR hvr hir hn hx hi hP
 unfold modV
 go_enter Tryz.func56,Tryz.ntmps56
 by_cases h2:a.verdict=2
 ·have hR:=HR.out
  rw[if_pos h2] at hR
  subst hR
  rw[h2]
  clear HR h2
  go_wp2
  go_ret
  exact⟨rfl,(zAA _ _).alloc (by simp) _⟩
 ·by_cases h3:a.verdict=3
  ·have hR:=HR.out
   rw[if_neg h2,if_pos h3] at hR
   subst hR
   rw[h3]
   clear HR h2 h3
   go_wp2
   go_ret
   exact⟨rfl,(zAA _ _).alloc (by simp) _⟩
  ·have hR:=HR.out
   rw[if_neg h2,if_neg h3] at hR
   have HR2:=(show Hid _ from hR)
   have h2':(a.verdict==2)=false:=by simpa using h2
   have h3':(a.verdict==3)=false:=by simpa using h3
   clear hR HR h2 h3
   go_wp2_with fail
   refine (zQv m.goal _).mono ?_
   rintro e wf ⟨rfl,hwf⟩
   obtain⟨q1,q2⟩:=zFK w (.cells #[.slice a1 m.vars.length c1,.slice a2 m.cons.length c2,.int .i64 m.goal,.int .i64 m.var] 25) (.cells #[.int .i64 a.verdict,.slice av a.values.length cv,.slice ap np cp] 29)
   have hbW:Below w.heap.size w ((w.alloc (.cells #[.slice a1 m.vars.length c1,.slice a2 m.cons.length c2,.int .i64 m.goal,.int .i64 m.var] 25)).alloc (.cells #[.int .i64 a.verdict,.slice av a.values.length cv,.slice ap np cp] 29)):=(zAA _ _).alloc (by simp) _
   have hszW:((w.alloc (.cells #[.slice a1 m.vars.length c1,.slice a2 m.cons.length c2,.int .i64 m.goal,.int .i64 m.var] 25)).alloc (.cells #[.int .i64 a.verdict,.slice av a.values.length cv,.slice ap np cp] 29)).heap.size=w.heap.size+1+1:=by simp
   obtain⟨W,hW⟩:∃W,((w.alloc (.cells #[.slice a1 m.vars.length c1,.slice a2 m.cons.length c2,.int .i64 m.goal,.int .i64 m.var] 25)).alloc (.cells #[.int .i64 a.verdict,.slice av a.values.length cv,.slice ap np cp] 29))=W:=⟨_,rfl⟩
   rw[hW] at q1 q2 hbW hszW hwf
   have hbm:=zSO W
   rw[hszW,←hwf] at hbm
   have hbf:Below W.heap.size W wf:=by rw[hwf];exact zAA _ _
   obtain⟨B,hB⟩:∃B,w.heap.size+1+1=B:=⟨_,rfl⟩
   rw[hB] at hbm hszW ⊢
   rw[hszW] at hbf
   have HQ1:Hid (∀Y,Below B W Y→Y.heap[w.heap.size]? = some (.cells #[.slice a1 m.vars.length c1,.slice a2 m.cons.length c2,.int .i64 m.goal,.int .i64 m.var] 25)):=fun Y hY=>(hY.block _ (by omega)).trans q1
   have HQ2:Hid (∀Y,Below B W Y→Y.heap[w.heap.size+1]? = some (.cells #[.int .i64 a.verdict,.slice av a.values.length cv,.slice ap np cp] 29)):=fun Y hY=>(hY.block _ (by omega)).trans q2
   have HWO:Hid (∀Y,Below B W Y→Below w.heap.size w Y):=fun Y hY=>hbW.trans (hY.mono (by omega))
   have HBW:Hid (Below B W wf):=hbf
   have HBD:Hid (Lib.IsBuilderF 150 5 B B (Lib.byteCells []) wf):=hbm
   have HBB:Hid (B≤W.heap.size):=by show _≤_;omega
   have HFS:Hid ((zDs m.goal).size≤10):=by show _≤_;unfold zDs;split <;> decide
   clear hbm hbf hbW hszW hW q1 q2 hwf hB
   go_wp2_with fail
   refine (zQu B B (Lib.byteCells []) (zDs m.goal) wf HBD.out (by rw[zLY];have:=HFS.out;simp;omega) (by have:=HBW.out.size;have:=HBB.out;omega)).mono ?_
   rintro e w1 ⟨rfl,hd1,hb1,_⟩
   have HD1:Hid (Lib.IsBuilderF 150 5 B B (Lib.byteCells ((zDs m.goal).data.toList++zCW m.vars (a.values.take 0))) w1):=by
    have:zCW m.vars (a.values.take 0)=[]:=rfl
    rw[this,List.append_nil]
    exact Or.inr hd1
   have HB1:Hid (Below B W w1):=HBW.out.trans hb1
   clear hd1 hb1 HBD HBW
   have k1:=blk9 (HQ2.out _ HB1.out) 1 _ rfl
   have kl:=(Array.getElem?_eq_some_iff.1 (HQ2.out _ HB1.out)).1
   go_wp2_with fail
   clear k1 kl
   go_loopw [21] (fun i wr=>∃k:Nat,k≤a.values.length∧i=.int .i64 k∧Lib.IsBuilderF 150 5 B B (Lib.byteCells ((zDs m.goal).data.toList++zCW m.vars (a.values.take k))) wr∧Below B W wr) (fun i _=>a.values.length - (intOf i).toNat)
   case atStart=>exact⟨0,by omega,rfl,HD1.out,HB1.out⟩
   case round =>
    obtain⟨k,hk,rfl,hd,hb⟩:=hrel
    have HD:Hid (Lib.IsBuilderF 150 5 B B (Lib.byteCells ((zDs m.goal).data.toList++zCW m.vars (a.values.take k))) wr):=hd
    have HB:Hid (Below B W wr):=hb
    have HSZ:Hid (B≤wr.heap.size):=by have:=hb.size;have:=HBB.out;show _≤_;omega
    clear hd hb HD1 HB1
    by_cases hlt:k<a.values.length
    ·obtain⟨x,hx⟩:∃x,a.values[k]? = some x:=⟨a.values[k],by rw[List.getElem?_eq_getElem hlt]⟩
     obtain⟨t,ht⟩:∃t,m.vars[k]? = some t:=⟨m.vars[k]'(by omega),by rw[List.getElem?_eq_getElem (by omega)]⟩
     obtain⟨_,bn,on,hbn,hln,cn,_,_⟩:=HV.out k t ht
     obtain⟨bx,ox,hbx,hlx,cx⟩:=HI.out k x hx
     subst hbn hbx
     have HW:=HWO.out _ HB.out
     have dn:=(HW.cell (p:=⟨bn,on+k * 3,none⟩) hln).trans cn
     have dx:=(HW.cell (p:=⟨bx,ox+k,none⟩) hlx).trans cx
     have ln:bn<wr.heap.size:=Nat.lt_of_lt_of_le hln HW.size
     have lx:bx<wr.heap.size:=Nat.lt_of_lt_of_le hlx HW.size
     have k0:=blk9 (HQ1.out _ HB.out) 0 _ rfl
     have kl:=(Array.getElem?_eq_some_iff.1 (HQ1.out _ HB.out)).1
     have hns:=HN.out t (List.mem_of_getElem? ht)
     have hxs:=HXB.out x (List.mem_of_getElem? hx)
     have his:=HIB.out x (List.mem_of_getElem? hx)
     have HLN:Hid (zCW m.vars (a.values.take (k+1))=zCW m.vars (a.values.take k)++(t.name++⟨#[32,61,32]⟩++zFS x++⟨#[10]⟩).data.toList):=by
      show _=_
      rw[zJe m.vars a.values k x hx]
      unfold zIO zKL
      rw[List.getD_eq_getElem?_getD,ht];rfl
     obtain⟨nm,hnm⟩:∃nm,t.name=nm:=⟨_,rfl⟩
     obtain⟨ix,hix⟩:∃ix,zFS x=ix:=⟨_,rfl⟩
     rw[hnm] at dn hns HLN
     rw[hix] at his HLN
     have HIT:Hid (∀Y,Below wr.heap.size wr Y→Calls Tryz.prog 55 #[.int .i64 x] Y fun e w'=>e=.returned (.string ix)∧Below Y.heap.size Y w'):=fun Y hY=>by
      rw[←hix]
      exact zNq x (by omega) Y (HP.out _ (HW.trans (hY.mono HW.size)))
     have z1:¬(9223372036854775807<nm.size+3):=by omega
     have e1:(nm++(⟨#[32,61,32]⟩:ByteArray)).size=nm.size+3:=by rw[ByteArray.size_append];rfl
     have e2:(nm++(⟨#[32,61,32]⟩:ByteArray)++ix).size=nm.size+3+ix.size:=by rw[ByteArray.size_append,e1]
     have e3:(nm++(⟨#[32,61,32]⟩:ByteArray)++ix++(⟨#[10]⟩:ByteArray)).size=nm.size+3+ix.size+1:=by rw[ByteArray.size_append,e2];rfl
     have HSL:Hid ((nm++(⟨#[32,61,32]⟩:ByteArray)++ix++(⟨#[10]⟩:ByteArray)).size≤1200):=by show _≤_;omega
     have z2:¬(9223372036854775807<nm.size+3+ix.size):=by omega
     have z3:¬(9223372036854775807<nm.size+3+ix.size+1):=by omega
     have HLL:Hid ((Lib.byteCells ((zDs m.goal).data.toList++zCW m.vars (a.values.take k))).length≤100000000):=by
      show _≤_
      rw[zLY,List.length_append]
      have h1:=HFS.out
      have h2:=zLZ m.vars a.values HN.out HIB.out k (by omega)
      have h3:(zDs m.goal).data.toList.length=(zDs m.goal).size:=rfl
      have hk7:k≤6:=by omega
      omega
     have q1:(k:Int)<(m.vars.length:Int):=by omega
     have q2:k<m.vars.length:=by omega
     clear hx ht hnm hix cn cx e1 e2 e3 HW
     go_wp2_with fail
     go_region_law
      (first
        | (rw[if_pos (by rfl)];go_simp;go_at_call 55;refine (HIT.out _ (Below.refl _ _).drew).mono ?_;rintro e w3 ⟨rfl,hb3⟩;have hB3:Below wr.heap.size wr w3:=(Below.refl _ _).drew.trans hb3;have dn3:=(hB3.cell (p:=⟨bn,on+k * 3,none⟩) ln).trans dn;have k03:=(hB3.cell (p:=⟨w.heap.size,0,none⟩) kl).trans k0;have kl3:w.heap.size<w3.heap.size:=Nat.lt_of_lt_of_le kl hB3.size;have ln3:bn<w3.heap.size:=Nat.lt_of_lt_of_le ln hB3.size;dsimp only)
        | (rw[if_pos (by rfl)];go_simp;go_at_call 110;refine (zQu B B _ _ w3 (zQw HD.out hB3) (by have:=HSL.out;have:=HLL.out;omega) (by have:=hB3.size;have:=HSZ.out;omega)).mono ?_;rintro e w4 ⟨rfl,hd4,hb4,_⟩;dsimp only))
     all_goals
      have HD4:Hid (Lib.IsBuilderF 150 5 B B (Lib.byteCells ((zDs m.goal).data.toList++zCW m.vars (a.values.take (k+1)))) w4):=by
       rw[HLN.out,←List.append_assoc,zQx]
       exact Or.inr hd4
      have HB4:Hid (Below B W w4):=HB.out.trans ((hB3.mono HSZ.out).trans hb4)
      clear hd4 hb4
      go_wp2
      go_roundw
      case rel=>exact⟨k+1,by omega,by go_num,HD4.out,HB4.out⟩
      case measure=>simp[intOf];omega
    ·have hke:k=a.values.length:=by omega
     have HF:Hid (Lib.IsBuilderF 150 5 B B (Lib.byteCells ((zDs m.goal).data.toList++zCW m.vars a.values)) wr):=by
      have h:=HD.out
      rw[List.take_of_length_le (by omega)] at h
      exact h
     clear hke
     go_wp2_with fail
     refine (zOz B B _ wr HF.out HSZ.out).mono ?_
     rintro e w2 ⟨rfl,_,hb2,_⟩
     have HB2:Hid (Below w.heap.size w w2):=HWO.out _ (HB.out.trans hb2)
     clear hb2
     go_wp2
     go_ret
     rw[←HR2.out]
     exact⟨rfl,HB2.out⟩
theorem zO0 (m:Mod) (hm:zAE m=0):∀x∈m.vars,x.name.size≤12:=by
 intro v hv
 obtain⟨i,hi⟩:=List.mem_iff_getElem?.1 hv
 have h1:=(zAx m hm).2.2.2.1
 have h2:=zCl _ h1 (varE (m.vars.take i) v) (by
  have hl:i<m.vars.length:=(List.getElem?_eq_some_iff.1 hi).1
  refine List.mem_map.2 ⟨i,List.mem_range.2 hl,?_⟩
  rw[List.getD_eq_getElem?_getD,hi];rfl)
 unfold varE at h2
 split at h2
 ·rename_i hn
  unfold zBO at hn
  rw[Bool.and_eq_true] at hn
  have:=((zDR _ _).1 hn.1).2.2.2.2.2
  unfold zC3 at this
  rw[if_pos rfl] at this
  split at this
  ·cases this
  ·omega
 ·cases h2
theorem zO1 (x:Int) (h:-1000≤x∧x≤1000):(zFS x).size≤100:=by
 have:=Lib.itoa_length_le x (by omega) (by omega)
 have e:(zFS x).size=(Lib.itoa x).length:=by unfold zFS;simp[ByteArray.size]
 omega
theorem zMq (x:Int) (h:-1000000≤x∧x≤1000000):(zFS x).size≤100:=by
 have:=Lib.itoa_length_le x (by omega) (by omega)
 have e:(zFS x).size=(Lib.itoa x).length:=by unfold zFS;simp[ByteArray.size]
 omega
theorem zHE (m:Mod) (hm:zAE m=0) (hg:m.goal=1∨m.goal=2):∀(N:Nat) (R:Int×List Int×Sk) (b:List Int),zDj m R<N→(R.1=1→Sol m R.2.1)→(b=[]∨Sol m b)→(zBj m R b).values=[]∨Sol m (zBj m R b).values
 | 0,R,b,h,_,_=>by omega
 | N+1,R,b,h,hs,hb=>by
   rw[zDO m hm hg R b hs]
   split
   ·rename_i h1
    exact zHE m hm hg N _ _ (by have:=zDN m hm hg R h1 (hs h1);omega) (fun h=>(zBf m hm _ h).1) (Or.inr (hs h1))
   ·split
    ·exact Or.inl rfl
    ·split
     ·exact hb
     ·exact hb
theorem zMr (m:Mod) (hm:zAE m=0) (fuel:Int):(zB0 m fuel).1.values=[]∨Sol m (zB0 m fuel).1.values:=by
 unfold zB0
 by_cases hg:m.goal=0
 ·rw[if_pos hg]
  unfold zFZ
  rw[if_pos hm]
  split
  ·exact Or.inl rfl
  ·split
   ·exact Or.inl rfl
   ·obtain⟨_,n2,_,n4,n5⟩:=zDM m hm (fun _=>False) _ (zCt fuel) (Nat.lt_succ_self _) (fun x _ hf=>hf.elim)
    by_cases h1:(zEg m fuel).1=1
    ·exact Or.inr (n2 h1).1
    ·exact Or.inl (n5 h1)
 ·rw[if_neg hg,if_pos hm]
  obtain⟨_,_,hgo⟩:=zC0 m hm
  have hg2:m.goal=1∨m.goal=2:=by omega
  split
  ·exact Or.inl rfl
  ·exact zHE m hm hg2 _ _ _ (Nat.lt_succ_self _) (fun h=>(zBf m hm _ h).1) (Or.inl rfl)
theorem zSQ (m:Mod) (hm:zAE m=0) (fuel:Int) (hf:¬(fuel<0∨300<fuel)):(zB0 m fuel).2=0:=by
 unfold zB0
 by_cases hg:m.goal=0
 ·rw[if_pos hg]
  unfold zFZ
  rw[if_pos hm,if_neg hf]
  split <;> rfl
 ·rw[if_neg hg,if_pos hm,if_neg hf]
def zTL (at0:Int):ByteArray:=(⟨#[116,101,120,116,32]⟩:ByteArray)++zFS at0++(⟨#[10]⟩:ByteArray)
def zGw (s:ByteArray) (fuel:Int):ByteArray×Int :=
 if 4000<s.size then (⟨#[]⟩,2) else if fuel<0∨300<fuel then (⟨#[]⟩,3)
 else if (zAu s).2.2=0 then (zMp (zAu s).1 (zB0 (zAu s).1 fuel).1,0) else (zTL (zAu s).2.1,0)
theorem zMs (s:ByteArray) (h:(zAu s).2.2=0):zAE (zAu s).1=0:=by
 obtain⟨⟨ts,a,e⟩,hs⟩:∃x,zAr s=x:=⟨_,rfl⟩
 by_cases he:e=0
 ·subst he
  obtain⟨⟨m,x,e2⟩,hr⟩:∃y,zDk s.size ts=y:=⟨_,rfl⟩
  by_cases he2:e2=0
  ·subst he2
   by_cases hc:zAE m=0
   ·rw[zNp hs hr hc];exact hc
   ·rw[zIM hs hr hc] at h
    exact absurd h hc
  ·rw[zJb hs hr he2] at h
   exact absurd h he2
 ·rw[zJc hs he] at h
  exact absurd h he
set_option maxHeartbeats 3200000 in
set_option maxRecDepth 100000 in
theorem zO2 (s:ByteArray) (hs:s.size≤maxLen) (fuel:Int) (hat:¬4000<s.size→-1000000≤(zAu s).2.1∧(zAu s).2.1≤1000000) (w:World) (hT:TabT w) (hP:TabP w) :
 Calls Tryz.prog 20 #[.string s,.int .i64 fuel] w fun e w'=>e=.returned (.tuple #[.string (zGw s fuel).1,.int .i64 (zGw s fuel).2])∧Below w.heap.size w w':=by
 have HT:Hid (∀w',Below w.heap.size w w'→TabT w'):=fun w' h=>hT.below h
 have HP:Hid (∀w',Below w.heap.size w w'→TabP w'):=fun w' h=>hP.below h
 have HS:Hid (s.size≤maxLen):=hs
 have HAT:Hid (¬4000<s.size→-1000000≤(zAu s).2.1∧(zAu s).2.1≤1000000):=hat
 obtain⟨R,hR⟩:∃R,zGw s fuel=R:=⟨_,rfl⟩
 rw[hR]
 unfold zGw at hR
 have HR:=(show Hid _ from hR)
 clear hR hT hP hs hat
 by_cases h4:4000<s.size
 ·have hR:=HR.out
  rw[if_pos h4] at hR
  have HN:Hid (((⟨#[]⟩:ByteArray),(2:Int))=R):=hR
  have h4':(4000:Int)<(s.size:Int):=by omega
  clear hR HR
  go_enter Tryz.func20,Tryz.ntmps20
  go_wp2
  go_ret2
  rw[←HN.out]
  exact⟨rfl,Below.refl _ _⟩
 ·have h4':¬(4000:Int)<(s.size:Int):=by omega
  by_cases hf:fuel<0∨300<fuel
  ·have hR:=HR.out
   rw[if_neg h4,if_pos hf] at hR
   have HN:Hid (((⟨#[]⟩:ByteArray),(3:Int))=R):=hR
   clear hR HR
   by_cases hf0:fuel<0
   ·clear hf
    go_enter Tryz.func20,Tryz.ntmps20
    go_wp2
    go_ret2
    rw[←HN.out]
    exact⟨rfl,Below.refl _ _⟩
   ·have hf1:300<fuel:=by rcases hf with h | h;exact absurd h hf0;exact h
    clear hf
    go_enter Tryz.func20,Tryz.ntmps20
    go_wp2
    go_ret2
    rw[←HN.out]
    exact⟨rfl,Below.refl _ _⟩
  ·have hR:=HR.out
   rw[if_neg h4,if_neg hf] at hR
   have HR2:=(show Hid _ from hR)
   have hf0:¬fuel<0:=fun h=>hf (Or.inl h)
   have hf1:¬300<fuel:=fun h=>hf (Or.inr h)
   have HFF:Hid (¬(fuel<0∨300<fuel)):=hf
   have hbd:=HAT.out h4
   have HPM:Hid ((zAu s).2.2=0→zAE (zAu s).1=0):=zMs s
   obtain⟨⟨m,at0,er⟩,hp⟩:∃P,zAu s=P:=⟨_,rfl⟩
   have HPA:Hid (zAu s=(m,at0,er)):=hp
   rw[hp] at HR2 hbd HPM
   simp only at hbd
   clear hR HR hp hf HAT
   go_enter Tryz.func20,Tryz.ntmps20
   go_wp2_with fail
   refine (zGT s HS.out _).mono ?_
   rintro e w1 ⟨vs,cs,rfl,hm1,hb1⟩
   rw[HPA.out] at hm1 ⊢
   dsimp only at hm1 ⊢
   have HMA:Hid (∀w',Below w1.heap.size w1 w'→MArg w' vs cs m):=fun w' h=>MArg.below h hm1.marg
   have HB1:Hid (Below w.heap.size w w1):=hb1
   obtain⟨⟨a1,c1,rfl,_,_⟩,⟨a2,c2,rfl,_,_⟩⟩:=hm1.marg
   unfold modV
   clear hm1 hb1
   by_cases he:er=0
   ·have hR:=HR2.out
    rw[if_pos he] at hR
    have HCM:Hid (zAE m=0):=HPM.out he
    subst he
    have HN:Hid ((zMp m (zB0 m fuel).1,(0:Int))=R):=hR
    clear hR HR2 HPM
    have HBV:=(show Hid _ from zMr m HCM.out fuel)
    have HBE:Hid ((zB0 m fuel).2=0):=zSQ m HCM.out fuel HFF.out
    obtain⟨⟨⟨RV,RX,RP⟩,RE⟩,hB⟩:∃B,zB0 m fuel=B:=⟨_,rfl⟩
    have HBA:Hid (zB0 m fuel=(⟨RV,RX,RP⟩,RE)):=hB
    rw[hB] at HBV HBE HN
    have hre:RE=0:=HBE.out
    subst hre
    clear hB
    go_wp2_with fail
    have hbY:Below w1.heap.size w1 (w1.alloc (.cells #[.slice a1 m.vars.length c1,.slice a2 m.cons.length c2,.int .i64 m.goal,.int .i64 m.var] 25)):=zAA _ _
    have hblY:=heap_alloc_new w1 (.cells #[.slice a1 m.vars.length c1,.slice a2 m.cons.length c2,.int .i64 m.goal,.int .i64 m.var] 25)
    refine (zHN m fuel (.slice a1 m.vars.length c1) (.slice a2 m.cons.length c2) _ (HMA.out _ hbY) (HT.out _ (HB1.out.trans (hbY.mono HB1.out.size)))).mono ?_
    rintro e w2 ⟨vv,pp,rfl,hq,hb2⟩
    rw[HBA.out] at hq ⊢
    dsimp only at hq ⊢
    obtain⟨⟨ax,cx,rfl⟩,ap,np,cp,rfl⟩:=hq.forms
    have HQ2:Hid (w2.heap[w1.heap.size]? = some (.cells #[.slice a1 m.vars.length c1,.slice a2 m.cons.length c2,.int .i64 m.goal,.int .i64 m.var] 25)):=(hb2.block _ (by simp)).trans hblY
    have HB12:Hid (Below w1.heap.size w1 w2):=hbY.trans (hb2.mono (by simp))
    have HX:Hid (∀Y,Below w2.heap.size w2 Y→IArg Y (.slice ax RX.length cx) RX):=fun Y hY=>IArg.below hY (zDY hq.val)
    simp only
    clear hb2 hbY hblY hq
    have k0:=blk9 HQ2.out 0 _ rfl
    have k1:=blk9 HQ2.out 1 _ rfl
    have k2:=blk9 HQ2.out 2 _ rfl
    have k3:=blk9 HQ2.out 3 _ rfl
    have kl:=(Array.getElem?_eq_some_iff.1 HQ2.out).1
    go_wp2_with fail
    have hbZ:Below w2.heap.size w2 (w2.alloc (.cells #[.int .i64 RV,.slice ax RX.length cx,.slice ap np cp] 29)):=zAA _ _
    have hbZ1:=HB12.out.trans (hbZ.mono HB12.out.size)
    have HBZ:Hid (Below w.heap.size w (w2.alloc (.cells #[.int .i64 RV,.slice ax RX.length cx,.slice ap np cp] 29))):=HB1.out.trans (hbZ1.mono HB1.out.size)
    have hin:∀x∈RX,-1000≤x∧x≤1000:=fun x hx=>by
     rcases HBV.out with h | h
     ·have h:RX=[]:=h
      rw[h] at hx;cases hx
     ·obtain⟨i,hi⟩:=List.mem_iff_getElem?.1 hx
      have hil:=(List.getElem?_eq_some_iff.1 hi).1
      have h1:RX.length=m.vars.length:=h.1.1
      have h2:=h.1.2 i (by omega)
      have h3:=zCp m HCM.out i (by omega)
      have h4:zAO RX (i:Int)=x:=by unfold zAO;rw[Int.toNat_natCast,List.getD_eq_getElem?_getD,hi];rfl
      change (zAL m.vars i).lo≤zAO RX (i:Int)∧zAO RX (i:Int)≤(zAL m.vars i).hi at h2
      omega
    have hlen:RX.length≤m.vars.length:=by
     rcases HBV.out with h | h
     ·have h:RX=[]:=h
      rw[h];simp
     ·have h1:RX.length=m.vars.length:=h.1.1
      omega
    refine (zSP m ⟨RV,RX,RP⟩ (fun x hx=>by have:=zO0 m HCM.out x hx;omega) hlen ((zAx m HCM.out).2.1) hin (fun x hx=>zO1 x (hin x hx)) (.slice a1 m.vars.length c1) (.slice a2 m.cons.length c2) _ ap np cp _ (HMA.out _ hbZ1) (HX.out _ hbZ) (HP.out _ HBZ.out)).mono ?_
    rintro e w3 ⟨rfl,hb3⟩
    have HB3:Hid (Below w.heap.size w w3):=HBZ.out.trans (hb3.mono HBZ.out.size)
    clear hb3 hbZ hbZ1 hin hlen
    go_wp2
    go_ret2
    rw[←HN.out]
    exact⟨rfl,HB3.out⟩
   ·have hR:=HR2.out
    rw[if_neg he] at hR
    have HN:Hid ((zTL at0,(0:Int))=R):=hR
    have he':(er != 0)=true:=by simpa using he
    have HIT:Hid (∀Y,Below w.heap.size w Y→Calls Tryz.prog 55 #[.int .i64 at0] Y fun e w'=>e=.returned (.string (zFS at0))∧Below Y.heap.size Y w'):=fun Y hY=>zNq at0 hbd Y (HP.out _ hY)
    have his:=zMq at0 hbd
    obtain⟨ix,hix⟩:∃ix,zFS at0=ix:=⟨_,rfl⟩
    unfold zTL at HN
    rw[hix] at HIT his HN
    have z1:¬(9223372036854775807<5+ix.size):=by omega
    have z2:¬(9223372036854775807<5+ix.size+1):=by omega
    clear hR HR2 he hix
    go_wp2_with fail
    refine (HIT.out _ (HB1.out.alloc HB1.out.size _)).mono ?_
    rintro e w2 ⟨rfl,hb2⟩
    have HB2:Hid (Below w.heap.size w w2):=(HB1.out.alloc HB1.out.size _).trans (hb2.mono (by have:=HB1.out.size;simp;omega))
    clear hb2
    go_wp2
    go_ret2
    rw[←HN.out]
    exact⟨rfl,HB2.out⟩
def zEG:ByteArray:=⟨([118,97,114,32,120,58,32,48,46,46,50,59,10,118,97,114,32,121,58,32,48,46,46,50,59,10,99,111,110,32,108,101,32].append [91,49,44,32,45,49,93,32,91,120,44,32,121,93,32,45,49,59,10,115,111,108,118,101,32,108,101,97,115,116,32,121,59,10]).toArray⟩
theorem zEa:zAu zEG=(twoM,0,0):=by kernel_rfl
def zTi:ByteArray:=⟨#[98,101,115,116,10,120,32,61,32,48,10,121,32,61,32,49,10]⟩
theorem zO3 (P:List MStep):zMp twoM ⟨1,[0,1],P⟩=zTi:=by
 unfold zMp
 rw[if_neg (show ¬((1:Int)=2) by decide),if_neg (show ¬((1:Int)=3) by decide)]
 kernel_rfl
theorem zLa:zGw zEG 20=(zTi,0):=by
 obtain⟨P,hP,_⟩:=zMh
 unfold zGw
 rw[if_neg (by decide),if_neg (by decide),zEa,if_pos rfl,hP]
 simp only
 rw[zO3]
theorem zLb (P:List MStep) (hP:zB0 twoM 20=(⟨1,[0,1],P⟩,0)):zBD zEG [0,1] P=(true,0):=by
 unfold zBD
 rw[zEa,if_pos rfl]
 have:=zET twoM 20 (by rw[hP]) (Or.inr ⟨by rw[hP],by decide⟩)
 rw[hP] at this
 exact this
theorem zTj:allA twoM [0,1]=(true,0):=by
 unfold allA
 rw[if_pos zBb]
 kernel_rfl
theorem zTk:zA2 twoM [0,1]=([⟨1,1,0⟩],0):=by
 unfold zA2
 rw[if_pos zBb]
 kernel_rfl
theorem zQy (P:List MStep) (hP:zB0 twoM 20=(⟨1,[0,1],P⟩,0)):zBD zEG [0,2] P=(false,0):=by
 unfold zBD
 rw[zEa,if_pos rfl]
 have hv:zCS twoM [0,1] P=(true,0):=by
  have:=zET twoM 20 (by rw[hP]) (Or.inr ⟨by rw[hP],by decide⟩)
  rw[hP] at this
  exact this
 unfold zCS at hv ⊢
 rw[if_neg (by decide),zTk,if_pos rfl] at hv
 rw[if_neg (by decide),zTg,if_pos rfl]
 simp only at hv ⊢
 have hst:zCf twoM [[⟨1,1,0⟩]] P=0:=by
  apply Classical.byContradiction
  intro hn
  have hp:zAy twoM [[⟨1,1,0⟩]] P=(false,zCf twoM [[⟨1,1,0⟩]] P):=by unfold zAy;rw[if_neg hn]
  rw[hp] at hv
  simp only[Bool.false_eq_true,if_false] at hv
  cases hv
 obtain⟨e1,e2,_,e4,e5⟩:=zHy twoM _ P hst
 have hst2:zCf twoM [[⟨1,1,1⟩]] P=0:=by
  unfold zCf at hst ⊢
  rw[if_pos zBb,if_neg (by omega)] at hst ⊢
  rw[if_pos (show zFO twoM.vars [[⟨1,1,0⟩]]=0 by decide)] at hst
  rw[if_pos (show zFO twoM.vars [[⟨1,1,1⟩]]=0 by decide)]
  exact hst
 cases hb:(zAy twoM [[⟨1,1,1⟩]] P).1
 ·simp only[Bool.false_eq_true,if_false]
  unfold zAy at hb ⊢
  rw[if_pos hst2] at hb ⊢
  split
  ·rename_i hl
   rw[if_pos hl] at hb
   simp only at hb
   rw[hb]
  ·rfl
 ·exfalso
  have hpe:zAy twoM [[⟨1,1,1⟩]] P=(true,0):=by
   unfold zAy at hb ⊢
   rw[if_pos hst2] at hb ⊢
   split
   ·rename_i hl
    rw[if_pos hl] at hb
    simp only at hb
    rw[hb]
   ·rename_i hl
    rw[if_neg hl] at hb;cases hb
  unfold zAy at hpe
  rw[if_pos hst2] at hpe
  by_cases hl:zGk P=true
  ·rw[if_pos hl] at hpe
   have hst3:zBN twoM ([[⟨1,1,1⟩]].map (zAF twoM.vars)) P=true:=by simpa using hpe
   unfold zGk at hl
   cases hgl:P.getLast? with
   | none=>rw[hgl] at hl;cases hl
   | some s =>
     rw[hgl] at hl
     have hs0:s.cla=[]:=List.length_eq_zero_iff.1 (by simpa using hl)
     exact zIt twoM [[⟨1,1,1⟩]] P [0,1] zTj (fun d hd=>by rw[List.mem_singleton.1 hd];decide) e4 e5 (fun d hd=>by rw[List.mem_singleton.1 hd];decide) hst3 s (List.mem_of_getLast? hgl) hs0
  ·rw[if_neg hl] at hpe;cases hpe
theorem zCB.starg {base:Nat} {w:World} {v:Value} {L:List SV} (h:zCB base w v L):zEl w v (L.map (·.1)):=by
 obtain⟨a,c,rfl⟩:=zAB h.1
 have hc:L.length≤c∧c≤maxLen:=by
  rcases h.1.2 with ⟨he,_⟩ | ⟨g,cap,cur,he,_,_,k1,k2,_⟩
  ·have h1:L.length=0:=by injection he
   have h2:c=0:=by injection he
   exact⟨by omega,by unfold maxLen;omega⟩
  ·cases he
   exact⟨k1,k2⟩
 refine⟨a,c,by rw[List.length_map],by rw[List.length_map];exact hc,fun i t ht=>?_⟩
 rw[List.getElem?_map] at ht
 obtain⟨x,hx,rfl⟩:=Option.map_eq_some_iff.1 ht
 obtain⟨b,off,e1,e2,e3,e4,e5⟩:=zQJ h i x hx
 exact⟨b,off,x.2,e1,e2,e3,e4,e5,(h.2 x (List.mem_of_getElem? hx)).arg⟩
set_option maxHeartbeats 3200000 in
set_option maxRecDepth 100000 in
theorem zLc (w:World) (hT:TabT w) (hP:TabP w) :
 Calls Tryz.prog 21 #[] w fun e w'=>e=.returned (.bool true)∧Below w.heap.size w w':=by
 have HT:Hid (∀w',Below w.heap.size w w'→TabT w'):=fun w' h=>hT.below h
 have HTP:Hid (∀w',Below w.heap.size w w'→TabP w'):=fun w' h=>hP.below h
 obtain⟨P,hP1,_⟩:=zMh
 have HP:Hid (zB0 twoM 20=(⟨1,[0,1],P⟩,0)):=hP1
 have HV1:Hid (zBD zEG [0,1] P=(true,0)):=zLb P hP1
 have HV2:Hid (zBD zEG [0,2] P=(false,0)):=zQy P hP1
 have HAN:Hid (∀Y,Below w.heap.size w Y→Calls Tryz.prog 20 #[.string zEG,.int .i64 20] Y fun e w'=>e=.returned (.tuple #[.string (⟨#[98,101,115,116,10,120,32,61,32,48,10,121,32,61,32,49,10]⟩:ByteArray),.int .i64 0])∧Below Y.heap.size Y w'):=fun Y hY=>by
  have:=zO2 zEG (by decide) 20 (fun _=>by rw[zEa];decide) Y (HT.out _ hY) (HTP.out _ hY)
  rw[zLa] at this
  exact this
 have HSM:Hid (zEG.size≤maxLen):=by show _≤_;decide
 clear hT hP hP1
 go_enter Tryz.func21,Tryz.ntmps21
 go_wp2_with fail
 refine (HAN.out _ (Below.refl _ _)).mono ?_
 rintro e w1 ⟨rfl,hb1⟩
 have HB1:Hid (Below w.heap.size w w1):=hb1
 clear hb1
 go_wp2_with fail
 refine (zEM _).mono ?_
 rintro e w2 ⟨vs,cs,rfl,hm,hb2⟩
 have HM:Hid (MArg w2 vs cs twoM):=hm
 have HB2:Hid (Below w.heap.size w w2):=HB1.out.trans (hb2.mono HB1.out.size)
 clear hm hb2
 go_wp2_with fail
 refine (zHN twoM 20 vs cs _ HM.out (HT.out _ HB2.out)).mono ?_
 rintro e w3 ⟨vv,pp,rfl,hq,hb3⟩
 rw[HP.out] at hq ⊢
 dsimp only at hq ⊢
 obtain⟨L,hst,hLe⟩:=hq.prf
 simp only at hLe
 obtain⟨av,cv,rfl⟩:=zAB hq.val
 obtain⟨ap,cp,rfl⟩:=zAB hst.1
 have HV:Hid (∀Y,Below w3.heap.size w3 Y→IArg Y (.slice av 2 cv) [0,1]):=fun Y hY=>IArg.below hY (zDY hq.val)
 have HL:Hid (∀Y,Below w3.heap.size w3 Y→zEl Y (.slice ap L.length cp) P):=fun Y hY=>by
  have h1:=(hst.below hY).starg
  rw[hLe] at h1
  exact h1
 have HB3:Hid (Below w.heap.size w w3):=HB2.out.trans (hb3.mono HB2.out.size)
 clear hq hb3 hst hLe HM
 have HVE:Hid (∀(Y:World) (vals:List Int) (v:Value),Below w.heap.size w Y→Below w3.heap.size w3 Y→IArg Y v vals→Calls Tryz.prog 25 #[.string zEG,v,.slice ap L.length cp] Y fun e w'=>e=.returned (.tuple #[.bool (zBD zEG vals P).1,.int .i64 (zBD zEG vals P).2])∧Below Y.heap.size Y w'):=fun Y vals v h1 h2 h3 =>
  zJd zEG HSM.out vals P v _ Y h3 (HL.out _ h2) (HT.out _ h1)
 go_wp2_with fail
 have hb4:Below w3.heap.size w3 (w3.alloc (.cells #[.int .i64 1,.slice av 2 cv,.slice ap L.length cp] 29)):=zAA _ _
 have hbl4:=heap_alloc_new w3 (.cells #[.int .i64 1,.slice av 2 cv,.slice ap L.length cp] 29)
 have hsz4:w3.heap.size<(w3.alloc (.cells #[.int .i64 1,.slice av 2 cv,.slice ap L.length cp] 29)).heap.size:=by simp
 refine (HVE.out _ [0,1] _ (HB3.out.trans (hb4.mono HB3.out.size)) hb4 (HV.out _ hb4)).mono ?_
 rintro e w5 ⟨rfl,hb5⟩
 rw[HV1.out]
 dsimp only
 have HQ5:Hid (w5.heap[w3.heap.size]? = some (.cells #[.int .i64 1,.slice av 2 cv,.slice ap L.length cp] 29)):=(hb5.block _ hsz4).trans hbl4
 have HB35:Hid (Below w3.heap.size w3 w5):=hb4.trans (hb5.mono hb4.size)
 have HB5:Hid (Below w.heap.size w w5):=HB3.out.trans (HB35.out.mono HB3.out.size)
 clear hb4 hbl4 hsz4 hb5
 have k2:=blk9 HQ5.out 2 _ rfl
 have kl:=(Array.getElem?_eq_some_iff.1 HQ5.out).1
 go_wp2_with fail
 refine (HVE.out _ [0,2] _ (HB5.out.alloc HB5.out.size _) (HB35.out.alloc HB35.out.size _) (zGs w5 0 2 _ rfl)).mono ?_
 rintro e w6 ⟨rfl,hb6⟩
 rw[HV2.out]
 dsimp only
 have HB6:Hid (Below w.heap.size w w6):=(HB5.out.alloc HB5.out.size _).trans (hb6.mono (by have:=HB5.out.size;simp;omega))
 clear hb6
 go_wp2
 go_ret
 exact⟨rfl,HB6.out⟩
end Go.Proofs.YtdjbejlbmaiocagGreatDoor
