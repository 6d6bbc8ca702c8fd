/- What the proof leans on, part 36. -/
import Derived.Test.YtdjbejlbmaiocagGreatDoorPartAy
import Derived.Test.YtdjbejlbmaiocagGreatDoorPartBi
import Derived.Lib.AppendIntMem
import Derived.Lib.ItoaLen
import Derived.Lib.SlBytesRow
set_option maxRecDepth 100000
set_option maxHeartbeats 3200000
namespace Go.Proofs.YtdjbejlbmaiocagGreatDoor
open Go.RowKit
def zBp (goal:Int):ByteArray:=if goal=0 then ⟨#[102,111,117,110,100,10]⟩ else ⟨#[98,101,115,116,10]⟩
def zBG (n:Int):ByteArray:=⟨(Lib.itoa n).toArray⟩
def zIp (vs:List MVar) (k:Nat):ByteArray:=(vs.getD k zT6).name
def zHV (vs:List MVar) (k:Nat) (x:Int):ByteArray:=zIp vs k++⟨#[32,61,32]⟩++zBG x++⟨#[10]⟩
def zBu (vs:List MVar) (xs:List Int):List UInt8:=((List.range xs.length).map fun k=>(zHV vs k (xs.getD k 0)).data.toList).flatten
def zFX (m:Mod) (a:Ans):ByteArray :=
 if a.verdict=2 then ⟨#[110,111,110,101,10]⟩ else if a.verdict=3 then ⟨#[117,110,107,110,111,119,110,10]⟩ else ⟨((zBp m.goal).data.toList++zBu m.vars a.values).toArray⟩
theorem zG7 (vs:List MVar) (xs:List Int) (k:Nat) (x:Int) (h:xs[k]? = some x):zBu vs (xs.take (k+1))=zBu vs (xs.take k)++(zHV vs k x).data.toList:=by
 have hk:=(List.getElem?_eq_some_iff.1 h).1;unfold zBu;have l1:(xs.take (k+1)).length=k+1:=by rw[List.length_take];omega
 have l2:(xs.take k).length=k:=by rw[List.length_take];omega
 rw[l1,l2,List.range_succ,List.map_append,List.flatten_append]
 congr 1
 ·congr 1
  apply List.map_congr_left;intro j hj;have hj:=List.mem_range.1 hj
  congr 2
  rw[List.getD_eq_getElem?_getD,List.getD_eq_getElem?_getD,List.getElem?_take,List.getElem?_take,if_pos (by omega),if_pos (by omega)]
 ·simp only[List.map_cons,List.map_nil,List.flatten_cons,List.flatten_nil,List.append_nil]
  congr 2
  rw[List.getD_eq_getElem?_getD,List.getElem?_take,if_pos (by omega),h];rfl
theorem zQ4 (goal:Int) (w:World):Calls Tryz.prog 111 #[.int .i64 goal] w fun e w'=>e=.returned (.string (zBp goal))∧w'=w:=by
 unfold zBp;by_cases hg:goal=0
 ·subst hg
  go_enter Tryz.func111,Tryz.ntmps111
  go_wp2
  go_ret
  exact⟨rfl,rfl⟩
 ·rw[if_neg hg]
  have hg':(goal==0)=false:=by simpa using hg
  go_enter Tryz.func111,Tryz.ntmps111
  go_wp2
  go_ret
  exact⟨rfl,rfl⟩
def TabP (w:World):Prop:=Lib.TabIs Tryz.prog w "internal/strconv.uint64pow10" .u64 Lib.pow10Tab
theorem zOA (n:Int) (hn:-1000000≤n∧n≤1000000) (w:World) (hP:TabP w):Calls Tryz.prog 55 #[.int .i64 n] w fun e w'=>e=.returned (.string (zBG n))∧Below w.heap.size w w' :=
 (Tryz.strconv_Itoa n (by omega) (by omega) w hP).mono (by
   rintro e w1 ⟨rfl,k,os,hw⟩;exact⟨rfl,by rw[hw];exact Lib.below_grow w.heap.size w (Nat.le_refl _) k os⟩)
theorem zSk (w:World):Lib.IsBuilderF 150 5 w.heap.size w.heap.size (Lib.byteCells []) (w.alloc (.cells #[.pointer none,.slice none 0 0] 150)) :=
 Or.inl ⟨Nat.le_refl _,.slice none 0 0,by show (w.heap.push _)[w.heap.size]? = _;simp,World.ownsRowF_of (World.ownsRow_nil _ _ _ _),by simp[Value.ownBlock]⟩
theorem TabP.below {w w':World} (h:TabP w) (hb:Below w.heap.size w w'):TabP w':=by
 unfold TabP at h ⊢;unfold Lib.TabIs World.var? at h ⊢;cases hg:Tryz.prog.globalNamed "internal/strconv.uint64pow10" with
 | none=>rw[hg] at h;exact h
 | some g =>
   rw[hg] at h;have hlt:g<w.heap.size:=by
    rcases Nat.lt_or_ge g w.heap.size with h' | h'
    ·exact h'
    ·simp[Array.getElem?_eq_none h'] at h
   have hb2:=hb.block g hlt;simp only[Option.bind_some] at h ⊢;rw[hb2];exact h
theorem zQ5 {B b:Nat} {bs:List Value} {w w':World} (h:Lib.IsBuilderF 150 5 B b bs w) (hb:Below w.heap.size w w'):Lib.IsBuilderF 150 5 B b bs w':=by
 have one:∀p,Lib.BuilderAtF 150 5 B b p bs w→Lib.BuilderAtF 150 5 B b p bs w':=by
  rintro p ⟨h1,v,h2,h3,h4⟩;refine⟨h1,v,(hb.block b (Array.getElem?_eq_some_iff.1 h2).1).trans h2,?_,h4⟩;refine⟨h3.1,?_⟩;rcases h3.2 with hn | ⟨g,cap,cur,z,hv,hg,hh,r⟩
  ·exact .inl hn
  ·exact .inr ⟨g,cap,cur,z,hv,hg,(hb.block g (Array.getElem?_eq_some_iff.1 hh).1).trans hh,r⟩
 rcases h with h | h
 ·exact Or.inl (one _ h)
 ·exact Or.inr (one _ h)
theorem zQ6 (a b:List UInt8):Lib.byteCells (a++b)=Lib.byteCells a++Lib.byteCells b:=by unfold Lib.byteCells;rw[List.map_append]
theorem zLt (l:List UInt8):(Lib.byteCells l).length=l.length:=by unfold Lib.byteCells;rw[List.length_map]
theorem zIq (vs:List MVar) (xs:List Int) (hn:∀x∈vs,x.name.size≤1000) (hi:∀x∈xs,(zBG x).size≤100):∀(k:Nat),k≤xs.length→(zBu vs (xs.take k)).length≤2000 * k
 | 0,_=>by simp[zBu]
 | k+1,hk=>by
   have hx:xs[k]? = some (xs[k]'(by omega)):=by rw[List.getElem?_eq_getElem (by omega)]
   rw[zG7 vs xs k _ hx,List.length_append];have h1:=zIq vs xs hn hi k (by omega)
   have h2:(zHV vs k (xs[k]'(by omega))).data.toList.length=(zHV vs k (xs[k]'(by omega))).size:=rfl
   have h3:(zHV vs k (xs[k]'(by omega))).size≤1200:=by
    unfold zHV;rw[ByteArray.size_append,ByteArray.size_append,ByteArray.size_append];have h4:=hi _ (List.mem_of_getElem? hx);have h5:(zIp vs k).size≤1000:=by
     unfold zIp;by_cases hkv:k<vs.length
     ·rw[List.getD_eq_getElem?_getD,List.getElem?_eq_getElem hkv]
      exact hn _ (List.getElem_mem _)
     ·rw[List.getD_eq_getElem?_getD,List.getElem?_eq_none (by omega)]
      decide
    have h6:(⟨#[32,61,32]⟩:ByteArray).size=3:=rfl;have h7:(⟨#[10]⟩:ByteArray).size=1:=rfl;omega
   omega
theorem zSl (m:Mod) (a:Ans) (hn:∀x∈m.vars,x.name.size≤1000) (hl:a.values.length≤m.vars.length) (hl6:m.vars.length≤6) (hx:∀x∈a.values,-1000≤x∧x≤1000) (hi:∀x∈a.values,(zBG x).size≤100) (vs cs vv:Value) (ap:Option Addr) (np cp:Nat) (w:World) (hma:MArg w vs cs m) (hv:IArg w vv a.values) (hP:TabP w) :
 Calls Tryz.prog 56 #[modV vs cs m,.agg #[.int .i64 a.verdict,vv,.slice ap np cp]] w fun e w'=>e=.returned (.string (zFX m a))∧Below w.heap.size w w':=by
 have HMA:Hid (∀w',Below w.heap.size w w'→MArg w' vs cs m):=fun w' h=>MArg.below h hma
 have HP:Hid (∀w',Below w.heap.size w w'→TabP w'):=fun w' h=>hP.below h
 obtain⟨⟨a1,c1,rfl,_,hvr⟩,⟨a2,c2,rfl,_,_⟩⟩:=hma;obtain⟨av,cv,rfl,_,hir⟩:=hv;have HV:Hid (∀(i:Nat) (t:MVar),m.vars[i]? = some t→t.name.size≤maxLen∧∃b off,a1=some ⟨b,off,none⟩∧b<w.heap.size ∧
  w.cell? ⟨b,off+i * 3,none⟩=some (.string t.name)∧w.cell? ⟨b,off+i * 3+1,none⟩=some (.int .i64 t.lo)∧w.cell? ⟨b,off+i * 3+2,none⟩=some (.int .i64 t.hi)):=hvr
 have HI:Hid (∀(i:Nat) (z:Int),a.values[i]? = some z→∃b off,av=some ⟨b,off,none⟩∧b<w.heap.size∧w.cell? ⟨b,off+i,none⟩=some (.int .i64 z)):=hir;obtain⟨R,hR⟩:∃R,zFX m a=R:=⟨_,rfl⟩;rw[hR];unfold zFX at hR;have HR:=(show Hid _ from hR)
 have HN:Hid (∀x∈m.vars,x.name.size≤1000):=hn;have HXB:Hid (∀x∈a.values,-1000≤x∧x≤1000):=hx;have HIB:Hid (∀x∈a.values,(zBG x).size≤100):=hi;clear hR hvr hir hn hx hi hP;unfold modV;go_enter Tryz.func56,Tryz.ntmps56
 by_cases h2:a.verdict=2
 ·have hR:=HR.out
  rw[if_pos h2] at hR;subst hR;rw[h2];clear HR h2;go_wp2
  go_ret
  exact⟨rfl,(zAA _ _).alloc (by simp) _⟩
 ·by_cases h3:a.verdict=3
  ·have hR:=HR.out
   rw[if_neg h2,if_pos h3] at hR;subst hR;rw[h3];clear HR h2 h3;go_wp2
   go_ret
   exact⟨rfl,(zAA _ _).alloc (by simp) _⟩
  ·have hR:=HR.out
   rw[if_neg h2,if_neg h3] at hR;have HR2:=(show Hid _ from hR)
   have h2':(a.verdict==2)=false:=by simpa using h2
   have h3':(a.verdict==3)=false:=by simpa using h3
   clear hR HR h2 h3;go_wp2_with fail
   refine (zQ4 m.goal _).mono ?_;rintro e wf ⟨rfl,hwf⟩;obtain⟨q1,q2⟩:=zEk w (.cells #[.slice a1 m.vars.length c1,.slice a2 m.cons.length c2,.int .i64 m.goal,.int .i64 m.var] 25) (.cells #[.int .i64 a.verdict,.slice av a.values.length cv,.slice ap np cp] 29);have hbW:Below w.heap.size w ((w.alloc (.cells #[.slice a1 m.vars.length c1,.slice a2 m.cons.length c2,.int .i64 m.goal,.int .i64 m.var] 25)).alloc (.cells #[.int .i64 a.verdict,.slice av a.values.length cv,.slice ap np cp] 29)):=(zAA _ _).alloc (by simp) _
   have hszW:((w.alloc (.cells #[.slice a1 m.vars.length c1,.slice a2 m.cons.length c2,.int .i64 m.goal,.int .i64 m.var] 25)).alloc (.cells #[.int .i64 a.verdict,.slice av a.values.length cv,.slice ap np cp] 29)).heap.size=w.heap.size+1+1:=by simp
   obtain⟨W,hW⟩:∃W,((w.alloc (.cells #[.slice a1 m.vars.length c1,.slice a2 m.cons.length c2,.int .i64 m.goal,.int .i64 m.var] 25)).alloc (.cells #[.int .i64 a.verdict,.slice av a.values.length cv,.slice ap np cp] 29))=W:=⟨_,rfl⟩;rw[hW] at q1 q2 hbW hszW hwf;have hbm:=zSk W;rw[hszW,←hwf] at hbm;have hbf:Below W.heap.size W wf:=by rw[hwf];exact zAA _ _
   obtain⟨B,hB⟩:∃B,w.heap.size+1+1=B:=⟨_,rfl⟩;rw[hB] at hbm hszW ⊢;rw[hszW] at hbf;have HQ1:Hid (∀Y,Below B W Y→Y.heap[w.heap.size]? = some (.cells #[.slice a1 m.vars.length c1,.slice a2 m.cons.length c2,.int .i64 m.goal,.int .i64 m.var] 25)):=fun Y hY=>(hY.block _ (by omega)).trans q1
   have HQ2:Hid (∀Y,Below B W Y→Y.heap[w.heap.size+1]? = some (.cells #[.int .i64 a.verdict,.slice av a.values.length cv,.slice ap np cp] 29)):=fun Y hY=>(hY.block _ (by omega)).trans q2
   have HWO:Hid (∀Y,Below B W Y→Below w.heap.size w Y):=fun Y hY=>hbW.trans (hY.mono (by omega))
   have HBW:Hid (Below B W wf):=hbf;have HBD:Hid (Lib.IsBuilderF 150 5 B B (Lib.byteCells []) wf):=hbm;have HBB:Hid (B≤W.heap.size):=by show _≤_;omega
   have HFS:Hid ((zBp m.goal).size≤10):=by show _≤_;unfold zBp;split <;> decide
   clear hbm hbf hbW hszW hW q1 q2 hwf hB;go_wp2_with fail
   refine (zQ3 B B (Lib.byteCells []) (zBp m.goal) wf HBD.out (by rw[zLt];have:=HFS.out;simp;omega) (by have:=HBW.out.size;have:=HBB.out;omega)).mono ?_
   rintro e w1 ⟨rfl,hd1,hb1,_⟩;have HD1:Hid (Lib.IsBuilderF 150 5 B B (Lib.byteCells ((zBp m.goal).data.toList++zBu m.vars (a.values.take 0))) w1):=by
    have:zBu m.vars (a.values.take 0)=[]:=rfl;rw[this,List.append_nil];exact Or.inr hd1
   have HB1:Hid (Below B W w1):=HBW.out.trans hb1;clear hd1 hb1 HBD HBW;have k1:=blk9 (HQ2.out _ HB1.out) 1 _ rfl;have kl:=(Array.getElem?_eq_some_iff.1 (HQ2.out _ HB1.out)).1;go_wp2_with fail
   clear k1 kl;go_loopw [21] (fun i wr=>∃k:Nat,k≤a.values.length∧i=.int .i64 k∧Lib.IsBuilderF 150 5 B B (Lib.byteCells ((zBp m.goal).data.toList++zBu m.vars (a.values.take k))) wr∧Below B W wr) (fun i _=>a.values.length - (intOf i).toNat)
   case atStart=>exact⟨0,by omega,rfl,HD1.out,HB1.out⟩
   case round =>
    obtain⟨k,hk,rfl,hd,hb⟩:=hrel;have HD:Hid (Lib.IsBuilderF 150 5 B B (Lib.byteCells ((zBp m.goal).data.toList++zBu m.vars (a.values.take k))) wr):=hd;have HB:Hid (Below B W wr):=hb;have HSZ:Hid (B≤wr.heap.size):=by have:=hb.size;have:=HBB.out;show _≤_;omega
    clear hd hb HD1 HB1;by_cases hlt:k<a.values.length
    ·obtain⟨x,hx⟩:∃x,a.values[k]? = some x:=⟨a.values[k],by rw[List.getElem?_eq_getElem hlt]⟩
     obtain⟨t,ht⟩:∃t,m.vars[k]? = some t:=⟨m.vars[k]'(by omega),by rw[List.getElem?_eq_getElem (by omega)]⟩
     obtain⟨_,bn,on,hbn,hln,cn,_,_⟩:=HV.out k t ht;obtain⟨bx,ox,hbx,hlx,cx⟩:=HI.out k x hx;subst hbn hbx;have HW:=HWO.out _ HB.out;have dn:=(HW.cell (p:=⟨bn,on+k * 3,none⟩) hln).trans cn;have dx:=(HW.cell (p:=⟨bx,ox+k,none⟩) hlx).trans cx;have ln:bn<wr.heap.size:=Nat.lt_of_lt_of_le hln HW.size;have lx:bx<wr.heap.size:=Nat.lt_of_lt_of_le hlx HW.size;have k0:=blk9 (HQ1.out _ HB.out) 0 _ rfl;have kl:=(Array.getElem?_eq_some_iff.1 (HQ1.out _ HB.out)).1;have hns:=HN.out t (List.mem_of_getElem? ht);have hxs:=HXB.out x (List.mem_of_getElem? hx);have his:=HIB.out x (List.mem_of_getElem? hx);have HLN:Hid (zBu m.vars (a.values.take (k+1))=zBu m.vars (a.values.take k)++(t.name++⟨#[32,61,32]⟩++zBG x++⟨#[10]⟩).data.toList):=by
      show _=_;rw[zG7 m.vars a.values k x hx];unfold zHV zIp;rw[List.getD_eq_getElem?_getD,ht];rfl
     obtain⟨nm,hnm⟩:∃nm,t.name=nm:=⟨_,rfl⟩;obtain⟨ix,hix⟩:∃ix,zBG x=ix:=⟨_,rfl⟩;rw[hnm] at dn hns HLN;rw[hix] at his HLN;have HIT:Hid (∀Y,Below wr.heap.size wr Y→Calls Tryz.prog 55 #[.int .i64 x] Y fun e w'=>e=.returned (.string ix)∧Below Y.heap.size Y w'):=fun Y hY=>by
      rw[←hix];exact zOA x (by omega) Y (HP.out _ (HW.trans (hY.mono HW.size)))
     have z1:¬(9223372036854775807<nm.size+3):=by omega
     have e1:(nm++(⟨#[32,61,32]⟩:ByteArray)).size=nm.size+3:=by rw[ByteArray.size_append];rfl
     have e2:(nm++(⟨#[32,61,32]⟩:ByteArray)++ix).size=nm.size+3+ix.size:=by rw[ByteArray.size_append,e1]
     have e3:(nm++(⟨#[32,61,32]⟩:ByteArray)++ix++(⟨#[10]⟩:ByteArray)).size=nm.size+3+ix.size+1:=by rw[ByteArray.size_append,e2];rfl
     have HSL:Hid ((nm++(⟨#[32,61,32]⟩:ByteArray)++ix++(⟨#[10]⟩:ByteArray)).size≤1200):=by show _≤_;omega
     have z2:¬(9223372036854775807<nm.size+3+ix.size):=by omega
     have z3:¬(9223372036854775807<nm.size+3+ix.size+1):=by omega
     have HLL:Hid ((Lib.byteCells ((zBp m.goal).data.toList++zBu m.vars (a.values.take k))).length≤100000000):=by
      show _≤_;rw[zLt,List.length_append];have h1:=HFS.out;have h2:=zIq m.vars a.values HN.out HIB.out k (by omega)
      have h3:(zBp m.goal).data.toList.length=(zBp m.goal).size:=rfl;have hk7:k≤6:=by omega
      omega
     have q1:(k:Int)<(m.vars.length:Int):=by omega
     have q2:k<m.vars.length:=by omega
     clear hx ht hnm hix cn cx e1 e2 e3 HW;go_wp2_with fail
     go_region_law
      (first
        | (rw[if_pos (by rfl)];go_simp;go_at_call 55;refine (HIT.out _ (Below.refl _ _).drew).mono ?_;rintro e w3 ⟨rfl,hb3⟩;have hB3:Below wr.heap.size wr w3:=(Below.refl _ _).drew.trans hb3;have dn3:=(hB3.cell (p:=⟨bn,on+k * 3,none⟩) ln).trans dn;have k03:=(hB3.cell (p:=⟨w.heap.size,0,none⟩) kl).trans k0;have kl3:w.heap.size<w3.heap.size:=Nat.lt_of_lt_of_le kl hB3.size;have ln3:bn<w3.heap.size:=Nat.lt_of_lt_of_le ln hB3.size;dsimp only)
        | (rw[if_pos (by rfl)];go_simp;go_at_call 110;refine (zQ3 B B _ _ w3 (zQ5 HD.out hB3) (by have:=HSL.out;have:=HLL.out;omega) (by have:=hB3.size;have:=HSZ.out;omega)).mono ?_;rintro e w4 ⟨rfl,hd4,hb4,_⟩;dsimp only))
     all_goals
      have HD4:Hid (Lib.IsBuilderF 150 5 B B (Lib.byteCells ((zBp m.goal).data.toList++zBu m.vars (a.values.take (k+1)))) w4):=by
       rw[HLN.out,←List.append_assoc,zQ6];exact Or.inr hd4
      have HB4:Hid (Below B W w4):=HB.out.trans ((hB3.mono HSZ.out).trans hb4);clear hd4 hb4;go_wp2
      go_roundw
      case rel=>exact⟨k+1,by omega,by go_num,HD4.out,HB4.out⟩
      case measure=>simp[intOf];omega
    ·have hke:k=a.values.length:=by omega
     have HF:Hid (Lib.IsBuilderF 150 5 B B (Lib.byteCells ((zBp m.goal).data.toList++zBu m.vars a.values)) wr):=by
      have h:=HD.out;rw[List.take_of_length_le (by omega)] at h
      exact h
     clear hke;go_wp2_with fail
     refine (zPH B B _ wr HF.out HSZ.out).mono ?_;rintro e w2 ⟨rfl,_,hb2,_⟩;have HB2:Hid (Below w.heap.size w w2):=HWO.out _ (HB.out.trans hb2);clear hb2;go_wp2
     go_ret
     rw[←HR2.out];exact⟨rfl,HB2.out⟩
theorem zJ5 (m:Mod) (hm:zAF m=0):∀x∈m.vars,x.name.size≤12:=by
 intro v hv;obtain⟨i,hi⟩:=List.mem_iff_getElem?.1 hv;have h1:=(zA9 m hm).2.2.2.1;have h2:=zDJ _ h1 (varE (m.vars.take i) v) (by
  have hl:i<m.vars.length:=(List.getElem?_eq_some_iff.1 hi).1;refine List.mem_map.2 ⟨i,List.mem_range.2 hl,?_⟩;rw[List.getD_eq_getElem?_getD,hi];rfl)
 unfold varE at h2
 split at h2
 ·rename_i hn
  unfold zAb at hn;rw[Bool.and_eq_true] at hn;have:=((zHp _ _).1 hn.1).2.2.2.2.2;unfold zBE at this;rw[if_pos rfl] at this
  split at this
  ·cases this
  ·omega
 ·cases h2
theorem zJ6 (x:Int) (h:-1000≤x∧x≤1000):(zBG x).size≤100:=by
 have:=Lib.itoa_length_le x (by omega) (by omega)
 have e:(zBG x).size=(Lib.itoa x).length:=by unfold zBG;simp[ByteArray.size]
 omega
theorem zIr (x:Int) (h:-1000000≤x∧x≤1000000):(zBG x).size≤100:=by
 have:=Lib.itoa_length_le x (by omega) (by omega)
 have e:(zBG x).size=(Lib.itoa x).length:=by unfold zBG;simp[ByteArray.size]
 omega
theorem zHW (m:Mod) (hm:zAF m=0) (hg:m.goal=1∨m.goal=2):∀(N:Nat) (R:Int×List Int×Sk) (b:List Int),zEA m R<N→(R.1=1→Sol m R.2.1)→(b=[]∨Sol m b)→(zBc m R b).values=[]∨Sol m (zBc m R b).values
 | 0,R,b,h,_,_=>by omega
 | N+1,R,b,h,hs,hb=>by
   rw[zDR m hm hg R b hs]
   split
   ·rename_i h1
    exact zHW m hm hg N _ _ (by have:=zDQ m hm hg R h1 (hs h1);omega) (fun h=>(zBP m hm _ h).1) (Or.inr (hs h1))
   ·split
    ·exact Or.inl rfl
    ·split
     ·exact hb
     ·exact hb
theorem zIs (m:Mod) (hm:zAF m=0) (fuel:Int):(zBt m fuel).1.values=[]∨Sol m (zBt m fuel).1.values:=by
 unfold zBt;by_cases hg:m.goal=0
 ·rw[if_pos hg]
  unfold zFQ;rw[if_pos hm]
  split
  ·exact Or.inl rfl
  ·split
   ·exact Or.inl rfl
   ·obtain⟨_,n2,_,n4,n5⟩:=zCv m hm (fun _=>False) _ (zC6 fuel) (Nat.lt_succ_self _) (fun x _ hf=>hf.elim)
    by_cases h1:(zE3 m fuel).1=1
    ·exact Or.inr (n2 h1).1
    ·exact Or.inl (n5 h1)
 ·rw[if_neg hg,if_pos hm]
  obtain⟨_,_,hgo⟩:=zDa m hm;have hg2:m.goal=1∨m.goal=2:=by omega
  split
  ·exact Or.inl rfl
  ·exact zHW m hm hg2 _ _ _ (Nat.lt_succ_self _) (fun h=>(zBP m hm _ h).1) (Or.inl rfl)
theorem zOB (m:Mod) (hm:zAF m=0) (fuel:Int) (hf:¬(fuel<0∨300<fuel)):(zBt m fuel).2=0:=by
 unfold zBt;by_cases hg:m.goal=0
 ·rw[if_pos hg]
  unfold zFQ;rw[if_pos hm,if_neg hf]
  split <;> rfl
 ·rw[if_neg hg,if_pos hm,if_neg hf]
def zQ7 (at0:Int):ByteArray:=(⟨#[116,101,120,116,32]⟩:ByteArray)++zBG at0++(⟨#[10]⟩:ByteArray)
def zEV (s:ByteArray) (fuel:Int):ByteArray×Int :=
 if 4000<s.size then (⟨#[]⟩,2) else if fuel<0∨300<fuel then (⟨#[]⟩,3)
 else if (zAy s).2.2=0 then (zFX (zAy s).1 (zBt (zAy s).1 fuel).1,0) else (zQ7 (zAy s).2.1,0)
theorem zIt (s:ByteArray) (h:(zAy s).2.2=0):zAF (zAy s).1=0:=by
 obtain⟨⟨ts,a,e⟩,hs⟩:∃x,zAO s=x:=⟨_,rfl⟩;by_cases he:e=0
 ·subst he
  obtain⟨⟨m,x,e2⟩,hr⟩:∃y,zEU s.size ts=y:=⟨_,rfl⟩;by_cases he2:e2=0
  ·subst he2
   by_cases hc:zAF m=0
   ·rw[zN8 hs hr hc];exact hc
   ·rw[zIn hs hr hc] at h
    exact absurd h hc
  ·rw[zJ3 hs hr he2] at h
   exact absurd h he2
 ·rw[zJ4 hs he] at h
  exact absurd h he
theorem zJ7 (s:ByteArray) (hs:s.size≤maxLen) (fuel:Int) (hat:¬4000<s.size→-1000000≤(zAy s).2.1∧(zAy s).2.1≤1000000) (w:World) (hT:TabT w) (hP:TabP w) :
 Calls Tryz.prog 20 #[.string s,.int .i64 fuel] w fun e w'=>e=.returned (.tuple #[.string (zEV s fuel).1,.int .i64 (zEV s fuel).2])∧Below w.heap.size w w':=by
 have HT:Hid (∀w',Below w.heap.size w w'→TabT w'):=fun w' h=>hT.below h
 have HP:Hid (∀w',Below w.heap.size w w'→TabP w'):=fun w' h=>hP.below h
 have HS:Hid (s.size≤maxLen):=hs;have HAT:Hid (¬4000<s.size→-1000000≤(zAy s).2.1∧(zAy s).2.1≤1000000):=hat;obtain⟨R,hR⟩:∃R,zEV s fuel=R:=⟨_,rfl⟩;rw[hR];unfold zEV at hR;have HR:=(show Hid _ from hR)
 clear hR hT hP hs hat;by_cases h4:4000<s.size
 ·have hR:=HR.out
  rw[if_pos h4] at hR;have HN:Hid (((⟨#[]⟩:ByteArray),(2:Int))=R):=hR;have h4':(4000:Int)<(s.size:Int):=by omega
  clear hR HR;go_enter Tryz.func20,Tryz.ntmps20
  go_wp2
  go_ret2
  rw[←HN.out];exact⟨rfl,Below.refl _ _⟩
 ·have h4':¬(4000:Int)<(s.size:Int):=by omega
  by_cases hf:fuel<0∨300<fuel
  ·have hR:=HR.out
   rw[if_neg h4,if_pos hf] at hR;have HN:Hid (((⟨#[]⟩:ByteArray),(3:Int))=R):=hR;clear hR HR;by_cases hf0:fuel<0
   ·clear hf
    go_enter Tryz.func20,Tryz.ntmps20
    go_wp2
    go_ret2
    rw[←HN.out];exact⟨rfl,Below.refl _ _⟩
   ·have hf1:300<fuel:=by rcases hf with h | h;exact absurd h hf0;exact h
    clear hf;go_enter Tryz.func20,Tryz.ntmps20
    go_wp2
    go_ret2
    rw[←HN.out];exact⟨rfl,Below.refl _ _⟩
  ·have hR:=HR.out
   rw[if_neg h4,if_neg hf] at hR;have HR2:=(show Hid _ from hR)
   have hf0:¬fuel<0:=fun h=>hf (Or.inl h)
   have hf1:¬300<fuel:=fun h=>hf (Or.inr h)
   have HFF:Hid (¬(fuel<0∨300<fuel)):=hf;have hbd:=HAT.out h4;have HPM:Hid ((zAy s).2.2=0→zAF (zAy s).1=0):=zIt s;obtain⟨⟨m,at0,er⟩,hp⟩:∃P,zAy s=P:=⟨_,rfl⟩;have HPA:Hid (zAy s=(m,at0,er)):=hp;rw[hp] at HR2 hbd HPM;simp only at hbd;clear hR HR hp hf HAT;go_enter Tryz.func20,Tryz.ntmps20
   go_wp2_with fail
   refine (zLr s HS.out _).mono ?_;rintro e w1 ⟨vs,cs,rfl,hm1,hb1⟩;rw[HPA.out] at hm1 ⊢
   dsimp only at hm1 ⊢
   have HMA:Hid (∀w',Below w1.heap.size w1 w'→MArg w' vs cs m):=fun w' h=>MArg.below h hm1.marg
   have HB1:Hid (Below w.heap.size w w1):=hb1;obtain⟨⟨a1,c1,rfl,_,_⟩,⟨a2,c2,rfl,_,_⟩⟩:=hm1.marg;unfold modV;clear hm1 hb1;by_cases he:er=0
   ·have hR:=HR2.out
    rw[if_pos he] at hR;have HCM:Hid (zAF m=0):=HPM.out he;subst he;have HN:Hid ((zFX m (zBt m fuel).1,(0:Int))=R):=hR;clear hR HR2 HPM;have HBV:=(show Hid _ from zIs m HCM.out fuel)
    have HBE:Hid ((zBt m fuel).2=0):=zOB m HCM.out fuel HFF.out;obtain⟨⟨⟨RV,RX,RP⟩,RE⟩,hB⟩:∃B,zBt m fuel=B:=⟨_,rfl⟩;have HBA:Hid (zBt m fuel=(⟨RV,RX,RP⟩,RE)):=hB;rw[hB] at HBV HBE HN;have hre:RE=0:=HBE.out;subst hre;clear hB;go_wp2_with fail
    have hbY:Below w1.heap.size w1 (w1.alloc (.cells #[.slice a1 m.vars.length c1,.slice a2 m.cons.length c2,.int .i64 m.goal,.int .i64 m.var] 25)):=zAA _ _;have hblY:=heap_alloc_new w1 (.cells #[.slice a1 m.vars.length c1,.slice a2 m.cons.length c2,.int .i64 m.goal,.int .i64 m.var] 25);refine (zHh m fuel (.slice a1 m.vars.length c1) (.slice a2 m.cons.length c2) _ (HMA.out _ hbY) (HT.out _ (HB1.out.trans (hbY.mono HB1.out.size)))).mono ?_;rintro e w2 ⟨vv,pp,rfl,hq,hb2⟩;rw[HBA.out] at hq ⊢
    dsimp only at hq ⊢
    obtain⟨⟨ax,cx,rfl⟩,ap,np,cp,rfl⟩:=hq.forms;have HQ2:Hid (w2.heap[w1.heap.size]? = some (.cells #[.slice a1 m.vars.length c1,.slice a2 m.cons.length c2,.int .i64 m.goal,.int .i64 m.var] 25)):=(hb2.block _ (by simp)).trans hblY
    have HB12:Hid (Below w1.heap.size w1 w2):=hbY.trans (hb2.mono (by simp))
    have HX:Hid (∀Y,Below w2.heap.size w2 Y→IArg Y (.slice ax RX.length cx) RX):=fun Y hY=>IArg.below hY (zD5 hq.val)
    simp only;clear hb2 hbY hblY hq;have k0:=blk9 HQ2.out 0 _ rfl;have k1:=blk9 HQ2.out 1 _ rfl;have k2:=blk9 HQ2.out 2 _ rfl;have k3:=blk9 HQ2.out 3 _ rfl;have kl:=(Array.getElem?_eq_some_iff.1 HQ2.out).1;go_wp2_with fail
    have hbZ:Below w2.heap.size w2 (w2.alloc (.cells #[.int .i64 RV,.slice ax RX.length cx,.slice ap np cp] 29)):=zAA _ _;have hbZ1:=HB12.out.trans (hbZ.mono HB12.out.size);have HBZ:Hid (Below w.heap.size w (w2.alloc (.cells #[.int .i64 RV,.slice ax RX.length cx,.slice ap np cp] 29))):=HB1.out.trans (hbZ1.mono HB1.out.size);have hin:∀x∈RX,-1000≤x∧x≤1000:=fun x hx=>by
     rcases HBV.out with h | h
     ·have h:RX=[]:=h
      rw[h] at hx;cases hx
     ·obtain⟨i,hi⟩:=List.mem_iff_getElem?.1 hx
      have hil:=(List.getElem?_eq_some_iff.1 hi).1;have h1:RX.length=m.vars.length:=h.1.1;have h2:=h.1.2 i (by omega)
      have h3:=zCg m HCM.out i (by omega)
      have h4:zAZ RX (i:Int)=x:=by unfold zAZ;rw[Int.toNat_natCast,List.getD_eq_getElem?_getD,hi];rfl
      change (zAK m.vars i).lo≤zAZ RX (i:Int)∧zAZ RX (i:Int)≤(zAK m.vars i).hi at h2
      omega
    have hlen:RX.length≤m.vars.length:=by
     rcases HBV.out with h | h
     ·have h:RX=[]:=h
      rw[h];simp
     ·have h1:RX.length=m.vars.length:=h.1.1
      omega
    refine (zSl m ⟨RV,RX,RP⟩ (fun x hx=>by have:=zJ5 m HCM.out x hx;omega) hlen ((zA9 m HCM.out).2.1) hin (fun x hx=>zJ6 x (hin x hx)) (.slice a1 m.vars.length c1) (.slice a2 m.cons.length c2) _ ap np cp _ (HMA.out _ hbZ1) (HX.out _ hbZ) (HP.out _ HBZ.out)).mono ?_
    rintro e w3 ⟨rfl,hb3⟩;have HB3:Hid (Below w.heap.size w w3):=HBZ.out.trans (hb3.mono HBZ.out.size);clear hb3 hbZ hbZ1 hin hlen;go_wp2
    go_ret2
    rw[←HN.out];exact⟨rfl,HB3.out⟩
   ·have hR:=HR2.out
    rw[if_neg he] at hR;have HN:Hid ((zQ7 at0,(0:Int))=R):=hR;have he':(er != 0)=true:=by simpa using he
    have HIT:Hid (∀Y,Below w.heap.size w Y→Calls Tryz.prog 55 #[.int .i64 at0] Y fun e w'=>e=.returned (.string (zBG at0))∧Below Y.heap.size Y w'):=fun Y hY=>zOA at0 hbd Y (HP.out _ hY)
    have his:=zIr at0 hbd;obtain⟨ix,hix⟩:∃ix,zBG at0=ix:=⟨_,rfl⟩;unfold zQ7 at HN;rw[hix] at HIT his HN;have z1:¬(9223372036854775807<5+ix.size):=by omega
    have z2:¬(9223372036854775807<5+ix.size+1):=by omega
    clear hR HR2 he hix;go_wp2_with fail
    refine (HIT.out _ (HB1.out.alloc HB1.out.size _)).mono ?_;rintro e w2 ⟨rfl,hb2⟩;have HB2:Hid (Below w.heap.size w w2):=(HB1.out.alloc HB1.out.size _).trans (hb2.mono (by have:=HB1.out.size;simp;omega))
    clear hb2;go_wp2
    go_ret2
    rw[←HN.out];exact⟨rfl,HB2.out⟩
theorem zNE (u:Nat) (h:u<10):zBG (u:Int)=⟨#[UInt8.ofNat (48+u)]⟩:=by
 unfold zBG;rw[Lib.itoa_nonneg,Lib.decDigits_one h]
theorem zLu (u:Nat) (h:¬u<10):zBG (u:Int)=zBG ((u / 10:Nat):Int)++zBG ((u % 10:Nat):Int):=by
 unfold zBG;rw[Lib.itoa_nonneg,Lib.itoa_nonneg,Lib.itoa_nonneg,Lib.decDigits,dif_neg h,Lib.decDigits_one (i:=u % 10) (by omega)]
 apply ByteArray.ext;simp[ByteArray.data_append]
theorem zQ8 (u:Nat) (h:1≤u):zBG (-(u:Int))=(⟨#[45]⟩:ByteArray)++zBG (u:Int):=by
 unfold zBG;rw[Lib.itoa_nonneg,Lib.itoa_neg u h];apply ByteArray.ext;simp[ByteArray.data_append]
theorem zEn (n:Int) (hn:-1000000≤n∧n≤1000000):(zBG n).size≤21:=by
 have:=Lib.itoa_length_le n (by omega) (by omega)
 simpa[zBG,ByteArray.size] using this
theorem zIu (u:Nat) (h:u<10) (w:World) :
 Calls Tryz.prog 23 #[.int .i64 (u:Int)] w fun e w'=>e=.returned (.string (zBG (u:Int)))∧Below w.heap.size w w':=by
 rw[zNE u h];have h1:decide ((u:Int)<0)=false:=by simp
 have h2:decide ((u:Int)<10)=true:=by simp;omega
 have h3:IntKind.i64.wrap (48+(u:Int))=48+(u:Int):=by rw[IntKind.wrap_i64];omega
 have hby:Lib.Bytes (w.alloc (.cells #[.int .u8 (48+(u:Int))] 5)) w.heap.size 0 ⟨#[UInt8.ofNat (48+u)]⟩:=fun i hi=>by
  have:i=0:=by have:i<1:=hi;omega
  subst this;rw[Nat.add_zero,World.cell?_alloc_mark];show some (Value.int .u8 (48+(u:Int)))=some (.int .u8 (((UInt8.ofNat (48+u)).toNat:Nat):Int));have e:(((UInt8.ofNat (48+u)).toNat:Nat):Int)=48+(u:Int):=by rw[UInt8.toNat_ofNat'];omega
  rw[e]
 have hsD:(⟨#[UInt8.ofNat (48+u)]⟩:ByteArray).size=1:=rfl;obtain⟨D,hD⟩:∃D,(⟨#[UInt8.ofNat (48+u)]⟩:ByteArray)=D:=⟨_,rfl⟩;rw[hD] at hby hsD ⊢;have hcv:Sem.run Tryz.prog (convert 107 9 (.slice (some ⟨w.heap.size,0,none⟩) 1 1)) (w.alloc (.cells #[.int .u8 (48+(u:Int))] 5))=.ok (.string D) (w.alloc (.cells #[.int .u8 (48+(u:Int))] 5)):=by
  have:=Lib.run_convert_whole (P:=Tryz.prog) _ 107 5 9 (by kernel_rfl) Tryz.underlying5 Tryz.underlying9 w.heap.size 0 D hby 1
  rw[hsD] at this;exact this
 clear hby hD hsD;go_enter Tryz.func23,Tryz.ntmps23
 go_wp2
 go_ret
 exact⟨rfl,zAA _ _⟩
theorem zGl (u:Nat) (hu:u≤1000000):∀w:World,
 Calls Tryz.prog 23 #[.int .i64 (u:Int)] w fun e w'=>e=.returned (.string (zBG (u:Int)))∧Below w.heap.size w w':=by
 induction u using Nat.strongRecOn with
 | _ u ih =>
   intro w;by_cases h:u<10
   ·exact zIu u h w
   ·have HA:Hid (∀w:World,Calls Tryz.prog 23 #[.int .i64 ((u / 10:Nat):Int)] w fun e w'=>e=.returned (.string (zBG ((u / 10:Nat):Int)))∧Below w.heap.size w w'):=ih (u / 10) (by omega) (by omega)
    have HB:Hid (∀w:World,Calls Tryz.prog 23 #[.int .i64 ((u % 10:Nat):Int)] w fun e w'=>e=.returned (.string (zBG ((u % 10:Nat):Int)))∧Below w.heap.size w w'):=zIu (u % 10) (by omega)
    have s1:=zEn ((u / 10:Nat):Int) (by omega)
    have s2:=zEn ((u % 10:Nat):Int) (by omega)
    rw[zLu u h];obtain⟨A,hA⟩:∃A,zBG ((u / 10:Nat):Int)=A:=⟨_,rfl⟩;obtain⟨B,hB⟩:∃B,zBG ((u % 10:Nat):Int)=B:=⟨_,rfl⟩;rw[hA] at HA s1 ⊢;rw[hB] at HB s2 ⊢;have hsz:¬(9223372036854775807<A.size+B.size):=by omega
    have h1:decide ((u:Int)<0)=false:=by simp
    have h2:decide ((u:Int)<10)=false:=by simp;omega
    have h3:(u:Int).tdiv 10=((u / 10:Nat):Int):=rfl;have h4:(u:Int).tmod 10=((u % 10:Nat):Int):=rfl;clear hA hB ih s1 s2;go_enter Tryz.func23,Tryz.ntmps23
    go_wp2_with fail
    refine (HA.out _).mono ?_;rintro e w1 ⟨rfl,hb1⟩;go_wp2_with fail
    refine (HB.out _).mono ?_;rintro e w2 ⟨rfl,hb2⟩;go_wp2
    go_ret
    exact⟨rfl,hb1.trans (hb2.mono hb1.size)⟩
theorem zG8 (n:Int) (hn:-1000000≤n∧n≤1000000) (w:World) :
 Calls Tryz.prog 23 #[.int .i64 n] w fun e w'=>e=.returned (.string (zBG n))∧Below w.heap.size w w':=by
 by_cases h0:0≤n
 ·obtain⟨u,rfl⟩:∃u:Nat,n=(u:Int):=⟨n.toNat,by omega⟩
  exact zGl u (by omega) w
 ·obtain⟨u,rfl⟩:∃u:Nat,n=-(u:Int):=⟨(-n).toNat,by omega⟩
  have hu1:1≤u:=by omega
  have hul:u≤1000000:=by omega
  rw[zQ8 u hu1];have h1:decide (-(u:Int)<0)=true:=by simp;omega
  by_cases h:u<10
  ·have h2:decide (-(u:Int) > -10)=true:=by simp;omega
   have HA:Hid (∀w:World,Calls Tryz.prog 23 #[.int .i64 (u:Int)] w fun e w'=>e=.returned (.string (zBG (u:Int)))∧Below w.heap.size w w'):=zGl u hul
   have s1:=zEn (u:Int) (by omega)
   obtain⟨A,hA⟩:∃A,zBG (u:Int)=A:=⟨_,rfl⟩;rw[hA] at HA s1 ⊢;have hsz:¬(9223372036854775807<(⟨#[45]⟩:ByteArray).size+A.size):=by have:(⟨#[45]⟩:ByteArray).size=1:=rfl;omega
   have h3:IntKind.i64.wrap (- -(u:Int))=(u:Int):=by rw[IntKind.wrap_i64];omega
   have h3':IntKind.i64.wrap (u:Int)=(u:Int):=by rw[IntKind.wrap_i64];omega
   clear hA s1;go_enter Tryz.func23,Tryz.ntmps23
   go_wp2_with fail
   refine (HA.out _).mono ?_;rintro e w1 ⟨rfl,hb1⟩;go_wp2
   go_ret
   exact⟨rfl,hb1⟩
  ·have h2:decide (-(u:Int) > -10)=false:=by simp;omega
   have HA:Hid (∀w:World,Calls Tryz.prog 23 #[.int .i64 ((u / 10:Nat):Int)] w fun e w'=>e=.returned (.string (zBG ((u / 10:Nat):Int)))∧Below w.heap.size w w'):=zGl (u / 10) (by omega)
   have HB:Hid (∀w:World,Calls Tryz.prog 23 #[.int .i64 ((u % 10:Nat):Int)] w fun e w'=>e=.returned (.string (zBG ((u % 10:Nat):Int)))∧Below w.heap.size w w'):=zGl (u % 10) (by omega)
   have s1:=zEn ((u / 10:Nat):Int) (by omega)
   have s2:=zEn ((u % 10:Nat):Int) (by omega)
   rw[zLu u h];obtain⟨A,hA⟩:∃A,zBG ((u / 10:Nat):Int)=A:=⟨_,rfl⟩;obtain⟨B,hB⟩:∃B,zBG ((u % 10:Nat):Int)=B:=⟨_,rfl⟩;rw[hA] at HA s1 ⊢;rw[hB] at HB s2 ⊢;have hsz:¬(9223372036854775807<(⟨#[45]⟩:ByteArray).size+A.size):=by have:(⟨#[45]⟩:ByteArray).size=1:=rfl;omega
   have hsz2:¬(9223372036854775807<((⟨#[45]⟩:ByteArray)++A).size+B.size):=by have:(⟨#[45]⟩:ByteArray).size=1:=rfl;rw[ByteArray.size_append];omega
   have hap:(⟨#[45]⟩:ByteArray)++(A++B)=(⟨#[45]⟩:ByteArray)++A++B:=by apply ByteArray.ext;simp[ByteArray.data_append]
   rw[hap];have h3:(-(u:Int)).tdiv 10=-((u / 10:Nat):Int):=by rw[Int.neg_tdiv];rfl
   have h4:(-(u:Int)).tmod 10=-((u % 10:Nat):Int):=by rw[Int.neg_tmod];rfl
   have h5:IntKind.i64.wrap (- -((u / 10:Nat):Int))=((u / 10:Nat):Int):=by rw[IntKind.wrap_i64];omega
   have h6:IntKind.i64.wrap (- -((u % 10:Nat):Int))=((u % 10:Nat):Int):=by rw[IntKind.wrap_i64];omega
   clear hA hB s1 s2 hap;go_enter Tryz.func23,Tryz.ntmps23
   go_wp2_with fail
   refine (HA.out _).mono ?_;rintro e w1 ⟨rfl,hb1⟩;go_wp2_with fail
   refine (HB.out _).mono ?_;rintro e w2 ⟨rfl,hb2⟩;go_wp2
   go_ret
   exact⟨rfl,hb1.trans (hb2.mono hb1.size)⟩
end Go.Proofs.YtdjbejlbmaiocagGreatDoor
