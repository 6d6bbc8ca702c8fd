/- What the proof leans on, part 13. -/
import Derived.Test.YtdjbejlbmaiocagGreatDoorPartAl
import Derived.Test.YtdjbejlbmaiocagGreatDoorPartAi
import Derived.Test.YtdjbejlbmaiocagGreatDoorPartAh
import Derived.Test.YtdjbejlbmaiocagGreatDoorPartAe
import Derived.Deep.RegionHeld3
import Derived.Deep.RegionLaw
import Derived.Deep.OwnRows
import Derived.Deep.Onto
import Derived.Laws.EntriesVeiled
set_option maxRecDepth 100000
set_option maxHeartbeats 3200000
namespace Go.Proofs.YtdjbejlbmaiocagGreatDoor
open Go.RowKit
def zKP (N bs bm bc:Nat):Array Value:=#[.pointer (some ⟨bs,0,none⟩),.pointer (some ⟨bm,0,none⟩),.pointer (some ⟨bc,0,none⟩),.pointer (some ⟨N+1,0,none⟩),.pointer (some ⟨N+2,0,none⟩),.pointer (some ⟨N+3,0,none⟩)]
def u64s (l:List Nat):List Value:=l.map fun (z:Nat)=>Value.int .u64 (z:Int)
def PtsS (N bs bm bc:Nat) (m:Mod) (con:Nat) (vs cs sv:Value) (scope vals:List Int) (out:List Nat) (w:World):Prop :=
 N+4≤w.heap.size ∧
 Old N w (fun u=>MArg u vs cs m∧IArg u sv scope∧u.cell? ⟨bs,0,none⟩=some sv∧u.cell? ⟨bm,0,none⟩=some vs∧u.cell? ⟨bm,1,none⟩=some cs∧u.cell? ⟨bc,0,none⟩=some (.int .i64 con)) ∧
 w.ownsRow N 3 1 (.slice (some ⟨N,0,none⟩) vals.length vals.length) vals.length (vals.map (Value.int .i64)) ∧
 w.cell? ⟨N+1,0,none⟩=some (.slice (some ⟨N,0,none⟩) vals.length vals.length) ∧
 w.cell? ⟨N+3,0,none⟩=some (.func (.func 185) #[] (zKP N bs bm bc)) ∧
 ∃ov,w.ownsRow N 180 1 (.slice (some ⟨N+2,0,none⟩) 1 1) 1 [ov]∧w.ownsRow (N+4) 183 1 ov out.length (u64s out)
section
variable {N bs bm bc con:Nat} {m:Mod} {vs cs sv:Value} {scope vals:List Int} {out:List Nat} {w w':World}
theorem PtsS.below (h:PtsS N bs bm bc m con vs cs sv scope vals out w) (hb:Below w.heap.size w w'):PtsS N bs bm bc m con vs cs sv scope vals out w':=by
 obtain⟨h1,h2,h3,h4,h5,ov,h6,h7⟩:=h;exact⟨Nat.le_trans h1 hb.size,h2.below (hb.mono (by omega)),zAG h3 hb,(hb.cell (p:=⟨N+1,0,none⟩) (by simp only;omega)).trans h4,(hb.cell (p:=⟨N+3,0,none⟩) (by simp only;omega)).trans h5,ov,zAG h6 hb,zAG h7 hb⟩
theorem PtsS.old (h:PtsS N bs bm bc m con vs cs sv scope vals out w):MArg w vs cs m∧IArg w sv scope∧w.cell? ⟨bs,0,none⟩=some sv∧w.cell? ⟨bm,0,none⟩=some vs∧w.cell? ⟨bm,1,none⟩=some cs∧w.cell? ⟨bc,0,none⟩=some (.int .i64 con) ∧
 (bs<w.heap.size∧bm<w.heap.size∧bc<w.heap.size):=by
 obtain⟨_,⟨w0,g0,⟨g1,g2,g3,g4,g5,g6⟩,gb⟩,_⟩:=h;have l1:=World.block_lt_of_cell? w0 _ g3;have l2:=World.block_lt_of_cell? w0 _ g4;have l3:=World.block_lt_of_cell? w0 _ g6;have hs:=gb.size;simp only at l1 l2 l3;exact⟨MArg.below gb g1,IArg.below gb g2,(gb.cell (p:=⟨bs,0,none⟩) l1).trans g3,(gb.cell (p:=⟨bm,0,none⟩) l2).trans g4,(gb.cell (p:=⟨bm,1,none⟩) l2).trans g5,(gb.cell (p:=⟨bc,0,none⟩) l3).trans g6,by omega,by omega,by omega⟩
theorem PtsS.vals_arg (h:PtsS N bs bm bc m con vs cs sv scope vals out w):IArg w (.slice (some ⟨N,0,none⟩) vals.length vals.length) vals:=zNe h.2.2.1
theorem PtsS.set (h:PtsS N bs bm bc m con vs cs sv scope vals out w) (k:Nat) (x:Int) :
 PtsS N bs bm bc m con vs cs sv scope (vals.set k x) out (w.setCell ⟨N,k,none⟩ (.int .i64 x))∧Below N w (w.setCell ⟨N,k,none⟩ (.int .i64 x)):=by
 obtain⟨h1,h2,h3,h4,h5,ov,h6,h7⟩:=h;have hb:Below N w (w.setCell ⟨N,k,none⟩ (.int .i64 x)):=(Below.refl _ _).setCell (show N≤N from Nat.le_refl N) _
 have hk:∀g,g≠N→(w.setCell ⟨N,k,none⟩ (.int .i64 x)).heap[g]? = w.heap[g]? := fun g hg=>Below.heap_setCell _ _ _ _ (fun h=>hg h)
 refine⟨⟨by have:=hb.size;omega,h2.below hb,?_,?_,(World.cell?_of_block (hk _ (by simp only;omega))).trans h5,ov,zFs h6 fun g hg=>?_,zFs h7 fun g hg=>?_⟩,hb⟩
 ·rw[List.length_set,List.map_set]
  exact (h3.stored k (.int .i64 x)).1
 ·rw[List.length_set]
  exact (World.cell?_of_block (hk _ (by simp only;omega))).trans h4
 ·have hgn:g=N+2:=by injection hg with e;exact e.symm
  exact hk g (by omega)
 ·have:=(h7.lt g hg).1
  exact hk _ (by omega)
theorem PtsS.put {z:Nat} {v3 ov:Value} {w2:World} (h:PtsS N bs bm bc m con vs cs sv scope vals out w) (ho:w.ownsRow N 180 1 (.slice (some ⟨N+2,0,none⟩) 1 1) 1 [ov]) (hr:w.ownsRow (N+4) 183 1 ov out.length (u64s out))
 (hw:w2.ownsRow (N+4) 183 1 v3 (out++[z]).length (u64s (out++[z]))) (hg:w.grownBy w2 ov.ownBlock) :
 PtsS N bs bm bc m con vs cs sv scope vals (out++[z]) (w2.setCell ⟨N+2,0,none⟩ v3)∧Below N w (w2.setCell ⟨N+2,0,none⟩ v3):=by
 obtain⟨h1,h2,h3,h4,h5,_⟩:=h;have hov:∀g,ov.ownBlock=some g→N+4≤g:=fun g hg=>(hr.lt g hg).1
 have hb1:Below N w w2:=(Below.refl _ _).grown hg (by omega) (fun k hk=>by have:=hov k hk;omega)
 have hb:Below N w (w2.setCell ⟨N+2,0,none⟩ v3):=hb1.setCell (by simp only;omega) _
 have hk:∀g,g<N+4→g≠N+2→(w2.setCell ⟨N+2,0,none⟩ v3).heap[g]? = w.heap[g]? := fun g hgl hgn =>
  (Below.heap_setCell _ _ _ _ (fun h=>hgn h)).trans (hg.block g (by omega) (fun he=>by have:=hov g he.symm;omega))
 refine⟨⟨by have:=hg.size;simp;omega,h2.below hb,zFs h3 fun g hgg=>?_,(World.cell?_of_block (hk _ (by simp only;omega) (by simp only;omega))).trans h4,(World.cell?_of_block (hk _ (by simp only;omega) (by simp only;omega))).trans h5,v3,?_,zFs hw fun g hgg=>?_⟩,hb⟩
 ·have hgn:g=N:=by injection hgg with e;exact e.symm
  exact hk g (by omega) (by omega)
 ·have h6:w2.ownsRow N 180 1 (.slice (some ⟨N+2,0,none⟩) 1 1) 1 [ov]:=ho.kept hg (Or.inr fun he=>by have:=hov (N+2) he.symm;omega)
  exact (h6.stored 0 v3).1
 ·have:=(hw.lt g hgg).1
  exact Below.heap_setCell _ _ _ _ (fun h=>by simp only at h;omega)
end
theorem zIJ (vs:List MVar) (c:MCon):∀(r a b:List Int) (q:Nat),zDL r a b→zAs vs c r a q=zAs vs c r b q
 | [],a,b,q,h=>by
   unfold zAs;rw[show a=b from List.ext_getElem? fun w=>h.2 w (fun v hv=>by cases hv)]
 | v :: r,a,b,q,h=>by
   unfold zAs
   congr 1
   funext x
   exact zIJ vs c r _ _ _ (h.set x)
theorem zHM (vs:List MVar) (hv:zAd vs) (c:MCon):∀(r vals:List Int) (q:Nat),(zAs vs c r vals q).length≤6 ^ r.length
 | [],vals,q=>by
   unfold zAs
   split <;> simp
 | v :: r,vals,q=>by
   unfold zAs;have hs:(zGq (zAK vs v.toNat).lo (zAK vs v.toNat).hi).length≤6:=by
    have:=hv.2 v.toNat;unfold zB8 at this;unfold zGq;simp only[List.length_map,List.length_range];exact this
   have key:∀l:List Int,(l.flatMap fun x=>zAs vs c r (vals.set v.toNat x) (q ||| 2 ^ (6 * v.toNat+(x - (zAK vs v.toNat).lo).toNat))).length≤l.length * 6 ^ r.length:=by
    intro l
    induction l with
    | nil=>simp
    | cons a l ih =>
      rw[List.flatMap_cons,List.length_append,List.length_cons];have:=zHM vs hv c r (vals.set v.toNat a) (q ||| 2 ^ (6 * v.toNat+(a - (zAK vs v.toNat).lo).toNat))
      rw[Nat.add_mul];omega
   have h1:=key (zGq (zAK vs v.toNat).lo (zAK vs v.toNat).hi);have h2:(zGq (zAK vs v.toNat).lo (zAK vs v.toNat).hi).length * 6 ^ r.length≤6 * 6 ^ r.length:=Nat.mul_le_mul_right _ hs;rw[List.length_cons,Nat.pow_succ];omega
def ptsN (vs:List MVar) (c:MCon) (v:Nat) (r vals:List Int) (a:Nat) (lo:Int) (j:Nat):List Nat :=
 (List.range j).flatMap fun (i:Nat)=>zAs vs c r (vals.set v (lo+(i:Int))) (a ||| 2 ^ (6 * v+i))
theorem zLB (vs:List MVar) (c:MCon) (v:Nat) (r vals:List Int) (a:Nat) (lo:Int) (j:Nat):ptsN vs c v r vals a lo (j+1)=ptsN vs c v r vals a lo j++zAs vs c r (vals.set v (lo+(j:Int))) (a ||| 2 ^ (6 * v+j)):=by
 unfold ptsN;rw[List.range_succ,List.flatMap_append];simp
theorem zSB (vs:List MVar) (c:MCon) (v:Nat) (r vals:List Int) (a:Nat):ptsN vs c v r vals a (zAK vs v).lo (zB8 (zAK vs v))=zAs vs c ((v:Int) :: r) vals a:=by
 conv=>rhs;unfold zAs
 unfold ptsN zGq zB8;rw[List.flatMap_map,Int.toNat_natCast]
 congr 1
 funext i
 rw[show ((zAK vs v).lo+(i:Int) - (zAK vs v).lo).toNat=i by omega]
theorem zJf (vs:List MVar) (hv:zAd vs) (c:MCon) (v:Nat) (r vals:List Int) (a:Nat) (lo:Int):∀j,(ptsN vs c v r vals a lo j).length≤j * 6 ^ r.length
 | 0=>by simp[ptsN]
 | j+1=>by
   rw[zLB,List.length_append,Nat.add_mul];have h1:=zJf vs hv c v r vals a lo j;have h2:=zHM vs hv c r (vals.set v (lo+(j:Int))) (a ||| 2 ^ (6 * v+j))
   omega
theorem zLC (vs:List MVar) (hv:zAW vs) (c:MCon):∀(r vals:List Int) (a:Nat),(∀v∈r,0≤v∧v<(vs.length:Int))→a<2 ^ 36→∀p∈zAs vs c r vals a,p<2 ^ 36
 | [],vals,a,_,ha,p,hp=>by
   unfold zAs at hp
   split at hp
   ·rw[List.mem_singleton.1 hp];exact ha
   ·cases hp
 | v :: r,vals,a,hr,ha,p,hp=>by
   unfold zAs at hp;obtain⟨x,hx,hp⟩:=List.mem_flatMap.1 hp;obtain⟨h1,h2⟩:=(zEK _ _ _).1 hx;have hvr:=hr v (List.mem_cons_self ..);refine zLC vs hv c r _ _ (fun y hy=>hr y (List.mem_cons_of_mem _ hy)) (zIG ha (zKO vs hv v.toNat _ (by omega) ?_)) p hp
   unfold zB8;omega
theorem Tryz.infoInts:(Tryz.prog.info? 26).map (fun i=>(i.zero,i.size,i.bytes))=some (some (.slice none 0 0),1,24):=by kernel_rfl
theorem Tryz.infoInt:(Tryz.prog.info? 3).map (fun i=>(i.zero,i.size,i.bytes))=some (some (.int .i64 0),1,8):=by kernel_rfl
theorem Tryz.underStore:Tryz.prog.underlying 188=some (.slice 26):=by kernel_rfl
theorem zOh (n:Nat) (hn:n≤6) (w:World):∃w',Sem.run Tryz.prog (Instr.makeSlice 188 (.int .i64 (n:Int)) (.int .i64 (n:Int))) w=.ok (.slice (some ⟨w.heap.size,0,none⟩) n n) w' ∧
 (∀M,zMj w' w.heap.size w.heap.size n (List.replicate n (.slice none 0 0)) M 0)∧Below w.heap.size w w':=by
 obtain⟨i0,hi,hz0,hz1,hz2⟩:=info_parts Tryz.infoInts;obtain⟨w',hrun,hown,hg⟩:=run_makeSlice_full w w.heap.size 188 26 i0 (.slice none 0 0) 1 Tryz.underStore hi hz0 hz1 .i64 .i64 n (by omega) (by rw[hz2];omega) (by unfold maxLen;omega) (Nat.le_refl _)
 refine⟨w',hrun,fun M=>⟨?_,fun i r hi=>absurd hi (Nat.not_lt_zero _),fun i _ hn=>by simp[hn]⟩,(Below.refl _ _).grown hg (Nat.le_refl _) (fun k h=>by cases h)⟩
 have:(Value.slice none 0 0).cells=#[.slice none 0 0]:=rfl;rw[this,Nat.mul_one,toList_madeCells_one] at hown;exact hown
theorem zSC (w:World) (z:Int):∀(j:Nat) (u:Value),[Value.int .i64 z][j]? = some u→(w.alloc (.cells #[.int .i64 z] 3)).cell? ((⟨w.heap.size,0,none⟩:Addr).add j)=some u:=by
 intro j u hj
 match j,hj with
 | 0,hj=>simp at hj;subst hj;simp[Addr.add]
theorem Tryz.infoPart:(Tryz.prog.info? 183).map (fun i=>(i.zero,i.size,i.bytes))=some (some (.int .u64 0),1,8):=by kernel_rfl
theorem Tryz.underParts:Tryz.prog.underlying 180=some (.slice 183):=by kernel_rfl
theorem zLD (w:World) (z:Nat):∀(j:Nat) (u:Value),[Value.int .u64 (z:Int)][j]? = some u→(w.alloc (.cells #[.int .u64 (z:Int)] 183)).cell? ((⟨w.heap.size,0,none⟩:Addr).add j)=some u:=by
 intro j u hj
 match j,hj with
 | 0,hj=>simp at hj;subst hj;simp[Addr.add]
theorem zTU (N bs bm bc:Nat) (m:Mod) (con:Nat) (c:MCon) (vs cs sv:Value) (scope vals:List Int) (a:Nat) (out:List Nat) (w:World)
 (hc:m.cons[con]? = some c) (hce:conE vals.length c=0) (hvb:∀x∈vals,-50≤x∧x≤50) (hbud:out.length≤10000000)
 (hT:PtsS N bs bm bc m con vs cs sv scope vals out w) :
 Calls Tryz.prog 185 #[.int .i64 (scope.length:Int),.int .u64 (a:Int),.pointer (some ⟨bs,0,none⟩),.pointer (some ⟨bm,0,none⟩),.pointer (some ⟨bc,0,none⟩),.pointer (some ⟨N+1,0,none⟩),.pointer (some ⟨N+2,0,none⟩),.pointer (some ⟨N+3,0,none⟩)] w fun e w'=>e=.returned (.tuple #[]) ∧
  PtsS N bs bm bc m con vs cs sv scope vals (out++if zA0 c vals then [a] else []) w'∧Below N w w':=by
 obtain⟨hma,hia,d0,d1,d2,d3,l0,l1,l2⟩:=hT.old;obtain⟨⟨av,cv,rfl,_,_⟩,⟨ac,cc,hcs,hmc,hrc⟩⟩:=hma;subst hcs;obtain⟨asv,csv,hsv,hms,_⟩:=hia;subst hsv;obtain⟨bb,off,vv,vc,vr,vl,hax,hbb,c0,c1,c2,c3,c4,c5,hK⟩:=hrc con c hc;subst hax;have HK:Hid (∀w':World,Below w.heap.size w w'→KArg w' vv vc vr vl c):=fun w' h=>KArg.below h hK
 have HVA:Hid (∀w':World,Below w.heap.size w w'→IArg w' (.slice (some ⟨N,0,none⟩) vals.length vals.length) vals):=fun w' h=>IArg.below h hT.vals_arg
 obtain⟨⟨q1,r1,h1,_,_⟩,⟨q2,r2,h2,_,_⟩,⟨q3,r3,h3,_,_⟩,⟨q4,r4,h4,_,_⟩⟩:=hK;subst h1;subst h2;subst h3;subst h4;have hcon:con<m.cons.length:=(List.getElem?_eq_some_iff.1 hc).1;have d4:=hT.2.2.2.1;have l4:N+1<w.heap.size:=by have:=hT.1;omega
 have HNL:Hid (N≤w.heap.size):=by have:=hT.1;exact (by omega:N≤w.heap.size)
 have HT:Hid (PtsS N bs bm bc m con (.slice av m.vars.length cv) (.slice (some ⟨bb,off,none⟩) m.cons.length cc) (.slice asv scope.length csv) scope vals out w):=hT;have HVB:Hid (∀x∈vals,-50≤x∧x≤50):=hvb;have HCE:Hid (conE vals.length c=0):=hce;unfold maxLen at hmc hms;obtain⟨hmc1,hmc⟩:=hmc;obtain⟨hms1,hms⟩:=hms;obtain⟨i0,hi,hz0,hz1,hz2⟩:=info_parts Tryz.infoPart;obtain⟨O,hO⟩:∃O,(out++if zA0 c vals then [a] else [])=O:=⟨_,rfl⟩
 have HO:Hid ((out++if zA0 c vals then [a] else [])=O):=hO
 rw[hO];clear hT hvb hce hrc hc hO;go_enter Tryz.func185,Tryz.ntmps185
 go_wp2_with fail
 go_region_held3 (fun w'=>Below w.heap.size w w'∧w'.cell? ⟨bm,1,none⟩=some (.slice (some ⟨bb,off,none⟩) m.cons.length cc)∧w'.cell? ⟨bc,0,none⟩=some (.int .i64 con)∧w'.cell? ⟨bb,off+con * 6,none⟩=some (.int .i64 c.kind)∧w'.cell? ⟨bb,off+con * 6+1,none⟩=some (.slice q1 c.vars.length r1)∧w'.cell? ⟨bb,off+con * 6+2,none⟩=some (.slice q2 c.consts.length r2)∧w'.cell? ⟨bb,off+con * 6+3,none⟩=some (.int .i64 c.n)∧w'.cell? ⟨bb,off+con * 6+4,none⟩=some (.slice q3 c.rows.length r3)∧w'.cell? ⟨bb,off+con * 6+5,none⟩=some (.slice q4 c.lits.length r4)∧w'.cell? ⟨N+1,0,none⟩=some (.slice (some ⟨N,0,none⟩) vals.length vals.length))
  ((refine (fun (hB:Below w.heap.size w _)=>⟨hB,(hB.cell (p:=⟨bm,1,none⟩) l1).trans d2,(hB.cell (p:=⟨bc,0,none⟩) l2).trans d3,(hB.cell (p:=⟨bb,off+con * 6,none⟩) hbb).trans c0,(hB.cell (p:=⟨bb,off+con * 6+1,none⟩) hbb).trans c1,(hB.cell (p:=⟨bb,off+con * 6+2,none⟩) hbb).trans c2,(hB.cell (p:=⟨bb,off+con * 6+3,none⟩) hbb).trans c3,(hB.cell (p:=⟨bb,off+con * 6+4,none⟩) hbb).trans c4,(hB.cell (p:=⟨bb,off+con * 6+5,none⟩) hbb).trans c5,(hB.cell (p:=⟨N+1,0,none⟩) l4).trans d4⟩:Below w.heap.size w _→_) ?_;first | exact (Below.refl _ _).drew | exact hbq))
  (first
    | (go_at_call 54;refine (zHs c vals _ _ _ _ _ _ (HK.out _ (Below.refl _ _).drew) (HVA.out _ (Below.refl _ _).drew) HCE.out HVB.out).mono ?_;rintro e w1 ⟨rfl,hbr⟩;have hbq:Below w.heap.size w w1:=⟨hbr.os,hbr.tape,hbr.output,hbr.size,hbr.block⟩))
 have HT1:Hid (PtsS N bs bm bc m con (.slice av m.vars.length cv) (.slice (some ⟨bb,off,none⟩) m.cons.length cc) (.slice asv scope.length csv) scope vals out w1):=HT.out.below hbq;have hbN:Below N w w1:=hbq.mono HNL.out;clear hbr hbq c0 c1 c2 c3 c4 c5 d0 d1 d2 d3 d4 l0 l1 l2 l4 hbb;cases hq:zA0 c vals
 ·have HE:Hid (out=O):=by show _=_;have:=HO.out;rw[hq] at this;simpa using this
  clear hq;go_wp2
  (try simp only[Exit.inBlock,Exit.then])
  refine bodyPost_ret (results_none rfl _ _ _) rfl ?_;refine⟨rfl,?_,hbN⟩;rw[←HE.out];exact HT1.out
 ·have HE:Hid (out++[a]=O):=by show _=_;have:=HO.out;rw[hq] at this;simpa using this
  clear hq;obtain⟨hsz,_,_,_,_,ov,ho,hr⟩:=HT1.out;obtain⟨ax,cx,rfl⟩:=zAB hr;have hco:w1.cell? ⟨N+2,0,none⟩=some (.slice ax out.length cx):=ho.cellAt 0 (by omega)
  have hlo:N+2<w1.heap.size:=by omega
  go_wp2_with (at_builtin;refine wpList_append_own _ rfl _ _ 180 rfl (N+4) 183 i0 (.int .u64 0) 1 8 Tryz.underlying180 hi hz0 hz1 hz2 rfl (by decide) _ _ _ rfl (hr.alloc _) ⟨w1.heap.size,0,none⟩ 1 1 [.int .u64 (a:Int)] rfl rfl ?c1 ?c2 ?c3 ?c4 ?c5 ?_)
  case c1=>exact zLD w1 a
  case c2=>intro u hu;rcases List.mem_singleton.1 hu with rfl;rfl
  case c3=>unfold maxLen;omega
  case c4=>omega
  case c5=>simp;omega
  intro v3 w3 hown3 hgrow _;have hown4:w3.ownsRow (N+4) 183 1 v3 (out++[a]).length (u64s (out++[a])):=by
   unfold u64s;rw[List.length_append,List.map_append];exact hown3
  have HPUT:=(HT1.out.below (zAA _ _)).put (ho.alloc _) (hr.alloc _) hown4 hgrow;have HP:Hid (PtsS N bs bm bc m con (.slice av m.vars.length cv) (.slice (some ⟨bb,off,none⟩) m.cons.length cc) (.slice asv scope.length csv) scope vals (out++[a]) (w3.setCell ⟨N+2,0,none⟩ v3)):=HPUT.1;have HB4:Hid (Below N w (w3.setCell ⟨N+2,0,none⟩ v3)):=hbN.trans (((Below.refl _ _).alloc (by omega) _).trans HPUT.2)
  have ht3:w3.ownsRow N 180 1 (.slice (some ⟨N+2,0,none⟩) 1 1) 1 [.slice ax out.length cx]:=(ho.alloc _).kept hgrow (Or.inr (fun h=>by have:=(hr.lt (N+2) h.symm).1;omega))
  have hcB:w3.cell? ⟨N+2,0,none⟩=some (.slice ax out.length cx):=ht3.cellAt 0 (by omega)
  have hfB:w3.frozen? ⟨N+2,0,none⟩=false:=ht3.frozenAt 0;obtain⟨av',cv',rfl⟩:=zAB hown4;rw[show (out++[a]).length=out.length+1 by simp] at HP HB4
  clear hown3 hgrow hown4 hr ho hco ht3 HPUT;go_wp2
  (try simp only[Exit.inBlock,Exit.then])
  refine bodyPost_ret (results_none rfl _ _ _) rfl ?_;exact⟨rfl,by rw[←HE.out];exact HP.out,HB4.out⟩
theorem zQC {w:World} {b off c n:Nat} {l:List MVar} (h:VArg w (.slice (some ⟨b,off,none⟩) n c) l) (j:Nat) (hj:j<l.length) :
 b<w.heap.size∧w.cell? ⟨b,off+j * 3+1,none⟩=some (.int .i64 (zAK l j).lo)∧w.cell? ⟨b,off+j * 3+2,none⟩=some (.int .i64 (zAK l j).hi):=by
 obtain⟨a,c',hv,_,hr⟩:=h;obtain⟨_,b',off',ha,hb,_,c1,c2⟩:=hr j _ (zJe hj)
 injection hv with e1 _ _
 rw[ha] at e1;cases e1
 exact⟨hb,c1,c2⟩
theorem zTV (N bs bm bc:Nat) (m:Mod) (con:Nat) (c:MCon) (vs cs sv:Value) (scope:List Int) (hm:zAF m=0) (hc:m.cons[con]? = some c) (hsc:∀v∈scope,0≤v∧v<(m.vars.length:Int)) (hs8:scope.length≤8) :
 ∀(rest:List Int) (k:Nat) (vals:List Int) (a:Nat) (out:List Nat) (w:World),scope.drop k=rest→k≤scope.length→vals.length=m.vars.length→(∀x∈vals,-50≤x∧x≤50)→a<2 ^ 36→out.length+6 ^ rest.length≤10000000 →
  PtsS N bs bm bc m con vs cs sv scope vals out w →
  Calls Tryz.prog 185 #[.int .i64 k,.int .u64 a,.pointer (some ⟨bs,0,none⟩),.pointer (some ⟨bm,0,none⟩),.pointer (some ⟨bc,0,none⟩),.pointer (some ⟨N+1,0,none⟩),.pointer (some ⟨N+2,0,none⟩),.pointer (some ⟨N+3,0,none⟩)] w fun e w'=>e=.returned (.tuple #[]) ∧
   ∃vals',PtsS N bs bm bc m con vs cs sv scope vals' (out++zAs m.vars c rest vals a) w'∧vals'.length=m.vars.length∧(∀x∈vals',-50≤x∧x≤50)∧zDL rest vals vals'∧Below N w w':=by
 have HSC:Hid (∀v∈scope,0≤v∧v<(m.vars.length:Int)):=hsc;have HVA:Hid (zAW m.vars):=zDY m hm;have HCE:Hid (conE m.vars.length c=0):=zKw m hm con c hc;have HC:Hid (m.cons[con]? = some c):=hc;clear hsc hm hc;intro rest
 induction rest with
 | nil =>
   intro k vals a out w hdr hk hvl hvb ha hbud hT;have hks:k=scope.length:=by
    have:=congrArg List.length hdr;simp at this;omega
   subst hks;refine (zTU N bs bm bc m con c vs cs sv scope vals a out w HC.out (by rw[hvl];exact HCE.out) hvb (by simp at hbud;omega) hT).mono ?_
   rintro e w' ⟨rfl,h1,h2⟩;exact⟨rfl,vals,h1,hvl,hvb,zDL.refl _ _,h2⟩
 | cons v rest ih =>
   intro k vals a out w hdr hk hvl hvb ha hbud hT;have hkl:k<scope.length:=by
    have:=congrArg List.length hdr;simp at this;omega
   have hkv:scope[k]? = some v:=by
    have h:=congrArg (fun q:List Int=>q[0]?) hdr
    simpa using h
   have hdr2:scope.drop (k+1)=rest:=by
    have h:=congrArg List.tail hdr;simpa using h
   obtain⟨hv0,hv1⟩:=HSC.out v (List.mem_of_getElem? hkv);obtain⟨j,rfl⟩:∃j:Nat,v=(j:Int):=⟨v.toNat,by omega⟩
   have hjs:j<m.vars.length:=by omega
   obtain⟨hma,hia,d0,d1,_,_,_,_,_⟩:=hT.old;obtain⟨⟨av,cv,hvs,hmv,hrv⟩,_⟩:=hma;obtain⟨_,b,off,hav,hbv,_,f1,f2⟩:=hrv j _ (zJe hjs);subst hav;subst hvs;obtain⟨asv,csv,hsv,hms,hscell⟩:=hia;obtain⟨b2,o2,has,hb2,e0⟩:=hscell k _ hkv;subst has;subst hsv;unfold maxLen at hms hmv;obtain⟨hms1,hms⟩:=hms;obtain⟨hmv1,hmv⟩:=hmv;obtain⟨lo,hlo⟩:∃lo,(zAK m.vars j).lo=lo:=⟨_,rfl⟩;obtain⟨hi,hhi⟩:∃hi,(zAK m.vars j).hi=hi:=⟨_,rfl⟩;obtain⟨n,hn⟩:∃n,zB8 (zAK m.vars j)=n:=⟨_,rfl⟩;have HLO:Hid ((zAK m.vars j).lo=lo):=hlo;have HHI:Hid ((zAK m.vars j).hi=hi):=hhi;have hbn:=HVA.out.2 j hjs;have hn6:n≤6:=by rw[←hn];exact HVA.out.1.2 j
   have hnn:(n:Int)=hi+1 - lo:=by rw[←hn,←hlo,←hhi];unfold zB8;omega
   rw[hlo] at f1 hbn;rw[hhi] at f2 hbn;have H6:Hid (m.vars.length≤6):=HVA.out.1.1;have HT:Hid (PtsS N bs bm bc m con (.slice (some ⟨b,off,none⟩) m.vars.length cv) cs (.slice (some ⟨b2,o2,none⟩) scope.length csv) scope vals out w):=hT;have HVB:Hid (∀x∈vals,-50≤x∧x≤50):=hvb;have HVL:Hid (vals.length=m.vars.length):=hvl;have HA:Hid (a<2 ^ 36):=ha;have HALL:Hid (ptsN m.vars c j rest vals a lo n=zAs m.vars c ((j:Int) :: rest) vals a):=by show _=_;rw[←hlo,←hn];exact zSB m.vars c j rest vals a
   obtain⟨X,hX⟩:∃X,6 ^ rest.length=X:=⟨_,rfl⟩;have hbud2:out.length+6 * X≤10000000:=by
    rw[List.length_cons,Nat.pow_succ] at hbud;omega
   have HCNT:Hid (∀jj,(ptsN m.vars c j rest vals a lo jj).length≤jj * X):=fun jj=>by rw[←hX];exact zJf m.vars HVA.out.1 c j rest vals a lo jj
   have HIH:Hid (∀(vals:List Int) (a:Nat) (out:List Nat) (w:World),vals.length=m.vars.length→(∀x∈vals,-50≤x∧x≤50)→a<2 ^ 36→out.length+X≤10000000 →
    PtsS N bs bm bc m con (.slice (some ⟨b,off,none⟩) m.vars.length cv) cs (.slice (some ⟨b2,o2,none⟩) scope.length csv) scope vals out w →
    Calls Tryz.prog 185 #[.int .i64 ((k:Int)+1),.int .u64 a,.pointer (some ⟨bs,0,none⟩),.pointer (some ⟨bm,0,none⟩),.pointer (some ⟨bc,0,none⟩),.pointer (some ⟨N+1,0,none⟩),.pointer (some ⟨N+2,0,none⟩),.pointer (some ⟨N+3,0,none⟩)] w fun e w'=>e=.returned (.tuple #[]) ∧
     ∃vals',PtsS N bs bm bc m con (.slice (some ⟨b,off,none⟩) m.vars.length cv) cs (.slice (some ⟨b2,o2,none⟩) scope.length csv) scope vals' (out++zAs m.vars c rest vals a) w'∧vals'.length=m.vars.length∧(∀x∈vals',-50≤x∧x≤50)∧zDL rest vals vals'∧Below N w w'):=by
    intro vals1 a1 out1 w1 q1 q2 q3 q4 q5;exact ih (k+1) vals1 a1 out1 w1 hdr2 (by omega) q1 q2 q3 (by rw[hX];exact q4) q5
   have HONE:Hid (∀(jj:Nat) (w':World),jj<n→VArg w' (.slice (some ⟨b,off,none⟩) m.vars.length cv) m.vars→Calls Tryz.prog 186 #[.slice (some ⟨b,off,none⟩) m.vars.length cv,.int .i64 j,.int .i64 (lo+(jj:Int))] w' fun e w''=>e=.returned (.int .u64 ((2 ^ (6 * j+jj):Nat):Int))∧w''=w'):=by
    intro jj w' hjj hva';have h1:=zP9 m.vars HVA.out.1 j (lo+(jj:Int)) _ w' hva' hjs (by rw[HLO.out];omega) (by rw[HHI.out];omega) (by rw[HLO.out,HHI.out];omega)
    rw[HLO.out,show (lo+(jj:Int) - lo).toNat=jj by omega] at h1
    exact h1
   have HPOW:Hid (∀jj,jj<n→2 ^ (6 * j+jj)<2 ^ 36):=fun jj hjj=>zKO m.vars HVA.out j jj hjs (by omega)
   have g0:((k:Int)==(scope.length:Int))=false:=by simp;omega
   have hlt8:k<8:=by omega
   clear hT hvb hdr hvl hbud hrv hscell ih hX hdr2 hkv hv0 hv1 hlo hhi hn ha;go_enter Tryz.func185,Tryz.ntmps185
   go_wp2_with fail
   clear d0 d1 e0 f1 f2;go_loopw [11] (fun i wr=>∃(jj:Nat) (vals':List Int),jj≤n∧i=.int .i64 (lo+(jj:Int))∧PtsS N bs bm bc m con (.slice (some ⟨b,off,none⟩) m.vars.length cv) cs (.slice (some ⟨b2,o2,none⟩) scope.length csv) scope vals' (out++ptsN m.vars c j rest vals a lo jj) wr∧Hid (vals'.length=m.vars.length∧(∀x∈vals',-50≤x∧x≤50)∧zDL ((j:Int) :: rest) vals vals')∧Below N w wr) (fun i _=>(hi+1 - intOf i).toNat)
   case atStart=>exact⟨0,vals,by omega,by simp,by simpa[ptsN] using HT.out,⟨HVL.out,HVB.out,zDL.refl _ _⟩,Below.refl _ _⟩
   case round =>
    obtain⟨jj,vals',hjj,rfl,hTr,hH,hbw⟩:=hrel;have HTR:Hid (PtsS N bs bm bc m con (.slice (some ⟨b,off,none⟩) m.vars.length cv) cs (.slice (some ⟨b2,o2,none⟩) scope.length csv) scope vals' (out++ptsN m.vars c j rest vals a lo jj) wr):=hTr;have HBW:Hid (Below N w wr):=hbw;clear hTr hbw;obtain⟨hma,_,_,d1,_,_,_,lm,_⟩:=HTR.out.old;obtain⟨lb,f1,f2⟩:=zQC hma.1 j hjs;rw[HLO.out] at f1;rw[HHI.out] at f2;clear hma;by_cases hlt:jj<n
    ·have hle:lo+(jj:Int)≤hi:=by omega
     have hjv:j<vals'.length:=by rw[hH.out.1];exact hjs
     have d4:=HTR.out.2.2.2.1;have HOW:=HTR.out.2.2.1;have hNl:N+4≤wr.heap.size:=HTR.out.1;obtain⟨y,hy⟩:∃y,vals'[j]? = some y:=⟨vals'[j],by simp[hjv]⟩
     have cN:wr.cell? ⟨N,j,none⟩=some (.int .i64 y):=by rw[HOW.cellAt j (by omega),List.getElem?_map,hy];rfl
     have zN:=HOW.frozenAt j;have HSET:=HTR.out.set j (lo+(jj:Int));have hxb:-50≤lo+(jj:Int)∧lo+(jj:Int)≤50:=by omega
     have HST:Hid (PtsS N bs bm bc m con (.slice (some ⟨b,off,none⟩) m.vars.length cv) cs (.slice (some ⟨b2,o2,none⟩) scope.length csv) scope (vals'.set j (lo+(jj:Int))) (out++ptsN m.vars c j rest vals a lo jj) (wr.setCell ⟨N,j,none⟩ (.int .i64 (lo+(jj:Int))))):=HSET.1;have HSB:Hid (Below N w (wr.setCell ⟨N,j,none⟩ (.int .i64 (lo+(jj:Int))))):=HBW.out.trans HSET.2;have HV1:Hid ((vals'.set j (lo+(jj:Int))).length=m.vars.length):=by show _=_;rw[List.length_set];exact hH.out.1
     have HV2:Hid (∀y∈vals'.set j (lo+(jj:Int)),-50≤y∧y≤50):=zOg _ _ _ hH.out.2.1 hxb;have HBU:Hid ((out++ptsN m.vars c j rest vals a lo jj).length+X≤10000000):=by
      have h1:=HCNT.out jj;have h2:jj * X≤5 * X:=Nat.mul_le_mul_right _ (by omega)
      show _≤_;rw[List.length_append];omega
     have HNX:Hid (ptsN m.vars c j rest vals a lo (jj+1)=ptsN m.vars c j rest vals a lo jj++zAs m.vars c rest (vals'.set j (lo+(jj:Int))) (a ||| 2 ^ (6 * j+jj))):=by
      show _=_;rw[zLB]
      congr 1
      have h:=(hH.out.2.2).set (lo+(jj:Int));exact zIJ m.vars c rest _ _ _ h
     have HAG:Hid (zDL ((j:Int) :: rest) vals (vals'.set j (lo+(jj:Int)))):=(hH.out.2.2).trans (zDL.of_set rest vals' (j:Int) (lo+(jj:Int)));have hp36:=HPOW.out jj hlt;obtain⟨t,ht⟩:∃t,2 ^ (6 * j+jj)=t:=⟨_,rfl⟩;have HO1:=HONE.out jj;rw[ht] at hp36 HNX HO1;have HON:Hid (∀(w':World),VArg w' (.slice (some ⟨b,off,none⟩) m.vars.length cv) m.vars→Calls Tryz.prog 186 #[.slice (some ⟨b,off,none⟩) m.vars.length cv,.int .i64 j,.int .i64 (lo+(jj:Int))] w' fun e w''=>e=.returned (.int .u64 (t:Int))∧w''=w'):=fun w' h=>HO1 w' hlt h
     have hor:=bits_or_u64_nat a t (by have:=HA.out;omega) (by omega)
     obtain⟨a2,ha2⟩:∃a2,a ||| t=a2:=⟨_,rfl⟩
     have HA2:Hid (a2<2 ^ 36):=by rw[←ha2];exact zIG HA.out hp36
     rw[ha2] at hor HNX;clear hy HOW HSET hH hxb ht HO1 hp36 ha2;go_wp2_with fail
     obtain⟨W2,hW2⟩:∃W2,wr.setCell ⟨N,j,none⟩ (.int .i64 (lo+(jj:Int)))=W2:=⟨_,rfl⟩;rw[hW2] at HST HSB ⊢;clear hW2 d1 f1 f2 d4 cN zN lm lb hNl;obtain⟨hma,_,_,d1,_,_,_,lm,_⟩:=HST.out.old;have d5:=HST.out.2.2.2.2.1;unfold zKP at d5;have HMV:Hid (VArg W2.drew (.slice (some ⟨b,off,none⟩) m.vars.length cv) m.vars):=VArg.below (Below.refl _ _).drew hma.1;have HSTD:Hid (PtsS N bs bm bc m con (.slice (some ⟨b,off,none⟩) m.vars.length cv) cs (.slice (some ⟨b2,o2,none⟩) scope.length csv) scope (vals'.set j (lo+(jj:Int))) (out++ptsN m.vars c j rest vals a lo jj) W2.drew):=HST.out.below (Below.refl _ _).drew;clear hma;have hwk:IntKind.i64.wrap ((k:Int)+1)=(k:Int)+1:=by simp[IntKind.wrap,IntKind.signed,IntKind.bits];omega
     go_region_held3 (fun w'=>w'.cell? ⟨N+3,0,none⟩=some (.func (.func 185) #[] #[.pointer (some ⟨bs,0,none⟩),.pointer (some ⟨bm,0,none⟩),.pointer (some ⟨bc,0,none⟩),.pointer (some ⟨N+1,0,none⟩),.pointer (some ⟨N+2,0,none⟩),.pointer (some ⟨N+3,0,none⟩)])∧w'.cell? ⟨bm,0,none⟩=some (.slice (some ⟨b,off,none⟩) m.vars.length cv))
      (first | exact⟨d5,d1⟩ | assumption | exact⟨hd5,hd1⟩)
      (first
        | (go_at_call 186;refine (HON.out _ HMV.out).mono ?_;rintro e w2 ⟨rfl,rfl⟩)
        | (go_at_call 185;refine (HIH.out _ _ _ _ HV1.out HV2.out HA2.out HBU.out HSTD.out).mono ?_;rintro e w2 ⟨rfl,v2,hT2,hl2,hb2',hag2,hbN2⟩;have hd5:=hT2.2.2.2.2.1;unfold zKP at hd5;have hd1:=hT2.old.2.2.2.1))
     ·have HT2:Hid (PtsS N bs bm bc m con (.slice (some ⟨b,off,none⟩) m.vars.length cv) cs (.slice (some ⟨b2,o2,none⟩) scope.length csv) scope v2 (out++ptsN m.vars c j rest vals a lo (jj+1)) w2):=by
       rw[HNX.out,←List.append_assoc];exact hT2
      have HH2:Hid (v2.length=m.vars.length∧(∀x∈v2,-50≤x∧x≤50)∧zDL ((j:Int) :: rest) vals v2):=⟨hl2,hb2',HAG.out.trans (zDL.cons _ hag2)⟩;have HB2:Hid (Below N w w2):=HSB.out.trans ((Below.refl _ _).drew.trans hbN2);clear hT2 hl2 hb2' hag2 hbN2 hd5 hd1;go_wp2
      go_roundw
      case rel=>exact⟨jj+1,v2,by omega,by go_num,HT2.out,HH2,HB2.out⟩
      case measure=>simp[intOf];omega
    ·have hle:¬(lo+(jj:Int)≤hi):=by omega
     have hje:jj=n:=by omega
     have HF:Hid (PtsS N bs bm bc m con (.slice (some ⟨b,off,none⟩) m.vars.length cv) cs (.slice (some ⟨b2,o2,none⟩) scope.length csv) scope vals' (out++zAs m.vars c ((j:Int) :: rest) vals a) wr):=by
      have h:=HTR.out;rw[hje,HALL.out] at h;exact h
     clear hje;go_wp2
     go_end0
     exact⟨rfl,vals',HF.out,hH.out.1,hH.out.2.1,hH.out.2.2,HBW.out⟩
theorem zEh {w:World} {base:Nat} {v:Value} {l:List Nat} (h:w.ownsRow base 183 1 v l.length (u64s l)) (hl:∀z∈l,z<2 ^ 36):PArg w v l:=by
 rcases h.2 with ⟨rfl,hn⟩ | ⟨g,cap,cur,rfl,hg,hh,hc1,hc2,_,_⟩
 ·have:l=[]:=List.eq_nil_of_length_eq_zero hn
  subst this;exact⟨none,0,rfl,⟨Nat.le_refl _,Nat.zero_le _⟩,fun i z hz=>by simp at hz⟩
 ·refine⟨_,cap,rfl,⟨hc1,hc2⟩,fun i z hz=>⟨hl z (List.mem_of_getElem? hz),g,0,rfl,(Array.getElem?_eq_some_iff.1 hh).1,?_⟩⟩
  have hi:i<l.length:=(List.getElem?_eq_some_iff.1 hz).1;rw[Nat.zero_add,h.cellAt i (by omega)]
  unfold u64s;rw[List.getElem?_map,hz];rfl
theorem zMk (m:Mod) (hm:zAF m=0) (j:Nat) (c:MCon) (hc:m.cons[j]? = some c):(zBN c).length≤8:=by
 obtain⟨hn4,hl4,_,_⟩:=zKK c (zGM _ _ (zKw m hm j c hc)).2.1;have h1:=zHt (zF0 (zCt c));rw[zFC] at h1;show (zHb (zF0 (zCt c))).length≤8;have h2:(zCt c).length=c.vars.length+c.lits.length:=by simp[zCt]
 omega
theorem Tryz.infoIntF:(Tryz.prog.info? 3).map (fun i=>(i.zero,i.size,i.bytes))=some (some (.int .i64 0),1,8):=by kernel_rfl
theorem Tryz.underIntsF:Tryz.prog.underlying 26=some (.slice 3):=by kernel_rfl
theorem zQD (w:World) (n base:Nat) (hn:n≤6) (hb:base≤w.heap.size):(w.alloc (.cells (madeCells #[.int .i64 0] n) 3)).ownsRow base 3 1 (.slice (some ⟨w.heap.size,0,none⟩) n n) n ((zBs n).map (Value.int .i64)):=by
 refine⟨by simp[zBs],Or.inr ⟨w.heap.size,n,_,rfl,hb,heap_alloc_new w _,Nat.le_refl _,by unfold maxLen;omega,?_,?_⟩⟩
 ·have h:=congrArg List.length (toList_madeCells_one (.int .i64 0) n)
  simp at h;simpa using h
 ·rw[toList_madeCells_one]
  simp[zBs]
def zER (N bs bm bc n:Nat) (W:World):World:=(((W.alloc (.cells (madeCells #[.int .i64 0] n) 3)).alloc (.cells #[.slice (some ⟨N,0,none⟩) n n] 26)).alloc (.cells #[.slice none 0 0] 180)).alloc (.cells #[.func (.func 185) #[] (zKP N bs bm bc)] 231)
theorem zTW {W:World} {N bs bm bc con n:Nat} {m:Mod} {vs cs sv:Value} {scope:List Int} (hN:W.heap.size=N) (hn:n≤6)
 (hW:MArg W vs cs m∧IArg W sv scope∧W.cell? ⟨bs,0,none⟩=some sv∧W.cell? ⟨bm,0,none⟩=some vs∧W.cell? ⟨bm,1,none⟩=some cs∧W.cell? ⟨bc,0,none⟩=some (.int .i64 con)) :
 PtsS N bs bm bc m con vs cs sv scope (zBs n) [] (zER N bs bm bc n W)∧Below N W (zER N bs bm bc n W):=by
 subst hN;have hzl:(zBs n).length=n:=by simp[zBs]
 have r1:=zQD W n W.heap.size hn (Nat.le_refl _);have r3:=World.ownsRow_lit (base:=W.heap.size) (e:=180) (size:=1) ((W.alloc (.cells (madeCells #[.int .i64 0] n) 3)).alloc (.cells #[.slice (some ⟨W.heap.size,0,none⟩) n n] 26)) #[.slice none 0 0] 1 (by simp;omega) (by unfold maxLen;omega) rfl
 have e3:((W.alloc (.cells (madeCells #[.int .i64 0] n) 3)).alloc (.cells #[.slice (some ⟨W.heap.size,0,none⟩) n n] 26)).heap.size=W.heap.size+2:=by simp
 rw[e3] at r3;have hsz:(zER W.heap.size bs bm bc n W).heap.size=W.heap.size+4:=by unfold zER;simp
 have hb:Below W.heap.size W (zER W.heap.size bs bm bc n W):=(((zAA _ _).alloc (by simp) _).alloc (by simp;omega) _).alloc (by simp;omega) _
 have q1:(zER W.heap.size bs bm bc n W).ownsRow W.heap.size 3 1 (.slice (some ⟨W.heap.size,0,none⟩) n n) n ((zBs n).map (Value.int .i64)):=((r1.alloc _).alloc _).alloc _;refine⟨⟨by omega,⟨W,Nat.le_refl _,hW,hb⟩,by rw[hzl];exact q1,?_,?_,.slice none 0 0,r3.alloc _,World.ownsRow_nil _ _ _ _⟩,hb⟩
 ·rw[hzl]
  unfold zER;rw[World.cell?_alloc_past _ _ _ (by simp),World.cell?_alloc_past _ _ _ (by simp)]
  exact World.cell?_alloc_at _ _ _ 0 (by simp)
 ·unfold zER
  exact World.cell?_alloc_at _ _ _ 0 (by simp)
theorem zJg (m:Mod) (con:Nat) (c:MCon) (vs cs:Value) (w:World) (hm:zAF m=0) (hc:m.cons[con]? = some c) (hma:MArg w vs cs m) :
 Calls Tryz.prog 127 #[modV vs cs m,.int .i64 con] w fun e w'=>∃x,e=.returned x∧w'.ownsRow w.heap.size 183 1 x (zAM m.vars c).length (u64s (zAM m.vars c))∧Below w.heap.size w w':=by
 have HMA:Hid (∀w',Below w.heap.size w w'→MArg w' vs cs m):=fun w' h=>MArg.below h hma
 have HM:Hid (zAF m=0):=hm;have HC:Hid (m.cons[con]? = some c):=hc;have H6:m.vars.length≤6:=(zA9 m hm).2.1;have hcon:con<m.cons.length:=(List.getElem?_eq_some_iff.1 hc).1;have HSC:Hid (zK1 m (con:Int)=(zBN c,0)):=by
  show _=_;have h1:zDX m (con:Int)=0:=by unfold zDX;rw[if_pos hm,if_neg (by omega)]
  unfold zK1;rw[if_pos h1,Int.toNat_natCast,List.getD_eq_getElem?_getD,hc];rfl
 have hmk:=run_make_row' (P:=Tryz.prog) 26 3 (.int .i64 0) 8 Tryz.underIntsF Tryz.infoIntF rfl .i64 .i64 m.vars.length (by omega) (by omega)
 obtain⟨⟨a1,c1,rfl,hm1,_⟩,⟨a2,c2,rfl,_,_⟩⟩:=hma;unfold maxLen at hm1;obtain⟨hm11,hm1⟩:=hm1;unfold modV;clear hm hc;go_enter Tryz.func127,Tryz.ntmps127
 go_wp2_with fail
 refine (zOV m (con:Int) _ _ _ (HMA.out _ ((zAA _ _).alloc (by simp) _))).mono ?_
 rw[HSC.out];rintro e w1 ⟨x,rfl,hx,hb1⟩;have hbw:Below w.heap.size w w1:=((zAA _ _).alloc (by simp) _).trans (hb1.mono (by simp;omega))
 have hq0:w1.cell? ⟨w.heap.size,0,none⟩=some (.slice a1 m.vars.length c1):=(hb1.cell (by simp;omega)).trans ((World.cell?_alloc_past _ _ _ (by simp)).trans (World.cell?_alloc_at _ _ _ 0 (by simp)))
 have hq1:w1.cell? ⟨w.heap.size,1,none⟩=some (.slice a2 m.cons.length c2):=(hb1.cell (by simp;omega)).trans ((World.cell?_alloc_past _ _ _ (by simp)).trans (World.cell?_alloc_at _ _ _ 1 (by simp)))
 have hq2:w1.cell? ⟨w.heap.size+1,0,none⟩=some (.int .i64 con):=(hb1.cell (by simp)).trans (World.cell?_alloc_at _ _ _ 0 (by simp))
 have hl0:w.heap.size+1<w1.heap.size:=by have:=hb1.size;simp at this;omega
 have hl1:w.heap.size<w1.heap.size:=by omega
 have HX:Hid (IArg w1 x (zBN c)):=hx;obtain⟨ax,cx,rfl,_,_⟩:=hx;have HBW:Hid (Below w.heap.size w w1):=hbw;have HSCI:Hid (∀v∈zBN c,0≤v∧v<(m.vars.length:Int)):=(zFd m HM.out con c HC.out).1;have HS8:Hid ((zBN c).length≤8):=zMk m HM.out con c HC.out;have HPN:Hid (_):=zTW (W:=w1.alloc (.cells #[.slice ax (zBN c).length cx] 26)) (N:=w1.heap.size+1) (bs:=w1.heap.size) (bm:=w.heap.size) (bc:=w.heap.size+1) (con:=con) (n:=m.vars.length) (m:=m) (scope:=zBN c) (by simp) H6
  ⟨HMA.out _ (HBW.out.alloc HBW.out.size _),IArg.below (zAA _ _) HX.out,World.cell?_alloc_at _ _ _ 0 (by simp),(World.cell?_alloc_past _ _ _ hl1).trans hq0,(World.cell?_alloc_past _ _ _ hl1).trans hq1,(World.cell?_alloc_past _ _ _ hl0).trans hq2⟩
 clear hb1 hbw;go_wp2_with fail
 have HB5:Hid (Below w.heap.size w (zER (w1.heap.size+1) w1.heap.size w.heap.size (w.heap.size+1) m.vars.length (w1.alloc (.cells #[.slice ax (zBN c).length cx] 26)))):=(HBW.out.alloc HBW.out.size _).trans (HPN.out.2.mono (by have:=HBW.out.size;omega))
 have HZL:Hid ((zBs m.vars.length).length=m.vars.length):=by show _=_;simp[zBs]
 refine (zTV (w1.heap.size+1) w1.heap.size w.heap.size (w.heap.size+1) m con c _ _ _ (zBN c) HM.out HC.out HSCI.out HS8.out (zBN c) 0 (zBs m.vars.length) 0 [] (zER (w1.heap.size+1) w1.heap.size w.heap.size (w.heap.size+1) m.vars.length (w1.alloc (.cells #[.slice ax (zBN c).length cx] 26))) rfl (Nat.zero_le _) HZL.out (fun x hx=>by have:=List.eq_of_mem_replicate hx;omega) (by omega) ?_ HPN.out.1).mono ?_
 ·have h2:6 ^ (zBN c).length≤6 ^ 8:=Nat.pow_le_pow_right (by omega) HS8.out
  simp only[List.length_nil];omega
 rintro e w2 ⟨rfl,vals',hT2,_,_,_,hb2⟩;have HB6:Hid (Below w.heap.size w w2):=HB5.out.trans (hb2.mono (by have:=HBW.out.size;omega))
 obtain⟨hsz,_,_,_,_,ov,ho,hr⟩:=hT2;have HPA:Hid (w2.ownsRow w.heap.size 183 1 ov (zAM m.vars c).length (u64s (zAM m.vars c))):=World.ownsRow.mono hr (by have:=HBW.out.size;omega)
 obtain⟨ao,co,rfl⟩:=zAB hr;have hco:w2.cell? ⟨w1.heap.size+1+1+1,0,none⟩=some (.slice ao ([]++zAs m.vars c (zBN c) (zBs m.vars.length) 0).length co):=ho.cellAt 0 (by omega)
 have hlo:w1.heap.size+1+1+1<w2.heap.size:=by omega
 clear hr ho hb2 HPN;go_wp2
 go_ret
 exact⟨_,rfl,HPA.out,HB6.out⟩
theorem zJh (m:Mod) (hm:zAF m=0) (j:Nat) (c:MCon) (hc:m.cons[j]? = some c):∀z∈zAM m.vars c,z<2 ^ 36:=zLC m.vars (zDY m hm) c _ _ _ (zFd m hm j c hc).1 (by omega)
end Go.Proofs.YtdjbejlbmaiocagGreatDoor
