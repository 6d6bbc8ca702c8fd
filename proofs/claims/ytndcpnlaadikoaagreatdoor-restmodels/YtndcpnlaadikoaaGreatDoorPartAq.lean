/- What the proof leans on, part 17. -/
import Derived.Test.YtndcpnlaadikoaaGreatDoorPartAp
import Derived.Test.YtndcpnlaadikoaaGreatDoorPartAo
import Derived.Test.YtndcpnlaadikoaaGreatDoorPartAa
import Derived.Shelf.Spec.TrailingZeros
import Derived.Lib.SliceRun
import Derived.Deep.Onto
import Derived.Test.YtndcpnlaadikoaaGreatDoorPartAl
set_option maxRecDepth 100000
set_option maxHeartbeats 1600000
namespace Go.Proofs.YtndcpnlaadikoaaGreatDoor
open Go.RowKit
def zJh (N bs bm bc:Nat):Array Value:=#[.pointer (some ⟨bs,0,none⟩),.pointer (some ⟨bm,0,none⟩),.pointer (some ⟨bc,0,none⟩),.pointer (some ⟨N+1,0,none⟩),.pointer (some ⟨N+2,0,none⟩),.pointer (some ⟨N+3,0,none⟩)]
def u64s (l:List Nat):List Value:=l.map fun (z:Nat)=>Value.int .u64 (z:Int)
def PtsS (N bs bm bc:Nat) (m:Mod) (con:Nat) (vs cs sv:Value) (scope vals:List Int) (out:List Nat) (w:World):Prop :=
 N+4≤w.heap.size ∧
 Old N w (fun u=>MArg u vs cs m∧IArg u sv scope∧u.cell? ⟨bs,0,none⟩=some sv∧u.cell? ⟨bm,0,none⟩=some vs∧u.cell? ⟨bm,1,none⟩=some cs∧u.cell? ⟨bc,0,none⟩=some (.int .i64 con)) ∧
 w.ownsRow N 3 1 (.slice (some ⟨N,0,none⟩) vals.length vals.length) vals.length (vals.map (Value.int .i64)) ∧
 w.cell? ⟨N+1,0,none⟩=some (.slice (some ⟨N,0,none⟩) vals.length vals.length) ∧
 w.cell? ⟨N+3,0,none⟩=some (.func (.func 196) #[] (zJh N bs bm bc)) ∧
 ∃ov,w.ownsRow N 139 1 (.slice (some ⟨N+2,0,none⟩) 1 1) 1 [ov]∧w.ownsRow (N+4) 136 1 ov out.length (u64s out)
section
variable {N bs bm bc con:Nat} {m:Mod} {vs cs sv:Value} {scope vals:List Int} {out:List Nat} {w w':World}
theorem PtsS.below (h:PtsS N bs bm bc m con vs cs sv scope vals out w) (hb:Below w.heap.size w w'):PtsS N bs bm bc m con vs cs sv scope vals out w':=by
 obtain⟨h1,h2,h3,h4,h5,ov,h6,h7⟩:=h;exact⟨Nat.le_trans h1 hb.size,h2.below (hb.mono (by omega)),zAB h3 hb,(hb.cell (p:=⟨N+1,0,none⟩) (by simp only;omega)).trans h4,(hb.cell (p:=⟨N+3,0,none⟩) (by simp only;omega)).trans h5,ov,zAB h6 hb,zAB h7 hb⟩
theorem PtsS.old (h:PtsS N bs bm bc m con vs cs sv scope vals out w):MArg w vs cs m∧IArg w sv scope∧w.cell? ⟨bs,0,none⟩=some sv∧w.cell? ⟨bm,0,none⟩=some vs∧w.cell? ⟨bm,1,none⟩=some cs∧w.cell? ⟨bc,0,none⟩=some (.int .i64 con) ∧
 (bs<w.heap.size∧bm<w.heap.size∧bc<w.heap.size):=by
 obtain⟨_,⟨w0,g0,⟨g1,g2,g3,g4,g5,g6⟩,gb⟩,_⟩:=h;have l1:=World.block_lt_of_cell? w0 _ g3;have l2:=World.block_lt_of_cell? w0 _ g4;have l3:=World.block_lt_of_cell? w0 _ g6;have hs:=gb.size;simp only at l1 l2 l3;exact⟨MArg.below gb g1,IArg.below gb g2,(gb.cell (p:=⟨bs,0,none⟩) l1).trans g3,(gb.cell (p:=⟨bm,0,none⟩) l2).trans g4,(gb.cell (p:=⟨bm,1,none⟩) l2).trans g5,(gb.cell (p:=⟨bc,0,none⟩) l3).trans g6,by omega,by omega,by omega⟩
theorem PtsS.vals_arg (h:PtsS N bs bm bc m con vs cs sv scope vals out w):IArg w (.slice (some ⟨N,0,none⟩) vals.length vals.length) vals:=zDa h.2.2.1
theorem PtsS.set (h:PtsS N bs bm bc m con vs cs sv scope vals out w) (k:Nat) (x:Int) :
 PtsS N bs bm bc m con vs cs sv scope (vals.set k x) out (w.setCell ⟨N,k,none⟩ (.int .i64 x))∧Below N w (w.setCell ⟨N,k,none⟩ (.int .i64 x)):=by
 obtain⟨h1,h2,h3,h4,h5,ov,h6,h7⟩:=h;have hb:Below N w (w.setCell ⟨N,k,none⟩ (.int .i64 x)):=(Below.refl _ _).setCell (show N≤N from Nat.le_refl N) _
 have hk:∀g,g≠N→(w.setCell ⟨N,k,none⟩ (.int .i64 x)).heap[g]? = w.heap[g]? := fun g hg=>Below.heap_setCell _ _ _ _ (fun h=>hg h)
 refine⟨⟨by have:=hb.size;omega,h2.below hb,?_,?_,(World.cell?_of_block (hk _ (by simp only;omega))).trans h5,ov,zDc h6 fun g hg=>?_,zDc h7 fun g hg=>?_⟩,hb⟩
 ·rw[List.length_set,List.map_set]
  exact (h3.stored k (.int .i64 x)).1
 ·rw[List.length_set]
  exact (World.cell?_of_block (hk _ (by simp only;omega))).trans h4
 ·have hgn:g=N+2:=by injection hg with e;exact e.symm
  exact hk g (by omega)
 ·have:=(h7.lt g hg).1
  exact hk _ (by omega)
theorem PtsS.put {z:Nat} {v3 ov:Value} {w2:World} (h:PtsS N bs bm bc m con vs cs sv scope vals out w) (ho:w.ownsRow N 139 1 (.slice (some ⟨N+2,0,none⟩) 1 1) 1 [ov]) (hr:w.ownsRow (N+4) 136 1 ov out.length (u64s out))
 (hw:w2.ownsRow (N+4) 136 1 v3 (out++[z]).length (u64s (out++[z]))) (hg:w.grownBy w2 ov.ownBlock) :
 PtsS N bs bm bc m con vs cs sv scope vals (out++[z]) (w2.setCell ⟨N+2,0,none⟩ v3)∧Below N w (w2.setCell ⟨N+2,0,none⟩ v3):=by
 obtain⟨h1,h2,h3,h4,h5,_⟩:=h;have hov:∀g,ov.ownBlock=some g→N+4≤g:=fun g hg=>(hr.lt g hg).1
 have hb1:Below N w w2:=(Below.refl _ _).grown hg (by omega) (fun k hk=>by have:=hov k hk;omega)
 have hb:Below N w (w2.setCell ⟨N+2,0,none⟩ v3):=hb1.setCell (by simp only;omega) _
 have hk:∀g,g<N+4→g≠N+2→(w2.setCell ⟨N+2,0,none⟩ v3).heap[g]? = w.heap[g]? := fun g hgl hgn =>
  (Below.heap_setCell _ _ _ _ (fun h=>hgn h)).trans (hg.block g (by omega) (fun he=>by have:=hov g he.symm;omega))
 refine⟨⟨by have:=hg.size;simp;omega,h2.below hb,zDc h3 fun g hgg=>?_,(World.cell?_of_block (hk _ (by simp only;omega) (by simp only;omega))).trans h4,(World.cell?_of_block (hk _ (by simp only;omega) (by simp only;omega))).trans h5,v3,?_,zDc hw fun g hgg=>?_⟩,hb⟩
 ·have hgn:g=N:=by injection hgg with e;exact e.symm
  exact hk g (by omega) (by omega)
 ·have h6:w2.ownsRow N 139 1 (.slice (some ⟨N+2,0,none⟩) 1 1) 1 [ov]:=ho.kept hg (Or.inr fun he=>by have:=hov (N+2) he.symm;omega)
  exact (h6.stored 0 v3).1
 ·have:=(hw.lt g hgg).1
  exact Below.heap_setCell _ _ _ _ (fun h=>by simp only at h;omega)
end
theorem zHf (vs:List MVar) (c:MCon):∀(r a b:List Int) (q:Nat),zCc r a b→zAm vs c r a q=zAm vs c r b q
 | [],a,b,q,h=>by
   unfold zAm;rw[show a=b from List.ext_getElem? fun w=>h.2 w (fun v hv=>by cases hv)]
 | v :: r,a,b,q,h=>by
   unfold zAm
   congr 1
   funext x
   exact zHf vs c r _ _ _ (h.set x)
theorem zGg (vs:List MVar) (hv:zAc vs) (c:MCon):∀(r vals:List Int) (q:Nat),(zAm vs c r vals q).length≤6 ^ r.length
 | [],vals,q=>by
   unfold zAm
   split <;> simp
 | v :: r,vals,q=>by
   unfold zAm;have hs:(zIJ (zAJ vs v.toNat).lo (zAJ vs v.toNat).hi).length≤6:=by
    have:=hv.2 v.toNat;unfold zBj at this;unfold zIJ;simp only[List.length_map,List.length_range];exact this
   have key:∀l:List Int,(l.flatMap fun x=>zAm vs c r (vals.set v.toNat x) (q ||| 2 ^ (6 * v.toNat+(x - (zAJ vs v.toNat).lo).toNat))).length≤l.length * 6 ^ r.length:=by
    intro l
    induction l with
    | nil=>simp
    | cons a l ih =>
      rw[List.flatMap_cons,List.length_append,List.length_cons];have:=zGg vs hv c r (vals.set v.toNat a) (q ||| 2 ^ (6 * v.toNat+(a - (zAJ vs v.toNat).lo).toNat))
      rw[Nat.add_mul];omega
   have h1:=key (zIJ (zAJ vs v.toNat).lo (zAJ vs v.toNat).hi);have h2:(zIJ (zAJ vs v.toNat).lo (zAJ vs v.toNat).hi).length * 6 ^ r.length≤6 * 6 ^ r.length:=Nat.mul_le_mul_right _ hs;rw[List.length_cons,Nat.pow_succ];omega
def ptsN (vs:List MVar) (c:MCon) (v:Nat) (r vals:List Int) (a:Nat) (lo:Int) (j:Nat):List Nat :=
 (List.range j).flatMap fun (i:Nat)=>zAm vs c r (vals.set v (lo+(i:Int))) (a ||| 2 ^ (6 * v+i))
theorem zKU (vs:List MVar) (c:MCon) (v:Nat) (r vals:List Int) (a:Nat) (lo:Int) (j:Nat):ptsN vs c v r vals a lo (j+1)=ptsN vs c v r vals a lo j++zAm vs c r (vals.set v (lo+(j:Int))) (a ||| 2 ^ (6 * v+j)):=by
 unfold ptsN;rw[List.range_succ,List.flatMap_append];simp
theorem zQ3 (vs:List MVar) (c:MCon) (v:Nat) (r vals:List Int) (a:Nat):ptsN vs c v r vals a (zAJ vs v).lo (zBj (zAJ vs v))=zAm vs c ((v:Int) :: r) vals a:=by
 conv=>rhs;unfold zAm
 unfold ptsN zIJ zBj;rw[List.flatMap_map,Int.toNat_natCast]
 congr 1
 funext i
 rw[show ((zAJ vs v).lo+(i:Int) - (zAJ vs v).lo).toNat=i by omega]
theorem zIr (vs:List MVar) (hv:zAc vs) (c:MCon) (v:Nat) (r vals:List Int) (a:Nat) (lo:Int):∀j,(ptsN vs c v r vals a lo j).length≤j * 6 ^ r.length
 | 0=>by simp[ptsN]
 | j+1=>by
   rw[zKU,List.length_append,Nat.add_mul];have h1:=zIr vs hv c v r vals a lo j;have h2:=zGg vs hv c r (vals.set v (lo+(j:Int))) (a ||| 2 ^ (6 * v+j))
   omega
theorem zKV (vs:List MVar) (hv:zAQ vs) (c:MCon):∀(r vals:List Int) (a:Nat),(∀v∈r,0≤v∧v<(vs.length:Int))→a<2 ^ 36→∀p∈zAm vs c r vals a,p<2 ^ 36
 | [],vals,a,_,ha,p,hp=>by
   unfold zAm at hp
   split at hp
   ·rw[List.mem_singleton.1 hp];exact ha
   ·cases hp
 | v :: r,vals,a,hr,ha,p,hp=>by
   unfold zAm at hp;obtain⟨x,hx,hp⟩:=List.mem_flatMap.1 hp;obtain⟨h1,h2⟩:=(zDb _ _ _).1 hx;have hvr:=hr v (List.mem_cons_self ..);refine zKV vs hv c r _ _ (fun y hy=>hr y (List.mem_cons_of_mem _ hy)) (zHb ha (zJf vs hv v.toNat _ (by omega) ?_)) p hp
   unfold zBj;omega
def TabT (w:World):Prop:=TabAt 0 Lib.deBruijn64tab w
theorem TabT.below {w w':World} (h:TabT w) (hb:Below w.heap.size w w'):TabT w':=fun j hj=>by
 have:=h j hj;exact (hb.cell (World.block_lt_of_cell? w _ this)).trans this
theorem zPN (x k idx:Nat) (w:World) (hx0:((x:Int)==0)=false)
 (key:IntKind.u64.wrap (bits BinOp.and IntKind.u64 (x:Int) (IntKind.u64.wrap (-(x:Int))) * 285870213051353865) / 288230376151711744=(idx:Int))
 (hi:idx<64) (hk:k<64) (hcell:w.cell? ⟨0,idx,none⟩=some (.int .u8 k)) :
 Calls Tryz.prog 234 #[.int .u64 x] w fun e w'=>e=.returned (.int .i64 k)∧w'=w:=by
 go_enter Tryz.func234,Tryz.ntmps234
 go_wp2_with (simp only[key])
 go_ret
 exact⟨rfl,rfl⟩
theorem zPO (w:World):Calls Tryz.prog 234 #[.int .u64 0] w fun e w'=>e=.returned (.int .i64 64)∧w'=w:=by
 go_enter Tryz.func234,Tryz.ntmps234
 go_wp2
 go_ret
 exact⟨rfl,rfl⟩
theorem zMw (x:Nat) (hx:x<18446744073709551616) (w:World) (hT:TabT w) :
 Calls Tryz.prog 234 #[.int .u64 x] w fun e w'=>e=.returned (.int .i64 (Lib.ctz 64 x))∧w'=w:=by
 by_cases hx0:x=0
 ·subst hx0
  exact zPO w
 ·obtain⟨hlow,hk⟩:=Lib.lowest_bit 64 x hx0 hx
  obtain⟨hi,htab⟩:=Lib.deBruijn64_at _ hk;have hcell:=hT _ hi;rw[htab] at hcell;exact zPN x _ _ w (by simp;omega) (tz64_key x _ hx hx0 hlow) hi hk hcell
theorem zTA (k:Nat) (hk:k<8):IntKind.u64.wrap (63 * 2 ^ (k * 6))=((63 * 2 ^ (6 * k):Nat):Int):=by
 rw[IntKind.wrap_u64,Nat.mul_comm k 6];have:(2:Nat) ^ (6 * k)≤2 ^ 42:=Nat.pow_le_pow_right (by omega) (by omega)
 have e:(63:Int) * ((2:Int) ^ (6 * k))=((63 * 2 ^ (6 * k):Nat):Int):=by simp
 rw[e];exact Int.emod_eq_of_lt (by omega) (by omega)
theorem zFl (p:Nat) (h0:p≠0) (hp:p<2 ^ 36) (w:World) (hT:TabT w) :
 Calls Tryz.prog 231 #[.int .u64 p] w fun e w'=>e=.returned (.int .u64 ((zAh p:Nat):Int))∧w'=w:=by
 have HT:Hid (TabT w):=hT;have hc:=(zEu p h0 hp).2;obtain⟨t,ht⟩:∃t,Lib.ctz 64 p=t:=⟨_,rfl⟩;have HC:Hid (Lib.ctz 64 p=t):=ht;rw[ht] at hc;have HF:Hid (zAh p=63 * 2 ^ (6 * (t / 6))):=by show _=_;unfold zAh;rw[ht]
 have hs:=zTA (t / 6) (by omega)
 rw[HF.out];obtain⟨q,hq⟩:∃q,63 * 2 ^ (6 * (t / 6))=q:=⟨_,rfl⟩;rw[hq] at hs ⊢;have HP:Hid (p<2 ^ 36):=hp;clear hT ht hq hp h0;go_enter Tryz.func231,Tryz.ntmps231
 go_wp2_with fail
 refine (zMw p (by have:=HP.out;omega) _ HT.out).mono ?_
 rintro e w ⟨rfl,rfl⟩;rw[HC.out];go_wp2
 go_ret
 exact⟨zAI hs,rfl⟩
theorem Tryz.infoLit:(Tryz.prog.info? 76).map (fun i=>(i.zero,i.size,i.bytes))=some (some (.agg #[.int .i64 0,.int .i64 0,.int .i64 0]),3,24):=by kernel_rfl
theorem Tryz.underClauseE:Tryz.prog.underlying 28=some (.slice 76):=by kernel_rfl
def zDS (t:MLit):List Value:=[.int .i64 t.var,.int .i64 t.op,.int .i64 t.n]
def zBI (l:Cla):List Value:=l.flatMap zDS
theorem zGG (l:Cla):(zBI l).length=l.length * 3:=by
 induction l with
 | nil=>rfl
 | cons t r ih=>unfold zBI at *;rw[List.flatMap_cons,List.length_append,ih,List.length_cons];simp[zDS];omega
theorem zGH (l:Cla) (i:Nat) (t:MLit) (h:l[i]? = some t):(zBI l)[i * 3]? = some (.int .i64 t.var)∧(zBI l)[i * 3+1]? = some (.int .i64 t.op)∧(zBI l)[i * 3+2]? = some (.int .i64 t.n):=by
 induction l generalizing i with
 | nil=>cases h
 | cons a r ih =>
   unfold zBI at *;rw[List.flatMap_cons];have hl:(zDS a).length=3:=rfl;cases i with
   | zero=>cases h;exact⟨rfl,rfl,rfl⟩
   | succ i =>
     obtain⟨h1,h2,h3⟩:=ih i (by simpa using h)
     refine⟨?_,?_,?_⟩
     ·rw[List.getElem?_append_right (by rw[hl];omega),hl,show (i+1) * 3 - 3=i * 3 by omega];exact h1
     ·rw[List.getElem?_append_right (by rw[hl];omega),hl,show (i+1) * 3+1 - 3=i * 3+1 by omega];exact h2
     ·rw[List.getElem?_append_right (by rw[hl];omega),hl,show (i+1) * 3+2 - 3=i * 3+2 by omega];exact h3
def LOwn (base:Nat) (w:World) (v:Value) (l:Cla):Prop:=w.ownsRow base 76 3 v l.length (zBI l)
theorem LOwn.arg {base:Nat} {w:World} {v:Value} {l:Cla} (h:LOwn base w v l):LArg w v l:=by
 have h':w.ownsRow base 76 3 v l.length (zBI l):=h;rcases h'.2 with ⟨rfl,hn⟩ | ⟨g,cap,cur,rfl,hg,hh,hc1,hc2,_,_⟩
 ·have:l=[]:=List.eq_nil_of_length_eq_zero hn
  subst this;exact⟨none,0,rfl,⟨Nat.le_refl _,Nat.zero_le _⟩,fun i z hz=>by simp at hz⟩
 ·refine⟨_,cap,rfl,⟨hc1,hc2⟩,fun i t ht=>?_⟩
  have hi:i<l.length:=(List.getElem?_eq_some_iff.1 ht).1;obtain⟨g1,g2,g3⟩:=zGH l i t ht;exact⟨g,0,rfl,(Array.getElem?_eq_some_iff.1 hh).1,by rw[Nat.zero_add,h'.cellAt (i * 3) (by omega)];exact g1,by rw[Nat.zero_add,h'.cellAt (i * 3+1) (by omega)];exact g2,by rw[Nat.zero_add,h'.cellAt (i * 3+2) (by omega)];exact g3⟩
theorem zMx (w:World) (t:MLit):∀(j:Nat) (u:Value),(zDS t)[j]? = some u→(w.alloc (.cells #[.int .i64 t.var,.int .i64 t.op,.int .i64 t.n] 76)).cell? ((⟨w.heap.size,0,none⟩:Addr).add j)=some u:=by
 intro j u hj
 match j,hj with
 | 0,hj=>simp[zDS] at hj;subst hj;simp[Addr.add]
 | 1,hj=>simp[zDS] at hj;subst hj;simp[Addr.add]
 | 2,hj=>simp[zDS] at hj;subst hj;simp[Addr.add]
theorem zHg (vs:List MVar) (hva:zAQ vs) (p:Nat) (hp:∀i,p.testBit i=true→(zAE vs).testBit i=true) (sv:Value) (w:World) (hv:VArg w sv vs) (hT:TabT w) :
 Calls Tryz.prog 154 #[sv,.int .u64 p] w fun e w'=>∃x,e=.returned x∧LOwn w.heap.size w' x (zBY vs p)∧Below w.heap.size w w':=by
 have HVO:Hid (zAQ vs):=hva;have HT:Hid (∀w',Below w.heap.size w w'→TabT w'):=fun w' h=>hT.below h
 have HP36:Hid (p<2 ^ 36):=by
  show p<2 ^ 36;apply Nat.lt_pow_two_of_testBit;intro i hi;cases hb:p.testBit i
  ·rfl
  ·have:=hp i hb
   unfold zAE at this;rw[Nat.testBit_lt_two_pow (Nat.lt_of_lt_of_le (zFi vs hva.1 _) (Nat.pow_le_pow_right (by omega) hi))] at this
   cases this
 have HPW:Hid (∀i,p.testBit i=true→(zAE vs).testBit i=true):=hp;obtain⟨a,c,rfl,hm,hr⟩:=hv;have HV:Hid (∀(i:Nat) (t:MVar),vs[i]? = some t→t.name.size≤maxLen∧∃b off,a=some ⟨b,off,none⟩∧b<w.heap.size ∧
  w.cell? ⟨b,off+i * 3,none⟩=some (.string t.name)∧w.cell? ⟨b,off+i * 3+1,none⟩=some (.int .i64 t.lo)∧w.cell? ⟨b,off+i * 3+2,none⟩=some (.int .i64 t.hi)):=hr
 unfold maxLen at hm;obtain⟨hm1,hm⟩:=hm;have h6:=hva.1.1;obtain⟨i0,hi,hz0,hz1,hz2⟩:=info_parts Tryz.infoLit;clear hr hva hp hT;go_enter Tryz.func154,Tryz.ntmps154
 go_wp2_with fail
 go_loopw [5,6] (fun v r wr=>∃(q:Nat) (done:Cla),r=.int .u64 (q:Int)∧LOwn w.heap.size wr v done∧Hid (zBY vs p=done++zBY vs q)∧Hid (q<2 ^ 36)∧Hid (∀i,q.testBit i=true→p.testBit i=true)∧Below w.heap.size w wr) (fun _ r _=>(intOf r).toNat)
 case atStart=>exact⟨p,[],rfl,World.ownsRow_nil _ _ _ _,rfl,HP36,fun _ h=>h,Below.refl _ _⟩
 case round =>
  obtain⟨q,done,rfl,hown,hsp,hq36,hqs,hbw⟩:=hrel;have HOW:Hid (LOwn w.heap.size wr u5 done):=hown;have HBW:Hid (Below w.heap.size w wr):=hbw;obtain⟨ao,co,rfl⟩:=zAC (show wr.ownsRow _ _ _ _ _ _ from hown)
  clear hown hbw;by_cases hq0:q=0
  ·subst hq0
   have HE:Hid (LOwn w.heap.size wr (.slice ao (List.length done) co) (zBY vs p)):=by
    have:zBY vs p=done:=by rw[hsp.out];simp[zBY,zIn]
    rw[this];exact HOW.out
   clear hsp hqs;go_wp2
   go_ret
   exact⟨_,rfl,HE.out,HBW.out⟩
  ·obtain⟨hst,hk36⟩:=zEu q hq0 hq36.out
   obtain⟨k,hk⟩:∃k,Lib.ctz 64 q=k:=⟨_,rfl⟩;have hbits:=zD6 q hq0 (by have:=hq36.out;omega)
   have hless:=zG6 q hq0 (by have:=hq36.out;omega)
   obtain⟨q2,hq2⟩:∃q2,q &&& (q - 1)=q2:=⟨_,rfl⟩;have HQS:Hid (∀i,q2.testBit i=true→p.testBit i=true):=fun i hi=>by
    rw[←hq2,(hbits i).2.2,Bool.and_eq_true] at hi;exact hqs.out i hi.1
   have hkb:=(hbits k).2.1 hk.symm;have hkw:=HPW.out k (hqs.out k hkb);unfold zAE ofP at hkw;rw[zAd vs HVO.out.1] at hkw;simp only[Bool.and_eq_true,decide_eq_true_eq] at hkw;have hkl:k / 6<vs.length:=hkw.1;have hbn:=HVO.out.2 (k / 6) hkl;obtain⟨lo,hlo⟩:∃lo,(zAJ vs (k / 6)).lo=lo:=⟨_,rfl⟩;have HN:Hid (zBY vs p=(done++[⟨((k / 6:Nat):Int),3,lo+((k % 6:Nat):Int)⟩])++zBY vs q2):=by
    show _=_;rw[hsp.out,List.append_assoc]
    congr 1
    unfold zBY;rw[hst,hk,hq2,List.map_cons,hlo];rfl
   rw[hk] at hk36;rw[hq2] at hless;obtain⟨_,b,off,hax,hb,_,c1,_⟩:=HV.out (k / 6) _ (zIm hkl);subst hax;have hc1:=(HBW.out.cell (p:=⟨b,off+k / 6 * 3+1,none⟩) hb).trans c1;rw[hlo] at hc1 hbn;have HK:Hid (Lib.ctz 64 q=k):=hk;have hdl:done.length≤36:=by
    have h1:=zD7 vs p;rw[hsp.out,List.length_append] at h1;omega
   have HQ36:Hid (q<2 ^ 36):=hq36.out;have HQ2:Hid (q2<2 ^ 36):=by have:=hq36.out;show _<_;omega
   have hsub:IntKind.u64.wrap ((q:Int) - 1)=((q - 1:Nat):Int):=by rw[IntKind.wrap_u64];have:=hq36.out;omega
   have hand:=bits_and_u64_nat q (q - 1) (by have:=hq36.out;omega) (by have:=hq36.out;omega)
   rw[hq2] at hand;have hne:((q:Int) != 0)=true:=by simpa using hq0
   have HLS:Hid (q2<q):=hless;have hsm:-100≤lo+((k % 6:Nat):Int)∧lo+((k % 6:Nat):Int)≤100:=by omega
   clear hst hbits hqs hq36 hkb hkw hsp hlo hq2 hk c1 hless hq0;go_wp2_with fail
   refine (zMw q (by have:=HQ36.out;omega) _ (HT.out _ HBW.out)).mono ?_
   rintro e w1 ⟨rfl,rfl⟩;rw[HK.out];obtain⟨t,ht⟩:∃t:MLit,t=⟨(k:Int) / 6,3,lo+(k:Int) % 6⟩:=⟨_,rfl⟩;have hown:w1.ownsRow w.heap.size 76 3 (.slice ao (List.length done) co) (List.length done) (zBI done):=HOW.out;have HN2:Hid (zBY vs p=(done++[t])++zBY vs q2):=by show _=_;rw[ht];exact HN.out
   have hbs:=HBW.out.size;go_wp2_with (at_builtin;refine wpList_append_own _ rfl _ _ 28 rfl w.heap.size 76 i0 (.agg #[.int .i64 0,.int .i64 0,.int .i64 0]) 3 24 Tryz.underClauseE hi hz0 hz1 hz2 rfl (by decide) _ _ _ rfl (hown.alloc _) ⟨w1.heap.size,0,none⟩ 1 1 (zDS ⟨(k:Int) / 6,3,lo+(k:Int) % 6⟩) rfl rfl ?c1 ?c2 ?c3 ?c4 ?c5 ?_)
   case c1=>exact zMx w1 ⟨(k:Int) / 6,3,lo+(k:Int) % 6⟩
   case c2=>intro u hu;simp[zDS] at hu;rcases hu with rfl | rfl | rfl <;> rfl
   case c3=>unfold maxLen;omega
   case c4=>omega
   case c5=>simp;omega
   intro v3 w3 hown3 hgrow _;have HOW3:Hid (LOwn w.heap.size w3 v3 (done++[t])):=by
    show World.ownsRow _ _ _ _ _ _ _;unfold zBI;rw[List.length_append,List.flatMap_append,ht];simpa[zBI] using hown3
   have HB3:Hid (Below w.heap.size w w3):=(HBW.out.alloc hbs _).grown hgrow (by simp;omega) (fun g h=>(hown.lt g h).1)
   clear hown3 hgrow hown hc1;go_wp2
   go_roundw
   case rel=>exact⟨q2,done++[t],rfl,HOW3.out,HN2,HQ2,HQS,HB3.out⟩
   case measure=>simp[intOf];exact HLS.out
theorem zJi (T:TypeId) (hT:Tryz.prog.underlying T=some (.slice 76)) (w:World) (ty:TypeId) (base n c:Nat) (v:Value) (xs:List Value) (hown:w.ownsRow base 76 3 v n xs) :
 (Builtin.append_ #[T,T] ty #[v,.slice none 0 c]).run Tryz.prog w=.ok v w:=by
 obtain⟨i0,hi,hz0,hz1,hz2⟩:=info_parts Tryz.infoLit;rcases hown.2 with ⟨rfl,rfl⟩ | ⟨g,cap,cur,rfl,_,_,hnc,_⟩
 ·simp[Builtin.append_,run_underlying hT,sizeOf,typeInfo,hi,Builtin.lenOf,Builtin.firstCells]
 ·simp[Builtin.append_,run_underlying hT,sizeOf,typeInfo,hi,Builtin.lenOf,Builtin.firstCells,hnc,storeCells]
theorem zQ4 (l:Cla):∀u∈zBI l,u.oneCell'=true:=by
 intro u hu;obtain⟨t,_,ht⟩:=List.mem_flatMap.1 hu;simp[zDS] at ht;rcases ht with rfl | rfl | rfl <;> rfl
theorem zHh (l:Cla) (j:Nat) (y:Value) (h:(zBI l)[j]? = some y):∃(i:Nat) (t:MLit),l[i]? = some t∧((j=i * 3∧y=.int .i64 t.var)∨(j=i * 3+1∧y=.int .i64 t.op)∨(j=i * 3+2∧y=.int .i64 t.n)):=by
 have hj:j<l.length * 3:=by rw[←zGG];exact (List.getElem?_eq_some_iff.1 h).1
 have hi:j / 3<l.length:=by omega
 obtain⟨g0,g1,g2⟩:=zGH l (j / 3) l[j / 3] (by simp[hi])
 refine⟨j / 3,l[j / 3],by simp[hi],?_⟩
 rcases (by omega:j=j / 3 * 3∨j=j / 3 * 3+1∨j=j / 3 * 3+2) with hq | hq | hq
 ·rw[←hq,h] at g0;exact Or.inl ⟨hq,Option.some.inj g0⟩
 ·rw[←hq,h] at g1;exact Or.inr (Or.inl ⟨hq,Option.some.inj g1⟩)
 ·rw[←hq,h] at g2;exact Or.inr (Or.inr ⟨hq,Option.some.inj g2⟩)
theorem zCQ (T:TypeId) (hT:Tryz.prog.underlying T=some (.slice 76)) {w:World} {ops:Array Oper} {rest:List Oper} {o:Oper} {a:Act} {Q:Exit→Act→World→Prop} (hgd:o.guard=none) (s x:Operand)
 (ho:o.op=.call { callee:=.builtin .append,args:=#[s,x],argTypes:=#[T,T] }) (base:Nat)
 (v:Value) (xs:Cla) (hs:a.eval s=v) (hown:LOwn base w v xs)
 (u:Value) (l:Cla) (hx:a.eval x=u) (hl:LArg w u l) (hn:xs.length+l.length≤1000) (hbase:base≤w.heap.size)
 (h:∀v' w',LOwn base w' v' (xs++l)→w.grownBy w' v.ownBlock→wpList Tryz.prog ops Q rest (a.put o.dst v') w'):wpList Tryz.prog ops Q (o :: rest) a w:=by
 obtain⟨i0,hi,hz0,hz1,hz2⟩:=info_parts Tryz.infoLit;obtain⟨q,c,rfl,hm,hc⟩:=hl;have hown':w.ownsRow base 76 3 v xs.length (zBI xs):=hown;cases q with
 | none =>
   have hl0:l=[]:=by
    cases l with
    | nil=>rfl
    | cons z r=>obtain⟨b,off,hq,_⟩:=hc 0 z rfl;cases hq
   subst hl0;refine wpList_plain hgd fun K hK=>?_
   have hr:=zJi T hT w o.type base xs.length c v _ hown';unfold Oper.wp execOp;simp only[ho,resolve,invoke,builtin,Sem.run_bind,Sem.run_pure,Result.andThen_ok,List.map_toArray,List.map_cons,List.map_nil,hs,hx,List.length_nil,hr];exact hK _ _ (h v w (by rw[List.append_nil];exact hown) ⟨rfl,rfl,rfl,Nat.le_refl _,fun _ _ _=>rfl⟩)
 | some ad =>
   refine wpList_append_own w hgd s x T ho base 76 i0 (.agg #[.int .i64 0,.int .i64 0,.int .i64 0]) 3 24 hT hi hz0 hz1 hz2 rfl (by decide) v xs.length _ hs hown' ad l.length c (zBI l) hx (zGG l) ?_ (zQ4 l) (by unfold maxLen;omega) (by omega) hbase ?_
   ·intro j y hy
    obtain⟨i,t,ht,hcase⟩:=zHh l j y hy;obtain⟨b,off,hq,_,c0,c1,c2⟩:=hc i t ht;cases hq
    rw[zEZ];rcases hcase with ⟨rfl,rfl⟩ | ⟨rfl,rfl⟩ | ⟨rfl,rfl⟩
    ·exact c0
    ·rw[←Nat.add_assoc];exact c1
    ·rw[←Nat.add_assoc];exact c2
   ·intro v' w' h1 h2 h3
    refine h v' w' ?_ h2;show w'.ownsRow _ _ _ _ _ _;unfold zBI at *;rw[List.length_append,List.flatMap_append];exact h1
theorem zSV (w:World):LArg w (.slice none 0 0) []:=⟨none,0,rfl,⟨Nat.le_refl _,Nat.zero_le _⟩,fun i z hz=>by simp at hz⟩
theorem zPP {w:World} {l:Cla} {n c:Nat} (h:LArg w (.slice none n c) l):l=[]:=by
 obtain⟨a,c2,he,_,hr⟩:=h;cases l with
 | nil=>rfl
 | cons z r =>
   obtain⟨b,off,hq,_⟩:=hr 0 z rfl;rw[hq] at he;cases he
theorem zBJ {base base':Nat} {w:World} {v:Value} {l:Cla} (hb:base'≤base) (h:LOwn base w v l):LOwn base' w v l:=World.ownsRow.mono h hb
theorem zGh (w:World):LOwn w.heap.size (w.alloc (.cells #[] 76)) (.slice (some ⟨w.heap.size,0,none⟩) 0 0) []:=World.ownsRow_made w #[] 0 (Nat.le_refl _) (Nat.zero_le _) (by simp)
theorem zDL:Tryz.prog.underlying 28=some (.slice 76):=by kernel_rfl
theorem zKW (l:Cla) (hl:l.length≤900) (u:Value) (w:World) (hu:LArg w u l) :
 Calls Tryz.prog 91 #[u] w fun e w'=>∃x,e=.returned x∧LOwn w.heap.size w' x l∧Below w.heap.size w w':=by
 have HU:Hid (∀w',Below w.heap.size w w'→LArg w' u l):=fun w' h=>LArg.below h hu
 have q22:∀(w:World) (a:Option Addr) (n c n' c':Nat),(binOp .eql 28 (.slice a n c) (.slice none n' c')).run Tryz.prog w=.ok (.bool a.isNone) w:=fun w a n c n' c'=>Lib.run_eql_slice_nil w _ _ a n c n' c' zDL
 obtain⟨a,c,he,_,_⟩:=id hu;subst he;cases a with
 | none =>
   have:=zPP hu;subst this;clear hu HU;go_enter Tryz.func91,Tryz.ntmps91
   go_wp2
   go_ret
   exact⟨_,rfl,World.ownsRow_nil _ _ _ _,Below.refl _ _⟩
 | some ad =>
   have HL:Hid (l.length≤900):=hl;clear hu hl;go_enter Tryz.func91,Tryz.ntmps91
   go_wp2_with (at_builtin;refine zCQ 28 zDL rfl _ _ rfl w.heap.size _ [] rfl (zGh w) _ l rfl (HU.out _ (zAA _ _)) ?c1 ?c2 ?_)
   case c1=>have:=HL.out;simp;omega
   case c2=>simp
   intro v3 w3 hown3 hgrow;have HB3:Hid (Below w.heap.size w w3):=(zAA _ _).grown hgrow (by simp) (by intro k hk;simp[Value.ownBlock] at hk;omega)
   have HO3:Hid (LOwn w.heap.size w3 v3 l):=hown3;obtain⟨av,cv,rfl⟩:=zAC (show w3.ownsRow _ _ _ _ _ _ from hown3)
   clear hown3 hgrow;go_wp2
   go_ret
   exact⟨_,rfl,HO3.out,HB3.out⟩
theorem zB1:Tryz.prog.underlying 27=some (.slice 76):=by kernel_rfl
theorem zIs (l:Cla) (hl:l.length≤900) (u:Value) (w:World) (hu:LArg w u l) :
 Calls Tryz.prog 227 #[u] w fun e w'=>∃x,e=.returned x∧LOwn w.heap.size w' x l∧Below w.heap.size w w':=by
 have HU:Hid (∀w',Below w.heap.size w w'→LArg w' u l):=fun w' h=>LArg.below h hu
 have q22:∀(w:World) (a:Option Addr) (n c n' c':Nat),(binOp .eql 27 (.slice a n c) (.slice none n' c')).run Tryz.prog w=.ok (.bool a.isNone) w:=fun w a n c n' c'=>Lib.run_eql_slice_nil w _ _ a n c n' c' zB1
 obtain⟨a,c,he,_,_⟩:=id hu;subst he;cases a with
 | none =>
   have:=zPP hu;subst this;clear hu HU;go_enter Tryz.func227,Tryz.ntmps227
   go_wp2
   go_ret
   exact⟨_,rfl,World.ownsRow_nil _ _ _ _,Below.refl _ _⟩
 | some ad =>
   have HL:Hid (l.length≤900):=hl;clear hu hl;go_enter Tryz.func227,Tryz.ntmps227
   go_wp2_with (at_builtin;refine zCQ 27 zB1 rfl _ _ rfl w.heap.size _ [] rfl (zGh w) _ l rfl (HU.out _ (zAA _ _)) ?c1 ?c2 ?_)
   case c1=>have:=HL.out;simp;omega
   case c2=>simp
   intro v3 w3 hown3 hgrow;have HB3:Hid (Below w.heap.size w w3):=(zAA _ _).grown hgrow (by simp) (by intro k hk;simp[Value.ownBlock] at hk;omega)
   have HO3:Hid (LOwn w.heap.size w3 v3 l):=hown3;obtain⟨av,cv,rfl⟩:=zAC (show w3.ownsRow _ _ _ _ _ _ from hown3)
   clear hown3 hgrow;go_wp2
   go_ret
   exact⟨_,rfl,HO3.out,HB3.out⟩
theorem zQ5 {P:Program} (w:World) (B:Nat) (t ty e:TypeId) (i:TypeInfo) (z:Value) (size bytes:Nat) (ht:P.underlying t=some (.slice e)) (hi:P.info? e=some i) (hz:i.zero=some z) (hsize:i.size=size) (hby:i.bytes=bytes) (hzs:z.cells.size=size) (hsz:0<size)
 (g:Nat) (ho:w.ownsRow B e size (.slice (some ⟨g,0,none⟩) 0 0) 0 []) (q:Option Addr) (m c:Nat) (news:List Value) (hl:news.length=m * size) (hq:m≠0→∃ad,q=some ad∧∀j u,news[j]? = some u→w.cell? (ad.add j)=some u) (h63:m≤maxLen) (hbytes:m * bytes≤140737488355328) (hB:B≤w.heap.size) :
 ∃v' w',(Builtin.append_ #[t,t] ty #[.slice (some ⟨g,0,none⟩) 0 0,.slice q m c]).run P w=.ok v' w'∧w'.ownsRow B e size v' m news∧Below w.heap.size w w':=by
 by_cases hm:m=0
 ·subst hm
  have hn:news=[]:=List.eq_nil_of_length_eq_zero (by simpa using hl)
  subst hn;refine⟨_,w,?_,ho,Below.refl _ _⟩;cases q <;> simp[Builtin.append_,run_underlying ht,sizeOf,typeInfo,hi,Builtin.lenOf,Builtin.firstCells,loadCells,loadCellsFrom,storeCells]
 ·obtain⟨ad,rfl,hc⟩:=hq hm
  subst hsize;subst hby;have hsm:m≤9223372036854775807:=by simp only[maxLen] at h63;omega
  have hr:=run_append_grow (P:=P) w t ty e i z ht hi hz ⟨g,0,none⟩ 0 0 [] (by simp) (fun j v h=>by simp at h) ad m c news hl hc (by omega) (by omega) (growslice_fits (by omega) (by rw[Nat.zero_add];exact hbytes))
  have hge:=grownCap_ge w (0+m) 0 e;have hcm:grownCap w (0+m) 0 e≤maxLen:=grownCap_le_maxLen w (0+m) 0 e (by omega)
  refine⟨_,_,hr,?_,(Below.refl _ _).drew.alloc (by simp) _⟩
  rw[Nat.zero_add] at hge hcm ⊢;refine⟨hl,.inr ⟨w.heap.size,_,_,rfl,hB,heap_alloc_new w.drew _,hge,hcm,?_,?_⟩⟩
  ·simp only[Array.size_append,List.size_toArray,List.length_nil,Nat.zero_add,size_zeroCells,hzs,hl,←Nat.add_mul]
   congr 1
   omega
  ·simp only[Array.toList_append,List.nil_append,←hl]
   exact List.take_left
theorem zLf {P:Program} {w:World} {o:Oper} {a:Act} {K:Act→World→Prop} {Q:Exit→Act→World→Prop} (s x:Operand) (t:TypeId)
 (hop:o.op=.call { callee:=.builtin .append,args:=#[s,x],argTypes:=#[t,t] }) (B:Nat) (e:TypeId) (i:TypeInfo) (z:Value) (size bytes:Nat) (ht:P.underlying t=some (.slice e)) (hi:P.info? e=some i) (hz:i.zero=some z) (hsize:i.size=size) (hby:i.bytes=bytes) (hzs:z.cells.size=size) (hsz:0<size)
 (g:Nat) (hs:a.eval s=.slice (some ⟨g,0,none⟩) 0 0) (ho:w.ownsRow B e size (.slice (some ⟨g,0,none⟩) 0 0) 0 []) (q:Option Addr) (m c:Nat) (news:List Value) (hx:a.eval x=.slice q m c) (hl:news.length=m * size) (hq:m≠0→∃ad,q=some ad∧∀j u,news[j]? = some u→w.cell? (ad.add j)=some u) (h63:m≤maxLen) (hbytes:m * bytes≤140737488355328) (hB:B≤w.heap.size)
 (h:∀v' w',w'.ownsRow B e size v' m news→Below w.heap.size w w'→K (a.put o.dst v') w'):o.wp P a w K Q:=by
 obtain⟨v',w',hr,h1,h2⟩:=zQ5 w B t o.type e i z size bytes ht hi hz hsize hby hzs hsz g ho q m c news hl hq h63 hbytes hB;unfold Oper.wp execOp;simp only[hop,resolve,invoke,builtin,Sem.run_bind,Sem.run_pure,Result.andThen_ok,List.map_toArray,List.map_cons,List.map_nil,hs,hx,hr];exact h v' w' h1 h2
theorem Tryz.infoInt6:(Tryz.prog.info? 3).map (fun i=>(i.zero,i.size,i.bytes))=some (some (.int .i64 0),1,8):=by kernel_rfl
theorem Tryz.underInts6:Tryz.prog.underlying 42=some (.slice 3):=by kernel_rfl
theorem Tryz.underLitz6:Tryz.prog.underlying 27=some (.slice 76):=by kernel_rfl
theorem Tryz.infoVar6:(Tryz.prog.info? 67).map (fun i=>(i.zero,i.size,i.bytes))=some (some (.agg #[.string ⟨#[]⟩,.int .i64 0,.int .i64 0]),3,32):=by kernel_rfl
theorem Tryz.underVars6:Tryz.prog.underlying 22=some (.slice 67):=by kernel_rfl
section
variable {w:World} {o:Oper} {a:Act} {K:Act→World→Prop} {Q:Exit→Act→World→Prop}
theorem zAM (s x:Operand) (hop:o.op=.call { callee:=.builtin .append,args:=#[s,x],argTypes:=#[42,42] }) (B g:Nat) (hs:a.eval s=.slice (some ⟨g,0,none⟩) 0 0) (ho:w.ownsRow B 3 1 (.slice (some ⟨g,0,none⟩) 0 0) 0 [])
 (u:Value) (l:List Int) (hx:a.eval x=u) (hu:IArg w u l) (hn:l.length * 8≤140737488355328) (hB:B≤w.heap.size) (h:∀v' w',w'.ownsRow B 3 1 v' l.length (l.map (Value.int .i64))→Below w.heap.size w w'→K (a.put o.dst v') w'):o.wp Tryz.prog a w K Q:=by
 obtain⟨i0,hi,hz0,hz1,hz2⟩:=info_parts Tryz.infoInt6;obtain⟨q,c,rfl,hm,hc⟩:=hu;refine zLf s x 42 hop B 3 i0 _ 1 8 Tryz.underInts6 hi hz0 hz1 hz2 rfl (by decide) g hs ho q l.length c (l.map (Value.int .i64)) hx (by simp) (fun h0=>?_) (by omega) hn hB h
 obtain⟨b,off,rfl,_⟩:=hc 0 l[0] (by simp[Nat.pos_of_ne_zero h0])
 refine⟨_,rfl,fun j y hy=>?_⟩
 rw[List.getElem?_map] at hy;obtain⟨z,hz,rfl⟩:=Option.map_eq_some_iff.1 hy;obtain⟨b',off',he,_,h2⟩:=hc j z hz;cases he
 rw[zEZ];exact h2
theorem zAn (s x:Operand) (hop:o.op=.call { callee:=.builtin .append,args:=#[s,x],argTypes:=#[27,27] }) (B g:Nat) (hs:a.eval s=.slice (some ⟨g,0,none⟩) 0 0) (ho:w.ownsRow B 76 3 (.slice (some ⟨g,0,none⟩) 0 0) 0 [])
 (u:Value) (l:Cla) (hx:a.eval x=u) (hu:LArg w u l) (hn:l.length * 24≤140737488355328) (hB:B≤w.heap.size) (h:∀v' w',w'.ownsRow B 76 3 v' l.length (zBI l)→Below w.heap.size w w'→K (a.put o.dst v') w'):o.wp Tryz.prog a w K Q:=by
 obtain⟨i0,hi,hz0,hz1,hz2⟩:=info_parts Tryz.infoLit;obtain⟨q,c,rfl,hm,hc⟩:=hu;refine zLf s x 27 hop B 76 i0 (.agg #[.int .i64 0,.int .i64 0,.int .i64 0]) 3 24 Tryz.underLitz6 hi hz0 hz1 hz2 rfl (by decide) g hs ho q l.length c (zBI l) hx (zGG l) (fun h0=>?_) (by omega) hn hB h
 obtain⟨b,off,rfl,_⟩:=hc 0 l[0] (by simp[Nat.pos_of_ne_zero h0])
 refine⟨_,rfl,fun j y hy=>?_⟩
 obtain⟨i,t,ht,hcase⟩:=zHh l j y hy;obtain⟨b',off',he,_,c0,c1,c2⟩:=hc i t ht;cases he
 rw[zEZ];rcases hcase with ⟨rfl,rfl⟩ | ⟨rfl,rfl⟩ | ⟨rfl,rfl⟩
 ·exact c0
 ·rw[←Nat.add_assoc];exact c1
 ·rw[←Nat.add_assoc];exact c2
theorem zIt {α:Type} (f:α→List Value) (hf:∀x,(f x).length=3):∀(l:List α) (j:Nat) (y:Value),(l.flatMap f)[j]? = some y→∃i t k,l[i]? = some t∧k<3∧j=i * 3+k∧(f t)[k]? = some y
 | [],j,y,h=>by simp at h
 | x :: r,j,y,h=>by
   rw[List.flatMap_cons] at h;by_cases hj:j<3
   ·rw[List.getElem?_append_left (by rw[hf];exact hj)] at h
    exact⟨0,x,j,rfl,hj,by omega,h⟩
   ·rw[List.getElem?_append_right (by rw[hf];omega),hf] at h
    obtain⟨i,t,k,h1,h2,h3,h4⟩:=zIt f hf r _ y h;exact⟨i+1,t,k,by simpa using h1,h2,by omega,h4⟩
theorem zKX {α:Type} (f:α→List Value) (hf:∀x,(f x).length=3):∀l:List α,(l.flatMap f).length=l.length * 3
 | []=>rfl
 | x :: r=>by rw[List.flatMap_cons,List.length_append,hf,zKX f hf r,List.length_cons];omega
theorem zKY (s x:Operand) (hop:o.op=.call { callee:=.builtin .append,args:=#[s,x],argTypes:=#[22,22] }) (B g:Nat) (hs:a.eval s=.slice (some ⟨g,0,none⟩) 0 0) (ho:w.ownsRow B 67 3 (.slice (some ⟨g,0,none⟩) 0 0) 0 [])
 (u:Value) (l:List MVar) (hx:a.eval x=u) (hu:VArg w u l) (hn:l.length * 32≤140737488355328) (hB:B≤w.heap.size) (h:∀v' w',w'.ownsRow B 67 3 v' l.length (l.flatMap varC)→Below w.heap.size w w'→K (a.put o.dst v') w'):o.wp Tryz.prog a w K Q:=by
 obtain⟨i0,hi,hz0,hz1,hz2⟩:=info_parts Tryz.infoVar6;obtain⟨q,c,rfl,hm,hc⟩:=hu;refine zLf s x 22 hop B 67 i0 (.agg #[.string ⟨#[]⟩,.int .i64 0,.int .i64 0]) 3 32 Tryz.underVars6 hi hz0 hz1 hz2 rfl (by decide) g hs ho q l.length c (l.flatMap varC) hx (zKX varC (fun _=>rfl) l) (fun h0=>?_) (by omega) hn hB h
 obtain⟨_,b,off,rfl,_⟩:=hc 0 l[0] (by simp[Nat.pos_of_ne_zero h0])
 refine⟨_,rfl,fun j y hy=>?_⟩
 obtain⟨i,t,k,ht,hk,rfl,hy2⟩:=zIt varC (fun _=>rfl) l j y hy
 clear hy;obtain⟨_,b',off',he,_,c0,c1,c2⟩:=hc i t ht;cases he
 rw[zEZ];unfold varC at hy2
 match k,hk,hy2 with
 | 0,_,hy2=>cases hy2;exact c0
 | 1,_,hy2=>cases hy2;rw[←Nat.add_assoc];exact c1
 | 2,_,hy2=>cases hy2;rw[←Nat.add_assoc];exact c2
theorem zGy {ops:Array Oper} {rest:List Oper} (hgd:o.guard=none) (s x:Operand) (hop:o.op=.call { callee:=.builtin .append,args:=#[s,x],argTypes:=#[42,42] }) (B g:Nat) (hs:a.eval s=.slice (some ⟨g,0,none⟩) 0 0) (ho:w.ownsRow B 3 1 (.slice (some ⟨g,0,none⟩) 0 0) 0 [])
 (u:Value) (l:List Int) (hx:a.eval x=u) (hu:IArg w u l) (hn:l.length * 8≤140737488355328) (hB:B≤w.heap.size) (h:∀v' w',w'.ownsRow B 3 1 v' l.length (l.map (Value.int .i64))→Below w.heap.size w w'→wpList Tryz.prog ops Q rest (a.put o.dst v') w'):wpList Tryz.prog ops Q (o :: rest) a w :=
 wpList_plain hgd fun _ hK=>zAM s x hop B g hs ho u l hx hu hn hB fun v' w' h1 h2=>hK _ _ (h v' w' h1 h2)
theorem zGz {ops:Array Oper} {rest:List Oper} (hgd:o.guard=none) (s x:Operand) (hop:o.op=.call { callee:=.builtin .append,args:=#[s,x],argTypes:=#[22,22] }) (B g:Nat) (hs:a.eval s=.slice (some ⟨g,0,none⟩) 0 0) (ho:w.ownsRow B 67 3 (.slice (some ⟨g,0,none⟩) 0 0) 0 [])
 (u:Value) (l:List MVar) (hx:a.eval x=u) (hu:VArg w u l) (hn:l.length * 32≤140737488355328) (hB:B≤w.heap.size) (h:∀v' w',w'.ownsRow B 67 3 v' l.length (l.flatMap varC)→Below w.heap.size w w'→wpList Tryz.prog ops Q rest (a.put o.dst v') w'):wpList Tryz.prog ops Q (o :: rest) a w :=
 wpList_plain hgd fun _ hK=>zKY s x hop B g hs ho u l hx hu hn hB fun v' w' h1 h2=>hK _ _ (h v' w' h1 h2)
end
end Go.Proofs.YtndcpnlaadikoaaGreatDoor
