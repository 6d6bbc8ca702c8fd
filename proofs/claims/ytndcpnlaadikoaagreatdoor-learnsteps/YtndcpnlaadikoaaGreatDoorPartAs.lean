/- What the proof leans on, part 19. -/
import Derived.Test.YtndcpnlaadikoaaGreatDoorPartAo
import Derived.Laws.OwnMore
import Derived.Test.YtndcpnlaadikoaaGreatDoorPartAp
import Derived.Test.YtndcpnlaadikoaaGreatDoorPartAl
import Derived.Test.YtndcpnlaadikoaaGreatDoorPartAj
import Derived.Deep.RegionHeld3
import Derived.Deep.RegionLaw
namespace Go.Proofs.YtndcpnlaadikoaaGreatDoor
open Go.RowKit
theorem zLU (l:List Int):∀(lo hi:Int),l.Pairwise (·<·)→(∀n∈l,lo≤n∧n≤hi)→(l.length:Int)≤max 0 (hi - lo+1):=by
 induction l with
 | nil=>intro lo hi _ _;simp;omega
 | cons a r ih =>
   intro lo hi hp hb
   have h1:=ih (a+1) hi (List.pairwise_cons.1 hp).2 (fun n hn=>by
    have:=(List.pairwise_cons.1 hp).1 n hn
    have:=hb n (List.mem_cons_of_mem _ hn)
    omega)
   have h2:=hb a (List.mem_cons_self ..)
   rw[List.length_cons]
   push_cast
   omega
theorem zLV (m:Mod) (s:Sto) (hm:zAP m=0) (hs:zHP m.vars s=0) (i:Nat) (r:List Int) (hr:s[i]? = some r):r.length≤6:=by
 obtain⟨h1,h2,h3⟩:=(zFC _ _).1 hs
 have hi:i<s.length:=(List.getElem?_eq_some_iff.1 hr).1
 obtain⟨v,hv⟩:∃v,m.vars[i]? = some v:=⟨m.vars[i]'(by omega),by simp⟩
 have hvo:=zJI m hm i v hv
 have hin:=(zIa _ _ _).1 h2 i v r hv hr
 have hri:=List.all_eq_true.1 h3 r (List.mem_of_getElem? hr)
 have:=zLU r v.lo v.hi ((zF5 r).1 hri) (fun n hn=>by
  have:=List.all_eq_true.1 hin n hn
  simpa[zIZ] using this)
 omega
theorem zMh {w:World} {base base':Nat} {e:TypeId} {size:Nat} {v:Value} {n:Nat} {xs:List Value} (h:w.ownsRow base e size v n xs) (hb:base'≤base):w.ownsRow base' e size v n xs:=by
 refine⟨h.1,?_⟩
 rcases h.2 with hn | ⟨g,cap,cur,hv,hg,r⟩
 ·exact .inl hn
 ·exact .inr ⟨g,cap,cur,hv,Nat.le_trans hb hg,r⟩
theorem zEi {w w':World} {base:Nat} {e:TypeId} {size:Nat} {v:Value} {n:Nat} {xs:List Value} (h:w.ownsRow base e size v n xs) (hk:∀g,v.ownBlock=some g→w'.heap[g]? = w.heap[g]?):w'.ownsRow base e size v n xs:=by
 refine⟨h.1,?_⟩
 rcases h.2 with hn | ⟨g,cap,cur,hv,hg,hh,r⟩
 ·exact .inl hn
 ·exact .inr ⟨g,cap,cur,hv,hg,by rw[hk g (by rw[hv];rfl)];exact hh,r⟩
def zMi (w:World) (base B n:Nat) (cells:List Value) (M:Sto) (k:Nat):Prop :=
 w.ownsRow base 42 1 (.slice (some ⟨B,0,none⟩) n n) n cells ∧
 (∀i r,i<k→M[i]? = some r→∃x,cells[i]? = some x∧w.ownsRow (B+1) 3 1 x r.length (r.map (Value.int .i64))) ∧
 (∀i,k≤i→i<n→cells[i]? = some (.slice none 0 0))
def zDH (w:World) (base B n:Nat) (cells:List Value) (M:Sto) (k K:Nat) (acc:List Int):Prop :=
 w.ownsRow base 42 1 (.slice (some ⟨B,0,none⟩) n n) n cells ∧
 (∀i r,i<k→M[i]? = some r→∃x,cells[i]? = some x∧w.ownsRow (B+1) 3 1 x r.length (r.map (Value.int .i64))∧∀g,x.ownBlock=some g→g<K) ∧
 (∃x,cells[k]? = some x∧w.ownsRow K 3 1 x acc.length (acc.map (Value.int .i64))) ∧
 (∀i,k<i→i<n→cells[i]? = some (.slice none 0 0))∧B<K∧K≤w.heap.size∧k<n
theorem zDH.done {w:World} {base B n:Nat} {cells:List Value} {M:Sto} {k K:Nat} {acc:List Int} (h:zDH w base B n cells M k K acc) (hM:M[k]? = some acc):zMi w base B n cells M (k+1):=by
 obtain⟨h1,h2,⟨x,hx,ho⟩,h4,h5,_,_⟩:=h
 refine⟨h1,fun i r hi hr=>?_,fun i hi hn=>h4 i (by omega) hn⟩
 by_cases hik:i<k
 ·obtain⟨y,hy,hoy,_⟩:=h2 i r hik hr
  exact⟨y,hy,hoy⟩
 ·obtain rfl:i=k:=by omega
  rw[hM] at hr;cases hr
  exact⟨x,hx,zMh ho (by omega)⟩
theorem zDH.kept {w w':World} {base B n:Nat} {cells:List Value} {M:Sto} {k K:Nat} {acc:List Int} (h:zDH w base B n cells M k K acc) (hb:Below w.heap.size w w'):zDH w' base B n cells M k K acc:=by
 obtain⟨h1,h2,⟨x,hx,ho⟩,h4,h5,h6,h7⟩:=h
 refine⟨zAD h1 hb,fun i r hi hr=>?_,⟨x,hx,zAD ho hb⟩,h4,h5,Nat.le_trans h6 hb.size,h7⟩
 obtain⟨y,hy,hoy,hg⟩:=h2 i r hi hr
 exact⟨y,hy,zAD hoy hb,hg⟩
theorem zMi.kept {w w':World} {base B n:Nat} {cells:List Value} {M:Sto} {k:Nat} (h:zMi w base B n cells M k) (hb:Below w.heap.size w w'):zMi w' base B n cells M k:=by
 obtain⟨h1,h2,h3⟩:=h
 refine⟨zAD h1 hb,fun i r hi hr=>?_,h3⟩
 obtain⟨y,hy,hoy⟩:=h2 i r hi hr
 exact⟨y,hy,zAD hoy hb⟩
theorem zDH.push {w w3:World} {base B n:Nat} {cells:List Value} {M:Sto} {k K:Nat} {acc:List Int} {x v3:Value} {z:Int} (h:zDH w base B n cells M k K acc) (hx:cells[k]? = some x)
 (ho:w3.ownsRow K 3 1 v3 (acc++[z]).length ((acc++[z]).map (Value.int .i64))) (hg:w.grownBy w3 x.ownBlock) :
 zDH (w3.setCell ⟨B,k,none⟩ v3) base B n (cells.set k v3) M k K (acc++[z]):=by
 obtain⟨h1,h2,⟨y,hy,hoy⟩,h4,h5,h6,h7⟩:=h
 rw[hx] at hy;cases hy
 have hxK:∀g,x.ownBlock=some g→K≤g:=fun g hg=>(hoy.lt g hg).1
 have hB:B<w.heap.size:=(h1.lt B rfl).2
 have hne:some B≠x.ownBlock:=fun h=>by have:=hxK B h.symm;omega
 have h13:w3.ownsRow base 42 1 (.slice (some ⟨B,0,none⟩) n n) n cells:=h1.kept hg (Or.inr hne)
 have hlen:cells.length=n:=by have:=h1.1;omega
 refine⟨(h13.stored k v3).1,fun i r hi hr=>?_,⟨v3,by rw[List.getElem?_set_self (by omega)],?_⟩,fun i hi hn=>by rw[List.getElem?_set_ne (by omega)];exact h4 i hi hn,h5,?_,h7⟩
 ·obtain⟨y,hy,hoy2,hgy⟩:=h2 i r hi hr
  refine⟨y,by rw[List.getElem?_set_ne (by omega)];exact hy,?_,hgy⟩
  have h23:w3.ownsRow (B+1) 3 1 y r.length (r.map (Value.int .i64)):=by
   refine hoy2.kept hg ?_
   cases hyb:y.ownBlock with
   | none=>exact Or.inl rfl
   | some g =>
     refine Or.inr fun he=>?_
     have:=hxK g he.symm
     have:=hgy g hyb
     omega
  refine zEi h23 fun g hg2=>Below.heap_setCell _ _ _ _ ?_
  have:=(hoy2.lt g hg2).1
  simp only;omega
 ·refine zEi ho fun g hg2=>Below.heap_setCell _ _ _ _ ?_
  have:=(ho.lt g hg2).1
  simp only;omega
 ·have:=hg.size;simp;omega
def Old (N:Nat) (w:World) (P:World→Prop):Prop:=∃w0:World,w0.heap.size≤N∧P w0∧Below w0.heap.size w0 w
theorem Old.below {N:Nat} {w w':World} {P:World→Prop} (h:Old N w P) (hb:Below N w w'):Old N w' P:=by
 obtain⟨w0,h1,h2,h3⟩:=h
 exact⟨w0,h1,h2,h3.trans (hb.mono h1)⟩
theorem zKM (vals:List Int) (k:Nat) (x:Int) (h:∀y∈vals,-50≤y∧y≤50) (hx:-50≤x∧x≤50):∀y∈vals.set k x,-50≤y∧y≤50:=by
 intro y hy
 rcases List.mem_or_eq_of_mem_set hy with h1 | h1
 ·exact h y h1
 ·rw[h1];exact hx
def zGy (N bs bm bc:Nat):Array Value:=#[.pointer (some ⟨bs,0,none⟩),.pointer (some ⟨bm,0,none⟩),.pointer (some ⟨bc,0,none⟩),.pointer (some ⟨N+1,0,none⟩),.pointer (some ⟨N+2,0,none⟩),.pointer (some ⟨N+3,0,none⟩)]
def u64s (l:List Nat):List Value:=l.map fun (z:Nat)=>Value.int .u64 (z:Int)
def PtsS (N bs bm bc:Nat) (m:Mod) (con:Nat) (vs cs sv:Value) (scope vals:List Int) (out:List Nat) (w:World):Prop :=
 N+4≤w.heap.size ∧
 Old N w (fun u=>MArg u vs cs m∧IArg u sv scope∧u.cell? ⟨bs,0,none⟩=some sv∧u.cell? ⟨bm,0,none⟩=some vs∧u.cell? ⟨bm,1,none⟩=some cs∧u.cell? ⟨bc,0,none⟩=some (.int .i64 con)) ∧
 w.ownsRow N 3 1 (.slice (some ⟨N,0,none⟩) vals.length vals.length) vals.length (vals.map (Value.int .i64)) ∧
 w.cell? ⟨N+1,0,none⟩=some (.slice (some ⟨N,0,none⟩) vals.length vals.length) ∧
 w.cell? ⟨N+3,0,none⟩=some (.func (.func 196) #[] (zGy N bs bm bc)) ∧
 ∃ov,w.ownsRow N 139 1 (.slice (some ⟨N+2,0,none⟩) 1 1) 1 [ov]∧w.ownsRow (N+4) 136 1 ov out.length (u64s out)
section
variable {N bs bm bc con:Nat} {m:Mod} {vs cs sv:Value} {scope vals:List Int} {out:List Nat} {w w':World}
theorem PtsS.below (h:PtsS N bs bm bc m con vs cs sv scope vals out w) (hb:Below w.heap.size w w'):PtsS N bs bm bc m con vs cs sv scope vals out w':=by
 obtain⟨h1,h2,h3,h4,h5,ov,h6,h7⟩:=h
 exact⟨Nat.le_trans h1 hb.size,h2.below (hb.mono (by omega)),zAD h3 hb,(hb.cell (p:=⟨N+1,0,none⟩) (by simp only;omega)).trans h4,(hb.cell (p:=⟨N+3,0,none⟩) (by simp only;omega)).trans h5,ov,zAD h6 hb,zAD h7 hb⟩
theorem PtsS.old (h:PtsS N bs bm bc m con vs cs sv scope vals out w):MArg w vs cs m∧IArg w sv scope∧w.cell? ⟨bs,0,none⟩=some sv∧w.cell? ⟨bm,0,none⟩=some vs∧w.cell? ⟨bm,1,none⟩=some cs∧w.cell? ⟨bc,0,none⟩=some (.int .i64 con) ∧
 (bs<w.heap.size∧bm<w.heap.size∧bc<w.heap.size):=by
 obtain⟨_,⟨w0,g0,⟨g1,g2,g3,g4,g5,g6⟩,gb⟩,_⟩:=h
 have l1:=World.block_lt_of_cell? w0 _ g3
 have l2:=World.block_lt_of_cell? w0 _ g4
 have l3:=World.block_lt_of_cell? w0 _ g6
 have hs:=gb.size
 simp only at l1 l2 l3
 exact⟨MArg.below gb g1,IArg.below gb g2,(gb.cell (p:=⟨bs,0,none⟩) l1).trans g3,(gb.cell (p:=⟨bm,0,none⟩) l2).trans g4,(gb.cell (p:=⟨bm,1,none⟩) l2).trans g5,(gb.cell (p:=⟨bc,0,none⟩) l3).trans g6,by omega,by omega,by omega⟩
theorem PtsS.vals_arg (h:PtsS N bs bm bc m con vs cs sv scope vals out w):IArg w (.slice (some ⟨N,0,none⟩) vals.length vals.length) vals:=zCW h.2.2.1
theorem PtsS.set (h:PtsS N bs bm bc m con vs cs sv scope vals out w) (k:Nat) (x:Int) :
 PtsS N bs bm bc m con vs cs sv scope (vals.set k x) out (w.setCell ⟨N,k,none⟩ (.int .i64 x))∧Below N w (w.setCell ⟨N,k,none⟩ (.int .i64 x)):=by
 obtain⟨h1,h2,h3,h4,h5,ov,h6,h7⟩:=h
 have hb:Below N w (w.setCell ⟨N,k,none⟩ (.int .i64 x)):=(Below.refl _ _).setCell (show N≤N from Nat.le_refl N) _
 have hk:∀g,g≠N→(w.setCell ⟨N,k,none⟩ (.int .i64 x)).heap[g]? = w.heap[g]? := fun g hg=>Below.heap_setCell _ _ _ _ (fun h=>hg h)
 refine⟨⟨by have:=hb.size;omega,h2.below hb,?_,?_,(World.cell?_of_block (hk _ (by simp only;omega))).trans h5,ov,zEi h6 fun g hg=>?_,zEi h7 fun g hg=>?_⟩,hb⟩
 ·rw[List.length_set,List.map_set]
  exact (h3.stored k (.int .i64 x)).1
 ·rw[List.length_set]
  exact (World.cell?_of_block (hk _ (by simp only;omega))).trans h4
 ·have hgn:g=N+2:=by injection hg with e;exact e.symm
  exact hk g (by omega)
 ·have:=(h7.lt g hg).1
  exact hk _ (by omega)
theorem PtsS.put {z:Nat} {v3 ov:Value} {w2:World} (h:PtsS N bs bm bc m con vs cs sv scope vals out w) (ho:w.ownsRow N 139 1 (.slice (some ⟨N+2,0,none⟩) 1 1) 1 [ov]) (hr:w.ownsRow (N+4) 136 1 ov out.length (u64s out))
 (hw:w2.ownsRow (N+4) 136 1 v3 (out++[z]).length (u64s (out++[z]))) (hg:w.grownBy w2 ov.ownBlock) :
 PtsS N bs bm bc m con vs cs sv scope vals (out++[z]) (w2.setCell ⟨N+2,0,none⟩ v3)∧Below N w (w2.setCell ⟨N+2,0,none⟩ v3):=by
 obtain⟨h1,h2,h3,h4,h5,_⟩:=h
 have hov:∀g,ov.ownBlock=some g→N+4≤g:=fun g hg=>(hr.lt g hg).1
 have hb1:Below N w w2:=(Below.refl _ _).grown hg (by omega) (fun k hk=>by have:=hov k hk;omega)
 have hb:Below N w (w2.setCell ⟨N+2,0,none⟩ v3):=hb1.setCell (by simp only;omega) _
 have hk:∀g,g<N+4→g≠N+2→(w2.setCell ⟨N+2,0,none⟩ v3).heap[g]? = w.heap[g]? := fun g hgl hgn =>
  (Below.heap_setCell _ _ _ _ (fun h=>hgn h)).trans (hg.block g (by omega) (fun he=>by have:=hov g he.symm;omega))
 refine⟨⟨by have:=hg.size;simp;omega,h2.below hb,zEi h3 fun g hgg=>?_,(World.cell?_of_block (hk _ (by simp only;omega) (by simp only;omega))).trans h4,(World.cell?_of_block (hk _ (by simp only;omega) (by simp only;omega))).trans h5,v3,?_,zEi hw fun g hgg=>?_⟩,hb⟩
 ·have hgn:g=N:=by injection hgg with e;exact e.symm
  exact hk g (by omega) (by omega)
 ·have h6:w2.ownsRow N 139 1 (.slice (some ⟨N+2,0,none⟩) 1 1) 1 [ov]:=ho.kept hg (Or.inr fun he=>by have:=hov (N+2) he.symm;omega)
  exact (h6.stored 0 v3).1
 ·have:=(hw.lt g hgg).1
  exact Below.heap_setCell _ _ _ _ (fun h=>by simp only at h;omega)
end
theorem zFT (vs:List MVar) (c:MCon):∀(r a b:List Int) (q:Nat),zBq r a b→zAa vs c r a q=zAa vs c r b q
 | [],a,b,q,h=>by
   unfold zAa
   rw[show a=b from List.ext_getElem? fun w=>h.2 w (fun v hv=>by cases hv)]
 | v :: r,a,b,q,h=>by
   unfold zAa
   congr 1
   funext x
   exact zFT vs c r _ _ _ (h.set x)
theorem zEj (vs:List MVar) (hv:zAb vs) (c:MCon):∀(r vals:List Int) (q:Nat),(zAa vs c r vals q).length≤6 ^ r.length
 | [],vals,q=>by
   unfold zAa
   split <;> simp
 | v :: r,vals,q=>by
   unfold zAa
   have hs:(zDh (zAH vs v.toNat).lo (zAH vs v.toNat).hi).length≤6:=by
    have:=hv.2 v.toNat
    unfold zAu at this
    unfold zDh
    simp only[List.length_map,List.length_range]
    exact this
   have key:∀l:List Int,(l.flatMap fun x=>zAa vs c r (vals.set v.toNat x) (q ||| 2 ^ (6 * v.toNat+(x - (zAH vs v.toNat).lo).toNat))).length≤l.length * 6 ^ r.length:=by
    intro l
    induction l with
    | nil=>simp
    | cons a l ih =>
      rw[List.flatMap_cons,List.length_append,List.length_cons]
      have:=zEj vs hv c r (vals.set v.toNat a) (q ||| 2 ^ (6 * v.toNat+(a - (zAH vs v.toNat).lo).toNat))
      rw[Nat.add_mul]
      omega
   have h1:=key (zDh (zAH vs v.toNat).lo (zAH vs v.toNat).hi)
   have h2:(zDh (zAH vs v.toNat).lo (zAH vs v.toNat).hi).length * 6 ^ r.length≤6 * 6 ^ r.length:=Nat.mul_le_mul_right _ hs
   rw[List.length_cons,Nat.pow_succ]
   omega
def ptsN (vs:List MVar) (c:MCon) (v:Nat) (r vals:List Int) (a:Nat) (lo:Int) (j:Nat):List Nat :=
 (List.range j).flatMap fun (i:Nat)=>zAa vs c r (vals.set v (lo+(i:Int))) (a ||| 2 ^ (6 * v+i))
theorem zHk (vs:List MVar) (c:MCon) (v:Nat) (r vals:List Int) (a:Nat) (lo:Int) (j:Nat):ptsN vs c v r vals a lo (j+1)=ptsN vs c v r vals a lo j++zAa vs c r (vals.set v (lo+(j:Int))) (a ||| 2 ^ (6 * v+j)):=by
 unfold ptsN;rw[List.range_succ,List.flatMap_append];simp
theorem zMj (vs:List MVar) (c:MCon) (v:Nat) (r vals:List Int) (a:Nat):ptsN vs c v r vals a (zAH vs v).lo (zAu (zAH vs v))=zAa vs c ((v:Int) :: r) vals a:=by
 conv=>rhs;unfold zAa
 unfold ptsN zDh zAu
 rw[List.flatMap_map,Int.toNat_natCast]
 congr 1
 funext i
 rw[show ((zAH vs v).lo+(i:Int) - (zAH vs v).lo).toNat=i by omega]
theorem zGI (vs:List MVar) (hv:zAb vs) (c:MCon) (v:Nat) (r vals:List Int) (a:Nat) (lo:Int):∀j,(ptsN vs c v r vals a lo j).length≤j * 6 ^ r.length
 | 0=>by simp[ptsN]
 | j+1=>by
   rw[zHk,List.length_append,Nat.add_mul]
   have h1:=zGI vs hv c v r vals a lo j
   have h2:=zEj vs hv c r (vals.set v (lo+(j:Int))) (a ||| 2 ^ (6 * v+j))
   omega
theorem zHl (vs:List MVar) (hv:zAU vs) (c:MCon):∀(r vals:List Int) (a:Nat),(∀v∈r,0≤v∧v<(vs.length:Int))→a<2 ^ 36→∀p∈zAa vs c r vals a,p<2 ^ 36
 | [],vals,a,_,ha,p,hp=>by
   unfold zAa at hp
   split at hp
   ·rw[List.mem_singleton.1 hp];exact ha
   ·cases hp
 | v :: r,vals,a,hr,ha,p,hp=>by
   unfold zAa at hp
   obtain⟨x,hx,hp⟩:=List.mem_flatMap.1 hp
   obtain⟨h1,h2⟩:=(zAx _ _ _).1 hx
   have hvr:=hr v (List.mem_cons_self ..)
   refine zHl vs hv c r _ _ (fun y hy=>hr y (List.mem_cons_of_mem _ hy)) (zFK ha (zGs vs hv v.toNat _ (by omega) ?_)) p hp
   unfold zAu
   omega
theorem Tryz.infoInt:(Tryz.prog.info? 3).map (fun i=>(i.zero,i.size,i.bytes))=some (some (.int .i64 0),1,8):=by kernel_rfl
theorem zC0 (w:World) (z:Int):∀(j:Nat) (u:Value),[Value.int .i64 z][j]? = some u→(w.alloc (.cells #[.int .i64 z] 3)).cell? ((⟨w.heap.size,0,none⟩:Addr).add j)=some u:=by
 intro j u hj
 match j,hj with
 | 0,hj=>simp at hj;subst hj;simp[Addr.add]
theorem Tryz.infoPart:(Tryz.prog.info? 136).map (fun i=>(i.zero,i.size,i.bytes))=some (some (.int .u64 0),1,8):=by kernel_rfl
theorem zLW (w:World) (z:Nat):∀(j:Nat) (u:Value),[Value.int .u64 (z:Int)][j]? = some u→(w.alloc (.cells #[.int .u64 (z:Int)] 136)).cell? ((⟨w.heap.size,0,none⟩:Addr).add j)=some u:=by
 intro j u hj
 match j,hj with
 | 0,hj=>simp at hj;subst hj;simp[Addr.add]
set_option maxHeartbeats 3200000 in
set_option maxRecDepth 100000 in
theorem zNb (N bs bm bc:Nat) (m:Mod) (con:Nat) (c:MCon) (vs cs sv:Value) (scope vals:List Int) (a:Nat) (out:List Nat) (w:World)
 (hc:m.cons[con]? = some c) (hce:conE vals.length c=0) (hvb:∀x∈vals,-50≤x∧x≤50) (hbud:out.length≤10000000)
 (hT:PtsS N bs bm bc m con vs cs sv scope vals out w) :
 Calls Tryz.prog 196 #[.int .i64 (scope.length:Int),.int .u64 (a:Int),.pointer (some ⟨bs,0,none⟩),.pointer (some ⟨bm,0,none⟩),.pointer (some ⟨bc,0,none⟩),.pointer (some ⟨N+1,0,none⟩),.pointer (some ⟨N+2,0,none⟩),.pointer (some ⟨N+3,0,none⟩)] w fun e w'=>e=.returned (.tuple #[]) ∧
  PtsS N bs bm bc m con vs cs sv scope vals (out++if zAV c vals then [a] else []) w'∧Below N w w':=by
 obtain⟨hma,hia,d0,d1,d2,d3,l0,l1,l2⟩:=hT.old
 obtain⟨⟨av,cv,rfl,_,_⟩,⟨ac,cc,hcs,hmc,hrc⟩⟩:=hma
 subst hcs
 obtain⟨asv,csv,hsv,hms,_⟩:=hia
 subst hsv
 obtain⟨bb,off,vv,vc,vr,vl,hax,hbb,c0,c1,c2,c3,c4,c5,hK⟩:=hrc con c hc
 subst hax
 have HK:Hid (∀w':World,Below w.heap.size w w'→KArg w' vv vc vr vl c):=fun w' h=>KArg.below h hK
 have HVA:Hid (∀w':World,Below w.heap.size w w'→IArg w' (.slice (some ⟨N,0,none⟩) vals.length vals.length) vals):=fun w' h=>IArg.below h hT.vals_arg
 obtain⟨⟨q1,r1,h1,_,_⟩,⟨q2,r2,h2,_,_⟩,⟨q3,r3,h3,_,_⟩,⟨q4,r4,h4,_,_⟩⟩:=hK
 subst h1;subst h2;subst h3;subst h4
 have hcon:con<m.cons.length:=(List.getElem?_eq_some_iff.1 hc).1
 have d4:=hT.2.2.2.1
 have l4:N+1<w.heap.size:=by have:=hT.1;omega
 have HNL:Hid (N≤w.heap.size):=by have:=hT.1;exact (by omega:N≤w.heap.size)
 have HT:Hid (PtsS N bs bm bc m con (.slice av m.vars.length cv) (.slice (some ⟨bb,off,none⟩) m.cons.length cc) (.slice asv scope.length csv) scope vals out w):=hT
 have HVB:Hid (∀x∈vals,-50≤x∧x≤50):=hvb
 have HCE:Hid (conE vals.length c=0):=hce
 unfold maxLen at hmc hms
 obtain⟨hmc1,hmc⟩:=hmc
 obtain⟨hms1,hms⟩:=hms
 obtain⟨i0,hi,hz0,hz1,hz2⟩:=info_parts Tryz.infoPart
 obtain⟨O,hO⟩:∃O,(out++if zAV c vals then [a] else [])=O:=⟨_,rfl⟩
 have HO:Hid ((out++if zAV c vals then [a] else [])=O):=hO
 rw[hO]
 clear hT hvb hce hrc hc hO
 go_enter Tryz.func196,Tryz.ntmps196
 go_wp2_with fail
 go_region_held3 (fun w'=>Below w.heap.size w w'∧w'.cell? ⟨bm,1,none⟩=some (.slice (some ⟨bb,off,none⟩) m.cons.length cc)∧w'.cell? ⟨bc,0,none⟩=some (.int .i64 con)∧w'.cell? ⟨bb,off+con * 6,none⟩=some (.int .i64 c.kind)∧w'.cell? ⟨bb,off+con * 6+1,none⟩=some (.slice q1 c.vars.length r1)∧w'.cell? ⟨bb,off+con * 6+2,none⟩=some (.slice q2 c.consts.length r2)∧w'.cell? ⟨bb,off+con * 6+3,none⟩=some (.int .i64 c.n)∧w'.cell? ⟨bb,off+con * 6+4,none⟩=some (.slice q3 c.rows.length r3)∧w'.cell? ⟨bb,off+con * 6+5,none⟩=some (.slice q4 c.lits.length r4)∧w'.cell? ⟨N+1,0,none⟩=some (.slice (some ⟨N,0,none⟩) vals.length vals.length))
  ((refine (fun (hB:Below w.heap.size w _)=>⟨hB,(hB.cell (p:=⟨bm,1,none⟩) l1).trans d2,(hB.cell (p:=⟨bc,0,none⟩) l2).trans d3,(hB.cell (p:=⟨bb,off+con * 6,none⟩) hbb).trans c0,(hB.cell (p:=⟨bb,off+con * 6+1,none⟩) hbb).trans c1,(hB.cell (p:=⟨bb,off+con * 6+2,none⟩) hbb).trans c2,(hB.cell (p:=⟨bb,off+con * 6+3,none⟩) hbb).trans c3,(hB.cell (p:=⟨bb,off+con * 6+4,none⟩) hbb).trans c4,(hB.cell (p:=⟨bb,off+con * 6+5,none⟩) hbb).trans c5,(hB.cell (p:=⟨N+1,0,none⟩) l4).trans d4⟩:Below w.heap.size w _→_) ?_;first | exact (Below.refl _ _).drew | exact hbq))
  (first
    | (go_at_call 98;refine (zLA c vals _ _ _ _ _ _ (HK.out _ (Below.refl _ _).drew) (HVA.out _ (Below.refl _ _).drew) HCE.out HVB.out).mono ?_;rintro e w1 ⟨rfl,hbr⟩;have hbq:Below w.heap.size w w1:=⟨hbr.os,hbr.tape,hbr.output,hbr.size,hbr.block⟩))
 have HT1:Hid (PtsS N bs bm bc m con (.slice av m.vars.length cv) (.slice (some ⟨bb,off,none⟩) m.cons.length cc) (.slice asv scope.length csv) scope vals out w1):=HT.out.below hbq
 have hbN:Below N w w1:=hbq.mono HNL.out
 clear hbr hbq c0 c1 c2 c3 c4 c5 d0 d1 d2 d3 d4 l0 l1 l2 l4 hbb
 cases hq:zAV c vals
 ·have HE:Hid (out=O):=by show _=_;have:=HO.out;rw[hq] at this;simpa using this
  clear hq
  go_wp2
  (try simp only[Exit.inBlock,Exit.then])
  refine bodyPost_ret (results_none rfl _ _ _) rfl ?_
  refine⟨rfl,?_,hbN⟩
  rw[←HE.out]
  exact HT1.out
 ·have HE:Hid (out++[a]=O):=by show _=_;have:=HO.out;rw[hq] at this;simpa using this
  clear hq
  obtain⟨hsz,_,_,_,_,ov,ho,hr⟩:=HT1.out
  obtain⟨ax,cx,rfl⟩:=zAE hr
  have hco:w1.cell? ⟨N+2,0,none⟩=some (.slice ax out.length cx):=ho.cellAt 0 (by omega)
  have hlo:N+2<w1.heap.size:=by omega
  go_wp2_with (at_builtin;refine wpList_append_own _ rfl _ _ 139 rfl (N+4) 136 i0 (.int .u64 0) 1 8 Tryz.underlying139 hi hz0 hz1 hz2 rfl (by decide) _ _ _ rfl (hr.alloc _) ⟨w1.heap.size,0,none⟩ 1 1 [.int .u64 (a:Int)] rfl rfl ?c1 ?c2 ?c3 ?c4 ?c5 ?_)
  case c1=>exact zLW w1 a
  case c2=>intro u hu;rcases List.mem_singleton.1 hu with rfl;rfl
  case c3=>unfold maxLen;omega
  case c4=>omega
  case c5=>simp;omega
  intro v3 w3 hown3 hgrow _
  have hown4:w3.ownsRow (N+4) 136 1 v3 (out++[a]).length (u64s (out++[a])):=by
   unfold u64s
   rw[List.length_append,List.map_append];exact hown3
  have HPUT:=(HT1.out.below (zAA _ _)).put (ho.alloc _) (hr.alloc _) hown4 hgrow
  have HP:Hid (PtsS N bs bm bc m con (.slice av m.vars.length cv) (.slice (some ⟨bb,off,none⟩) m.cons.length cc) (.slice asv scope.length csv) scope vals (out++[a]) (w3.setCell ⟨N+2,0,none⟩ v3)):=HPUT.1
  have HB4:Hid (Below N w (w3.setCell ⟨N+2,0,none⟩ v3)):=hbN.trans (((Below.refl _ _).alloc (by omega) _).trans HPUT.2)
  have ht3:w3.ownsRow N 139 1 (.slice (some ⟨N+2,0,none⟩) 1 1) 1 [.slice ax out.length cx]:=(ho.alloc _).kept hgrow (Or.inr (fun h=>by have:=(hr.lt (N+2) h.symm).1;omega))
  have hcB:w3.cell? ⟨N+2,0,none⟩=some (.slice ax out.length cx):=ht3.cellAt 0 (by omega)
  have hfB:w3.frozen? ⟨N+2,0,none⟩=false:=ht3.frozenAt 0
  obtain⟨av',cv',rfl⟩:=zAE hown4
  rw[show (out++[a]).length=out.length+1 by simp] at HP HB4
  clear hown3 hgrow hown4 hr ho hco ht3 HPUT
  go_wp2
  (try simp only[Exit.inBlock,Exit.then])
  refine bodyPost_ret (results_none rfl _ _ _) rfl ?_
  exact⟨rfl,by rw[←HE.out];exact HP.out,HB4.out⟩
end Go.Proofs.YtndcpnlaadikoaaGreatDoor
