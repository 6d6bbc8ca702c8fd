/- What the proof leans on, part 37. -/
import Derived.Test.YtdjbejlbmaiocafGreatDoorPartAq
import Derived.Test.YtdjbejlbmaiocafGreatDoorPartBj
import Derived.Test.YtdjbejlbmaiocafGreatDoorPartBc
import Derived.Test.YtdjbejlbmaiocafGreatDoorPartAj
import Derived.Test.YtdjbejlbmaiocafGreatDoorPartAw
namespace Go.Proofs.YtdjbejlbmaiocafGreatDoor
section
open Go.RowKit Go.Maps
theorem Tryz.partKey:Keyed Tryz.prog 152:=int_keyed Tryz.underlying152
theorem Tryz.underThere:Tryz.prog.underlying 91=some (.map 152 132):=by kernel_rfl
def setU {H:Type} (l:List Nat):DataW H:=setOf (.agg []) (l.map fun z:Nat=>Lit.int .u64 (z:Int))
theorem zHh (x:Nat):∀l:List Nat,l.any ((fun y:Lit=>y.sameKey (.int .u64 (x:Int))) ∘ fun z:Nat=>Lit.int .u64 (z:Int))=l.contains x
 | []=>rfl
 | a :: r=>by
   rw[List.any_cons,List.contains_cons,zHh x r]
   congr 1
   show decide (IntKind.u64=IntKind.u64∧(a:Int)=(x:Int))=(x==a)
   by_cases e:a=x
   ·subst e
    simp
   ·have e':¬x=a:=fun h=>e h.symm
    have e2:¬(a:Int)=(x:Int):=fun h=>e (by omega)
    simp[e2,e']
theorem zHi {H:Type} (l:List Nat) (x:Nat):Maps.has (setU (H:=H) l) (.int .u64 (x:Int))=l.contains x:=by
 unfold setU
 rw[has_setOf _ _ _ (fun y hy=>by obtain⟨_,_,rfl⟩:=List.mem_map.1 hy;trivial),List.any_map]
 exact zHh x _
theorem zJa {H:Type} (l:List Nat) (x:Nat):setU (H:=H) (l++[x])=(setU l).put (.int .u64 (x:Int)) (.agg []):=by
 unfold setU;rw[List.map_append];exact setOf_snoc _ _ _
theorem zKj (z:Nat) (h:z<2 ^ 36):keyOf Tryz.prog 152 (.int .u64 (z:Int))=some (.int .u64 (z:Int)):=keyOf_int_mk Tryz.underlying152 (WalkArith.wf_u64 (by omega))
theorem zBS {w:World} {B:Nat} {e:TypeId} {s n:Nat} {v:Value} {xs:List Value} {k:TypeId} {R:Value→Option (DataW Unit×List MemPlace)} {b m:Nat} {D:DataW Unit} (h:w.ownsRow B e s v n xs) (hm:w.ownsMap Tryz.prog k R b m D):v.ownBlock≠some b:=by
 intro he
 obtain⟨es,clock,hb,_⟩:=hm
 rcases h.2 with ⟨rfl,_⟩ | ⟨g,cap,cur,rfl,_,hg,_⟩
 ·cases he
 ·have:g=b:=by simpa[Value.ownBlock] using he
  subst this
  rw[hb] at hg
  cases hg
theorem zCJ {w:World} {q:Nat} {cs:Array Value} {t:TypeId} {k:TypeId} {R:Value→Option (DataW Unit×List MemPlace)} {b m:Nat} {D:DataW Unit} (h:w.heap[q]? = some (.cells cs t)) (hm:w.ownsMap Tryz.prog k R b m D):q≠b:=by
 rintro rfl
 obtain⟨es,clock,hb,_⟩:=hm
 rw[hb] at h
 cases h
def TNo (t:TypeId):Prop:=t≠203∧t≠93∧t≠152∧t≠110∧t≠117
structure TFr (w w':World):Prop where
 os:w'.os=w.os
 tape:w'.tape=w.tape
 output:w'.output=w.output
 size:w.heap.size≤w'.heap.size
 block:∀(k:Nat) (cs:Array Value) (t:TypeId) (z:Nat×Nat),w.heap[k]? = some (.cells cs t z)→TNo t→w'.heap[k]? = w.heap[k]?
theorem TFr.refl (w:World):TFr w w:=⟨rfl,rfl,rfl,Nat.le_refl _,fun _ _ _ _ _ _=>rfl⟩
theorem TFr.trans {a b c:World} (h:TFr a b) (k:TFr b c):TFr a c :=
 ⟨k.os.trans h.os,k.tape.trans h.tape,k.output.trans h.output,Nat.le_trans h.size k.size,fun q cs t z hq ht=>(k.block q cs t z ((h.block q cs t z hq ht).trans hq) ht).trans (h.block q cs t z hq ht)⟩
theorem TFr.below {w w':World} (h:Below w.heap.size w w'):TFr w w':=⟨h.os,h.tape,h.output,h.size,fun k _ _ _ hk _=>h.block k (Array.getElem?_eq_some_iff.1 hk).1⟩
theorem TFr.grown {w w':World} {B:Nat} {e:TypeId} {s n:Nat} {v:Value} {xs:List Value} (ho:w.ownsRow B e s v n xs) (hg:w.grownBy w' v.ownBlock) (he:¬TNo e):TFr w w' :=
 ⟨hg.os,hg.tape,hg.output,hg.size,fun k cs t z hk ht=>hg.block k (Array.getElem?_eq_some_iff.1 hk).1 fun h=>by
  rcases ho.2 with ⟨rfl,_⟩ | ⟨g,cap,cur,rfl,_,hh,_⟩
  ·cases h
  ·have:k=g:=by simpa[Value.ownBlock] using h
   subst this
   have:=hk.symm.trans hh
   simp only[Option.some.injEq,Obj.cells.injEq] at this
   rw[this.2.1] at ht
   exact he ht⟩
theorem TFr.set {w:World} {C:Nat} {cs:Array Value} {t:TypeId} (hC:w.heap[C]? = some (.cells cs t)) (he:¬TNo t) (i:Nat) (u:Value):TFr w (w.setCell ⟨C,i,none⟩ u) :=
 ⟨rfl,rfl,rfl,by simp,fun k cs' t' z hk ht=>by
  refine Below.heap_setCell w ⟨C,i,none⟩ u k ?_
  rintro rfl
  have:=hk.symm.trans hC
  simp only[Option.some.injEq,Obj.cells.injEq] at this
  rw[this.2.1] at ht
  exact he ht⟩
theorem TFr.map {w w':World} {k:TypeId} {R:Value→Option (DataW Unit×List MemPlace)} {b m:Nat} {D:DataW Unit} (hm:w.ownsMap Tryz.prog k R b m D) (hg:w.grownBy w' (some b)):TFr w w' :=
 ⟨hg.os,hg.tape,hg.output,hg.size,fun q cs t z hq ht=>hg.block q (Array.getElem?_eq_some_iff.1 hq).1 fun h=>by
  obtain⟨es,clock,h1,_⟩:=hm
  rw[←Option.some.inj h] at h1
  rw[h1] at hq
  cases hq⟩
theorem zKk:¬TNo 152:=fun h=>h.2.2.1 rfl
theorem zKl:¬TNo 110:=fun h=>h.2.2.2.1 rfl
theorem zLR:¬TNo 117:=fun h=>h.2.2.2.2 rfl
theorem zFn:¬TNo 93:=fun h=>h.2.1 rfl
theorem zLS:¬TNo 203:=fun h=>h.1 rfl
theorem TFr.own {w w':World} {B:Nat} {e:TypeId} {s n:Nat} {v:Value} {xs:List Value} (h:TFr w w') (ho:w.ownsRow B e s v n xs) (he:TNo e):w'.ownsRow B e s v n xs :=
 ⟨ho.1,by
  rcases ho.2 with hn | ⟨g,cap,cur,hv,hg,hh,r⟩
  ·exact .inl hn
  ·exact .inr ⟨g,cap,cur,hv,hg,(h.block g cur e (0,0) hh he).trans hh,r⟩⟩
def XS (s r mb:Nat) (k:Nat):Prop:=k=r∨k=s∨k=mb
structure SkB (W:World) (s r mb:Nat) (sv pv:Value) (vs:List MVar) (pt:List (List Nat)):Prop where
 rlt:r<W.heap.size
 slt:s<W.heap.size
 mlt:mb<W.heap.size
 keep:∀w',Fr (XS s r mb) W w'→VArg w' sv vs∧zGG w' pv pt∧TabT w'
structure SkD (W w:World) (s r mb:Nat) (sv pv cv prv pav:Value) (L:List SV) (M:List Nat) (S:Sk):Prop where
 blkR:w.heap[r]? = some (.cells #[sv,pv,cv] 203)
 blkS:w.heap[s]? = some (.cells #[sv,.pointer (some ⟨r,0,none⟩),.int .i64 (S.fuel:Int),prv,.map (some mb),pav] 93)
 own:w.ownsRow W.heap.size 152 1 cv S.cs.length (u64s S.cs)
 lt36:∀z∈S.cs,z<2 ^ 36
 prf:zAt W.heap.size w prv L
 prfE:L.map (·.1)=S.proof
 map:w.ownsMap Tryz.prog 152 (unitElem (H:=Unit)) mb M.length (setU M)
 path:LOwn W.heap.size w pav S.path
 apart:∀x∈L,∀g,x.2.ownBlock=some g→pav.ownBlock≠some g
 fr:Fr (XS s r mb) W w
variable {W w w' w1 w2:World} {s r mb:Nat} {sv pv cv prv pav v':Value} {L:List SV} {M:List Nat} {S:Sk} {vs:List MVar} {pt:List (List Nat)}
theorem zGT {k:TypeId} {R:Value→Option (DataW Unit×List MemPlace)} {b m:Nat} {D:DataW Unit} (h:w.ownsMap Tryz.prog k R b m D) (hb:Below w.heap.size w w'):w'.ownsMap Tryz.prog k R b m D:=by
 obtain⟨es,clock,h1,h2⟩:=h
 exact⟨es,clock,(hb.block b (Array.getElem?_eq_some_iff.1 h1).1).trans h1,h2⟩
theorem SkD.below (h:SkD W w s r mb sv pv cv prv pav L M S) (hb:Below w.heap.size w w'):SkD W w' s r mb sv pv cv prv pav L M S :=
 ⟨(hb.block r (Array.getElem?_eq_some_iff.1 h.blkR).1).trans h.blkR,(hb.block s (Array.getElem?_eq_some_iff.1 h.blkS).1).trans h.blkS,zAD h.own hb,h.lt36,h.prf.below hb,h.prfE,zGT h.map hb,zAD h.path hb,h.apart,h.fr.trans (Fr.below hb)⟩
theorem SkD.rules (h:SkD W w s r mb sv pv cv prv pav L M S) (hB:SkB W s r mb sv pv vs pt):RulesAt w r sv pv cv vs pt S.cs :=
 ⟨(Array.getElem?_eq_some_iff.1 h.blkR).1,blk9 h.blkR 0 _ rfl,blk9 h.blkR 1 _ rfl,blk9 h.blkR 2 _ rfl,(hB.keep w h.fr).1,(hB.keep w h.fr).2.1,zDP h.own h.lt36,(hB.keep w h.fr).2.2⟩
theorem SkD.ns (h:SkD W w s r mb sv pv cv prv pav L M S):s≠mb:=zCJ h.blkS h.map
theorem SkD.nr (h:SkD W w s r mb sv pv cv prv pav L M S):r≠mb:=zCJ h.blkR h.map
theorem SkD.rs (h:SkD W w s r mb sv pv cv prv pav L M S):r≠s:=by
 rintro rfl
 have:=h.blkR.symm.trans h.blkS
 simp at this
theorem SkD.cells (h:SkD W w s r mb sv pv cv prv pav L M S):s<w.heap.size∧w.cell? ⟨s,0,none⟩=some sv∧w.cell? ⟨s,1,none⟩=some (.pointer (some ⟨r,0,none⟩))∧w.cell? ⟨s,2,none⟩=some (.int .i64 (S.fuel:Int))∧w.cell? ⟨s,3,none⟩=some prv∧w.cell? ⟨s,4,none⟩=some (.map (some mb))∧w.cell? ⟨s,5,none⟩=some pav :=
 ⟨(Array.getElem?_eq_some_iff.1 h.blkS).1,blk9 h.blkS 0 _ rfl,blk9 h.blkS 1 _ rfl,blk9 h.blkS 2 _ rfl,blk9 h.blkS 3 _ rfl,blk9 h.blkS 4 _ rfl,blk9 h.blkS 5 _ rfl⟩
theorem SkD.frz (h:SkD W w s r mb sv pv cv prv pav L M S) (i:Nat):w.frozen? ⟨s,i,none⟩=false:=frz9 h.blkS i
theorem zIQ (w:World) (p:Addr) (u:Value) (k:Nat) (hk:k≠p.block):(w.setCell p u).heap[k]? = w.heap[k]? := Below.heap_setCell _ _ _ _ hk
theorem zAt.set {base:Nat} {v:Value} {C:Nat} {cs:Array Value} {t:TypeId} (h:zAt base w v L) (hC:w.heap[C]? = some (.cells cs t)) (h1:t≠110) (h2:t≠117) (i:Nat) (u:Value):zAt base (w.setCell ⟨C,i,none⟩ u) v L :=
 ⟨zB1 h.1 hC h1 i u,fun x hx=>zB1 (h.2 x hx) hC h2 i u⟩
theorem SkD.setS {S':Sk} {prv' pav':Value} {L':List SV} (i:Nat) (u:Value) (hR:w.heap[r]? = some (.cells #[sv,pv,cv] 203))
 (hS:w.heap[s]? = some (.cells #[sv,.pointer (some ⟨r,0,none⟩),.int .i64 (S.fuel:Int),prv,.map (some mb),pav] 93))
 (hu:(#[sv,.pointer (some ⟨r,0,none⟩),.int .i64 (S.fuel:Int),prv,.map (some mb),pav]:Array Value).set! i u=#[sv,.pointer (some ⟨r,0,none⟩),.int .i64 (S'.fuel:Int),prv',.map (some mb),pav'])
 (hown:w.ownsRow W.heap.size 152 1 cv S'.cs.length (u64s S'.cs)) (hlt:∀z∈S'.cs,z<2 ^ 36) (hprf:zAt W.heap.size w prv' L') (hpe:L'.map (·.1)=S'.proof)
 (hmap:w.ownsMap Tryz.prog 152 (unitElem (H:=Unit)) mb M.length (setU M)) (hpath:LOwn W.heap.size w pav' S'.path) (hap:∀x∈L',∀g,x.2.ownBlock=some g→pav'.ownBlock≠some g) (hfr:Fr (XS s r mb) W w) :
 SkD W (w.setCell ⟨s,i,none⟩ u) s r mb sv pv cv prv' pav' L' M S':=by
 have hrs:r≠s:=by
  rintro rfl
  have:=hR.symm.trans hS
  simp at this
 refine⟨(zIQ w ⟨s,i,none⟩ u r hrs).trans hR,?_,zB1 hown hS (by decide) i u,hlt,hprf.set hS (by decide) (by decide) i u,hpe,hmap.setCell (Ne.symm (zCJ hS hmap)) u,zB1 hpath hS (by decide) i u,hap,hfr.setX (p:=⟨s,i,none⟩) (Or.inr (Or.inl rfl)) u⟩
 rw[heap_setCell_same w s i _ _ u hS,←hu]
 simp
theorem SkD.burn (h:SkD W w s r mb sv pv cv prv pav L M S) (f:Nat):SkD W (w.setCell ⟨s,2,none⟩ (.int .i64 (f:Int))) s r mb sv pv cv prv pav L M ⟨S.cs,f,S.proof,S.path⟩ :=
 SkD.setS (S:=S) 2 _ h.blkR h.blkS rfl h.own h.lt36 h.prf h.prfE h.map h.path h.apart h.fr
theorem SkD.cutp {g n c:Nat} (k:Nat) (hk:k≤n) (h:SkD W w s r mb sv pv cv prv (.slice (some ⟨g,0,none⟩) n c) L M S) (hn:n=S.path.length):SkD W (w.setCell ⟨s,5,none⟩ (.slice (some ⟨g,0,none⟩) k c)) s r mb sv pv cv prv (.slice (some ⟨g,0,none⟩) k c) L M ⟨S.cs,S.fuel,S.proof,S.path.take k⟩:=by
 refine SkD.setS (S:=S) 5 _ h.blkR h.blkS rfl h.own h.lt36 h.prf h.prfE h.map ?_ (fun x hx g' hg'=>h.apart x hx g' hg') h.fr
 subst hn
 have h0:=zK1 h.path
 rw[List.length_map] at h0
 have h1:=zDe k hk h0
 rw[zEh 3 k _ (zGL _),←List.map_take] at h1
 refine zK2 ?_
 rw[List.length_map,List.length_take,Nat.min_eq_left (by simpa using hk)]
 exact h1
theorem SkD.push {x:SV} {n:Nat} (h:SkD W w s r mb sv pv cv prv pav L M S) (hb:Below w.heap.size w w1) (hx:LOwn W.heap.size w1 x.2 x.1.cla) (hxa:∀g,x.2.ownBlock=some g→pav.ownBlock≠some g) (hg:w1.grownBy w2 prv.ownBlock) (hn:n=L.length+1)
 (ho:w2.ownsRow W.heap.size 110 3 v' n ((L.map zAl).flatten++zAl x)):SkD W (w2.setCell ⟨s,3,none⟩ v') s r mb sv pv cv v' pav (L++[x]) M ⟨S.cs,S.fuel,S.proof++[x.1],S.path⟩:=by
 have h1:=h.below hb
 refine SkD.setS (S:=S) 3 _ (zAq h1.blkR hg h1.prf.1 (by decide)) (zAq h1.blkS hg h1.prf.1 (by decide)) rfl (zAi h1.own hg h1.prf.1 (by decide)) h.lt36 (h1.prf.push hx hg hn ho) (by rw[List.map_append,h.prfE];rfl)
  (h1.map.kept hg (Ne.symm (zBS h1.prf.1 h1.map))) (zAi h1.path hg h1.prf.1 (by decide)) (fun y hy g hg'=>?_) (h1.fr.grown hg fun k hk=>Or.inr (h1.prf.1.lt k hk).1)
 rcases List.mem_append.1 hy with hy | hy
 ·exact h.apart y hy g hg'
 ·rw[List.mem_singleton.1 hy] at hg'
  exact hxa g hg'
theorem SkD.pushp {l:MLit} {n:Nat} (h:SkD W w s r mb sv pv cv prv pav L M S) (hb:Below w.heap.size w w1) (hg:w1.grownBy w2 pav.ownBlock) (hat:v'.ownBlock=pav.ownBlock∨v'.ownBlock=some w1.heap.size) (hn:n=S.path.length+1)
 (ho:w2.ownsRow W.heap.size 117 3 v' n (zAv S.path++zBq l)):SkD W (w2.setCell ⟨s,5,none⟩ v') s r mb sv pv cv prv v' L M ⟨S.cs,S.fuel,S.proof,S.path++[l]⟩:=by
 have h1:=h.below hb
 have hst:zAt W.heap.size w2 prv L:=⟨zAi h1.prf.1 hg h1.path (by decide),fun x hx=>by
  refine (h1.prf.2 x hx).kept hg ?_
  cases hxb:x.2.ownBlock with
  | none=>exact Or.inl rfl
  | some g=>exact Or.inr fun he=>h.apart x hx g hxb he.symm⟩
 refine SkD.setS (S:=S) 5 _ (zAq h1.blkR hg h1.path (by decide)) (zAq h1.blkS hg h1.path (by decide)) rfl (zAi h1.own hg h1.path (by decide)) h.lt36 hst h.prfE
  (h1.map.kept hg (Ne.symm (zBS h1.path h1.map))) ?_ (fun y hy g hg'=>?_) (h1.fr.grown hg fun k hk=>Or.inr (h1.path.lt k hk).1)
 ·show World.ownsRow _ _ _ _ _ _ _
  unfold zAv at *
  rw[List.length_append,List.length_singleton,←hn,List.flatMap_append]
  simpa using ho
 ·rcases hat with hat | hat
  ·rw[hat];exact h.apart y hy g hg'
  ·rw[hat]
   intro he
   have:=((h1.prf.2 y hy).lt g hg').2
   have:=Option.some.inj he
   omega
theorem SkD.key (h:SkD W w s r mb sv pv cv prv pav L M S) (z n:Nat) (hn:n=M.length+1) (hg:w.grownBy w' (some mb)) (hm:w'.ownsMap Tryz.prog 152 (unitElem (H:=Unit)) mb n ((setU M).put (.int .u64 (z:Int)) (.agg []))) :
 SkD W w' s r mb sv pv cv prv pav L (M++[z]) S:=by
 have ko:∀{B:Nat} {e:TypeId} {q n:Nat} {v:Value} {xs:List Value},w.ownsRow B e q v n xs→w'.ownsRow B e q v n xs:=fun ho=>ho.kept hg (Or.inr (zBS ho h.map))
 have kb:∀{q:Nat} {cs:Array Value} {t:TypeId},w.heap[q]? = some (.cells cs t)→w'.heap[q]? = some (.cells cs t):=fun hq=>(hg.block _ (Array.getElem?_eq_some_iff.1 hq).1 (fun he=>zCJ hq h.map (Option.some.inj he))).trans hq
 refine⟨kb h.blkR,kb h.blkS,ko h.own,h.lt36,⟨ko h.prf.1,fun x hx=>ko (h.prf.2 x hx)⟩,h.prfE,?_,ko h.path,h.apart,h.fr.grown hg fun k hk=>Or.inl (Or.inr (Or.inr (Option.some.inj hk).symm))⟩
 rw[zJa,List.length_append,List.length_singleton,←hn]
 exact hm
end
end Go.Proofs.YtdjbejlbmaiocafGreatDoor
