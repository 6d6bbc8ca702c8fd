/- What the proof leans on, part 22. -/
import Derived.Test.YtdjbejlbmaiocagGreatDoorPartAj
import Derived.Test.YtdjbejlbmaiocagGreatDoorPartAu
import Derived.Test.YtdjbejlbmaiocagGreatDoorPartAq
import Derived.Test.YtdjbejlbmaiocagGreatDoorPartAf
import Derived.Maps.OwnSet
import Derived.WalkKit
set_option maxRecDepth 100000
set_option maxHeartbeats 6400000
namespace Go.Proofs.YtdjbejlbmaiocagGreatDoor
section
open Go.RowKit Go.Maps
theorem Tryz.partKey:Keyed Tryz.prog 183:=int_keyed Tryz.underlying183
theorem Tryz.underThere:Tryz.prog.underlying 118=some (.map 183 211):=by kernel_rfl
def setU {H:Type} (l:List Nat):DataW H:=setOf (.agg []) (l.map fun z:Nat=>Lit.int .u64 (z:Int))
theorem zNx (x:Nat):∀l:List Nat,l.any ((fun y:Lit=>y.sameKey (.int .u64 (x:Int))) ∘ fun z:Nat=>Lit.int .u64 (z:Int))=l.contains x
 | []=>rfl
 | a :: r=>by
   rw[List.any_cons,List.contains_cons,zNx x r]
   congr 1
   show decide (IntKind.u64=IntKind.u64∧(a:Int)=(x:Int))=(x==a);by_cases e:a=x
   ·subst e
    simp
   ·have e':¬x=a:=fun h=>e h.symm
    have e2:¬(a:Int)=(x:Int):=fun h=>e (by omega)
    simp[e2,e']
theorem zNy {H:Type} (l:List Nat) (x:Nat):Maps.has (setU (H:=H) l) (.int .u64 (x:Int))=l.contains x:=by
 unfold setU;rw[has_setOf _ _ _ (fun y hy=>by obtain⟨_,_,rfl⟩:=List.mem_map.1 hy;trivial),List.any_map]
 exact zNx x _
theorem zQU {H:Type} (l:List Nat) (x:Nat):setU (H:=H) (l++[x])=(setU l).put (.int .u64 (x:Int)) (.agg []):=by
 unfold setU;rw[List.map_append];exact setOf_snoc _ _ _
theorem zSO (z:Nat) (h:z<2 ^ 36):keyOf Tryz.prog 183 (.int .u64 (z:Int))=some (.int .u64 (z:Int)):=keyOf_int_mk Tryz.underlying183 (WalkArith.wf_u64 (by omega))
theorem zDP {w:World} {B:Nat} {e:TypeId} {s n:Nat} {v:Value} {xs:List Value} {k:TypeId} {R:Value→Option (DataW Unit×List MemPlace)} {b m:Nat} {D:DataW Unit} (h:w.ownsRow B e s v n xs) (hm:w.ownsMap Tryz.prog k R b m D):v.ownBlock≠some b:=by
 intro he;obtain⟨es,clock,hb,_⟩:=hm;rcases h.2 with ⟨rfl,_⟩ | ⟨g,cap,cur,rfl,_,hg,_⟩
 ·cases he
 ·have:g=b:=by simpa[Value.ownBlock] using he
  subst this;rw[hb] at hg;cases hg
theorem zD8 {w:World} {q:Nat} {cs:Array Value} {t:TypeId} {k:TypeId} {R:Value→Option (DataW Unit×List MemPlace)} {b m:Nat} {D:DataW Unit} (h:w.heap[q]? = some (.cells cs t)) (hm:w.ownsMap Tryz.prog k R b m D):q≠b:=by
 rintro rfl;obtain⟨es,clock,hb,_⟩:=hm;rw[hb] at h;cases h
def TNo (t:TypeId):Prop:=t≠204∧t≠120∧t≠183∧t≠93∧t≠88
structure TFr (w w':World):Prop where
 os:w'.os=w.os
 tape:w'.tape=w.tape
 output:w'.output=w.output
 size:w.heap.size≤w'.heap.size
 block:∀(k:Nat) (cs:Array Value) (t:TypeId) (z:Nat×Nat),w.heap[k]? = some (.cells cs t z)→TNo t→w'.heap[k]? = w.heap[k]?
theorem TFr.refl (w:World):TFr w w:=⟨rfl,rfl,rfl,Nat.le_refl _,fun _ _ _ _ _ _=>rfl⟩
theorem TFr.trans {a b c:World} (h:TFr a b) (k:TFr b c):TFr a c :=
 ⟨k.os.trans h.os,k.tape.trans h.tape,k.output.trans h.output,Nat.le_trans h.size k.size,fun q cs t z hq ht=>(k.block q cs t z ((h.block q cs t z hq ht).trans hq) ht).trans (h.block q cs t z hq ht)⟩
theorem TFr.below {w w':World} (h:Below w.heap.size w w'):TFr w w':=⟨h.os,h.tape,h.output,h.size,fun k _ _ _ hk _=>h.block k (Array.getElem?_eq_some_iff.1 hk).1⟩
theorem TFr.grown {w w':World} {B:Nat} {e:TypeId} {s n:Nat} {v:Value} {xs:List Value} (ho:w.ownsRow B e s v n xs) (hg:w.grownBy w' v.ownBlock) (he:¬TNo e):TFr w w' :=
 ⟨hg.os,hg.tape,hg.output,hg.size,fun k cs t z hk ht=>hg.block k (Array.getElem?_eq_some_iff.1 hk).1 fun h=>by
   rcases ho.2 with ⟨rfl,_⟩ | ⟨g,cap,cur,rfl,_,hh,_⟩
   ·cases h
   ·have:k=g:=by simpa[Value.ownBlock] using h
    subst this;have:=hk.symm.trans hh;simp only[Option.some.injEq,Obj.cells.injEq] at this;rw[this.2.1] at ht;exact he ht⟩
theorem TFr.set {w:World} {C:Nat} {cs:Array Value} {t:TypeId} (hC:w.heap[C]? = some (.cells cs t)) (he:¬TNo t) (i:Nat) (u:Value):TFr w (w.setCell ⟨C,i,none⟩ u) :=
 ⟨rfl,rfl,rfl,by simp,fun k cs' t' z hk ht=>by
   refine Below.heap_setCell w ⟨C,i,none⟩ u k ?_;rintro rfl;have:=hk.symm.trans hC;simp only[Option.some.injEq,Obj.cells.injEq] at this;rw[this.2.1] at ht;exact he ht⟩
theorem TFr.map {w w':World} {k:TypeId} {R:Value→Option (DataW Unit×List MemPlace)} {b m:Nat} {D:DataW Unit} (hm:w.ownsMap Tryz.prog k R b m D) (hg:w.grownBy w' (some b)):TFr w w' :=
 ⟨hg.os,hg.tape,hg.output,hg.size,fun q cs t z hq ht=>hg.block q (Array.getElem?_eq_some_iff.1 hq).1 fun h=>by
   obtain⟨es,clock,h1,_⟩:=hm;rw[←Option.some.inj h] at h1;rw[h1] at hq;cases hq⟩
theorem zNz:¬TNo 183:=fun h=>h.2.2.1 rfl
theorem zSP:¬TNo 93:=fun h=>h.2.2.2.1 rfl
theorem zTa:¬TNo 88:=fun h=>h.2.2.2.2 rfl
theorem zKU:¬TNo 120:=fun h=>h.2.1 rfl
theorem zQV:¬TNo 204:=fun h=>h.1 rfl
theorem TFr.own {w w':World} {B:Nat} {e:TypeId} {s n:Nat} {v:Value} {xs:List Value} (h:TFr w w') (ho:w.ownsRow B e s v n xs) (he:TNo e):w'.ownsRow B e s v n xs :=
 ⟨ho.1,by
   rcases ho.2 with hn | ⟨g,cap,cur,hv,hg,hh,r⟩
   ·exact .inl hn
   ·exact .inr ⟨g,cap,cur,hv,hg,(h.block g cur e (0,0) hh he).trans hh,r⟩⟩
def XS (s r mb:Nat) (k:Nat):Prop:=k=r∨k=s∨k=mb
structure SkB (W:World) (s r mb:Nat) (sv pv:Value) (vs:List MVar) (pt:List (List Nat)):Prop where
 rlt:r<W.heap.size
 slt:s<W.heap.size
 mlt:mb<W.heap.size
 keep:∀w',Fr (XS s r mb) W w'→VArg w' sv vs∧zGA w' pv pt∧TabT w'
structure SkD (W w:World) (s r mb:Nat) (sv pv cv prv pav:Value) (L:List SV) (M:List Nat) (S:Sk):Prop where
 blkR:w.heap[r]? = some (.cells #[sv,pv,cv] 204)
 blkS:w.heap[s]? = some (.cells #[sv,.pointer (some ⟨r,0,none⟩),.int .i64 (S.fuel:Int),prv,.map (some mb),pav] 120)
 own:w.ownsRow W.heap.size 183 1 cv S.cs.length (u64s S.cs)
 lt36:∀z∈S.cs,z<2 ^ 36
 prf:zCP W.heap.size w prv L
 prfE:L.map (·.1)=S.proof
 map:w.ownsMap Tryz.prog 183 (unitElem (H:=Unit)) mb M.length (setU M)
 path:LOwn W.heap.size w pav S.path
 apart:∀x∈L,∀g,x.2.ownBlock=some g→pav.ownBlock≠some g
 fr:Fr (XS s r mb) W w
variable {W w w' w1 w2:World} {s r mb:Nat} {sv pv cv prv pav v':Value} {L:List SV} {M:List Nat} {S:Sk} {vs:List MVar} {pt:List (List Nat)}
theorem zLX {k:TypeId} {R:Value→Option (DataW Unit×List MemPlace)} {b m:Nat} {D:DataW Unit} (h:w.ownsMap Tryz.prog k R b m D) (hb:Below w.heap.size w w'):w'.ownsMap Tryz.prog k R b m D:=by
 obtain⟨es,clock,h1,h2⟩:=h;exact⟨es,clock,(hb.block b (Array.getElem?_eq_some_iff.1 h1).1).trans h1,h2⟩
theorem SkD.below (h:SkD W w s r mb sv pv cv prv pav L M S) (hb:Below w.heap.size w w'):SkD W w' s r mb sv pv cv prv pav L M S :=
 ⟨(hb.block r (Array.getElem?_eq_some_iff.1 h.blkR).1).trans h.blkR,(hb.block s (Array.getElem?_eq_some_iff.1 h.blkS).1).trans h.blkS,zAG h.own hb,h.lt36,h.prf.below hb,h.prfE,zLX h.map hb,zAG h.path hb,h.apart,h.fr.trans (Fr.below hb)⟩
theorem SkD.rules (h:SkD W w s r mb sv pv cv prv pav L M S) (hB:SkB W s r mb sv pv vs pt):RulesAt w r sv pv cv vs pt S.cs :=
 ⟨(Array.getElem?_eq_some_iff.1 h.blkR).1,blk9 h.blkR 0 _ rfl,blk9 h.blkR 1 _ rfl,blk9 h.blkR 2 _ rfl,(hB.keep w h.fr).1,(hB.keep w h.fr).2.1,zEh h.own h.lt36,(hB.keep w h.fr).2.2⟩
theorem SkD.ns (h:SkD W w s r mb sv pv cv prv pav L M S):s≠mb:=zD8 h.blkS h.map
theorem SkD.nr (h:SkD W w s r mb sv pv cv prv pav L M S):r≠mb:=zD8 h.blkR h.map
theorem SkD.rs (h:SkD W w s r mb sv pv cv prv pav L M S):r≠s:=by
 rintro rfl;have:=h.blkR.symm.trans h.blkS;simp at this
theorem SkD.cells (h:SkD W w s r mb sv pv cv prv pav L M S):s<w.heap.size∧w.cell? ⟨s,0,none⟩=some sv∧w.cell? ⟨s,1,none⟩=some (.pointer (some ⟨r,0,none⟩))∧w.cell? ⟨s,2,none⟩=some (.int .i64 (S.fuel:Int))∧w.cell? ⟨s,3,none⟩=some prv∧w.cell? ⟨s,4,none⟩=some (.map (some mb))∧w.cell? ⟨s,5,none⟩=some pav :=
 ⟨(Array.getElem?_eq_some_iff.1 h.blkS).1,blk9 h.blkS 0 _ rfl,blk9 h.blkS 1 _ rfl,blk9 h.blkS 2 _ rfl,blk9 h.blkS 3 _ rfl,blk9 h.blkS 4 _ rfl,blk9 h.blkS 5 _ rfl⟩
theorem SkD.frz (h:SkD W w s r mb sv pv cv prv pav L M S) (i:Nat):w.frozen? ⟨s,i,none⟩=false:=frz9 h.blkS i
theorem zEj (w:World) (p:Addr) (u:Value) (k:Nat) (hk:k≠p.block):(w.setCell p u).heap[k]? = w.heap[k]? := Below.heap_setCell _ _ _ _ hk
theorem zCP.set {base:Nat} {v:Value} {C:Nat} {cs:Array Value} {t:TypeId} (h:zCP base w v L) (hC:w.heap[C]? = some (.cells cs t)) (h1:t≠93) (h2:t≠88) (i:Nat) (u:Value):zCP base (w.setCell ⟨C,i,none⟩ u) v L :=
 ⟨zAu h.1 hC h1 i u,fun x hx=>zAu (h.2 x hx) hC h2 i u⟩
theorem SkD.setS {S':Sk} {prv' pav':Value} {L':List SV} (i:Nat) (u:Value) (hR:w.heap[r]? = some (.cells #[sv,pv,cv] 204))
 (hS:w.heap[s]? = some (.cells #[sv,.pointer (some ⟨r,0,none⟩),.int .i64 (S.fuel:Int),prv,.map (some mb),pav] 120))
 (hu:(#[sv,.pointer (some ⟨r,0,none⟩),.int .i64 (S.fuel:Int),prv,.map (some mb),pav]:Array Value).set! i u=#[sv,.pointer (some ⟨r,0,none⟩),.int .i64 (S'.fuel:Int),prv',.map (some mb),pav'])
 (hown:w.ownsRow W.heap.size 183 1 cv S'.cs.length (u64s S'.cs)) (hlt:∀z∈S'.cs,z<2 ^ 36) (hprf:zCP W.heap.size w prv' L') (hpe:L'.map (·.1)=S'.proof)
 (hmap:w.ownsMap Tryz.prog 183 (unitElem (H:=Unit)) mb M.length (setU M)) (hpath:LOwn W.heap.size w pav' S'.path) (hap:∀x∈L',∀g,x.2.ownBlock=some g→pav'.ownBlock≠some g) (hfr:Fr (XS s r mb) W w) :
 SkD W (w.setCell ⟨s,i,none⟩ u) s r mb sv pv cv prv' pav' L' M S':=by
 have hrs:r≠s:=by
  rintro rfl;have:=hR.symm.trans hS;simp at this
 refine⟨(zEj w ⟨s,i,none⟩ u r hrs).trans hR,?_,zAu hown hS (by decide) i u,hlt,hprf.set hS (by decide) (by decide) i u,hpe,hmap.setCell (Ne.symm (zD8 hS hmap)) u,zAu hpath hS (by decide) i u,hap,hfr.setX (p:=⟨s,i,none⟩) (Or.inr (Or.inl rfl)) u⟩
 rw[heap_setCell_same w s i _ _ u hS,←hu];simp
theorem SkD.burn (h:SkD W w s r mb sv pv cv prv pav L M S) (f:Nat):SkD W (w.setCell ⟨s,2,none⟩ (.int .i64 (f:Int))) s r mb sv pv cv prv pav L M ⟨S.cs,f,S.proof,S.path⟩ :=
 SkD.setS (S:=S) 2 _ h.blkR h.blkS rfl h.own h.lt36 h.prf h.prfE h.map h.path h.apart h.fr
theorem SkD.cutp {g n c:Nat} (k:Nat) (hk:k≤n) (h:SkD W w s r mb sv pv cv prv (.slice (some ⟨g,0,none⟩) n c) L M S) (hn:n=S.path.length):SkD W (w.setCell ⟨s,5,none⟩ (.slice (some ⟨g,0,none⟩) k c)) s r mb sv pv cv prv (.slice (some ⟨g,0,none⟩) k c) L M ⟨S.cs,S.fuel,S.proof,S.path.take k⟩:=by
 refine SkD.setS (S:=S) 5 _ h.blkR h.blkS rfl h.own h.lt36 h.prf h.prfE h.map ?_ (fun x hx g' hg'=>h.apart x hx g' hg') h.fr
 subst hn;have h0:=zS8 h.path;rw[List.length_map] at h0;have h1:=zGw k hk h0;rw[zIO 3 k _ (zLO _),←List.map_take] at h1;refine zS9 ?_;rw[List.length_map,List.length_take,Nat.min_eq_left (by simpa using hk)]
 exact h1
theorem SkD.push {x:SV} {n:Nat} (h:SkD W w s r mb sv pv cv prv pav L M S) (hb:Below w.heap.size w w1) (hx:LOwn W.heap.size w1 x.2 x.1.cla) (hxa:∀g,x.2.ownBlock=some g→pav.ownBlock≠some g) (hg:w1.grownBy w2 prv.ownBlock) (hn:n=L.length+1)
 (ho:w2.ownsRow W.heap.size 93 3 v' n ((L.map zBi).flatten++zBi x)):SkD W (w2.setCell ⟨s,3,none⟩ v') s r mb sv pv cv v' pav (L++[x]) M ⟨S.cs,S.fuel,S.proof++[x.1],S.path⟩:=by
 have h1:=h.below hb;refine SkD.setS (S:=S) 3 _ (zA6 h1.blkR hg h1.prf.1 (by decide)) (zA6 h1.blkS hg h1.prf.1 (by decide)) rfl (zBb h1.own hg h1.prf.1 (by decide)) h.lt36 (h1.prf.push hx hg hn ho) (by rw[List.map_append,h.prfE];rfl)
  (h1.map.kept hg (Ne.symm (zDP h1.prf.1 h1.map))) (zBb h1.path hg h1.prf.1 (by decide)) (fun y hy g hg'=>?_) (h1.fr.grown hg fun k hk=>Or.inr (h1.prf.1.lt k hk).1)
 rcases List.mem_append.1 hy with hy | hy
 ·exact h.apart y hy g hg'
 ·rw[List.mem_singleton.1 hy] at hg'
  exact hxa g hg'
theorem SkD.pushp {l:MLit} {n:Nat} (h:SkD W w s r mb sv pv cv prv pav L M S) (hb:Below w.heap.size w w1) (hg:w1.grownBy w2 pav.ownBlock) (hat:v'.ownBlock=pav.ownBlock∨v'.ownBlock=some w1.heap.size) (hn:n=S.path.length+1)
 (ho:w2.ownsRow W.heap.size 88 3 v' n (zBx S.path++zEF l)):SkD W (w2.setCell ⟨s,5,none⟩ v') s r mb sv pv cv prv v' L M ⟨S.cs,S.fuel,S.proof,S.path++[l]⟩:=by
 have h1:=h.below hb;have hst:zCP W.heap.size w2 prv L:=⟨zBb h1.prf.1 hg h1.path (by decide),fun x hx=>by
  refine (h1.prf.2 x hx).kept hg ?_;cases hxb:x.2.ownBlock with
  | none=>exact Or.inl rfl
  | some g=>exact Or.inr fun he=>h.apart x hx g hxb he.symm⟩
 refine SkD.setS (S:=S) 5 _ (zA6 h1.blkR hg h1.path (by decide)) (zA6 h1.blkS hg h1.path (by decide)) rfl (zBb h1.own hg h1.path (by decide)) h.lt36 hst h.prfE
  (h1.map.kept hg (Ne.symm (zDP h1.path h1.map))) ?_ (fun y hy g hg'=>?_) (h1.fr.grown hg fun k hk=>Or.inr (h1.path.lt k hk).1)
 ·show World.ownsRow _ _ _ _ _ _ _
  unfold zBx at *;rw[List.length_append,List.length_singleton,←hn,List.flatMap_append];simpa using ho
 ·rcases hat with hat | hat
  ·rw[hat];exact h.apart y hy g hg'
  ·rw[hat]
   intro he;have:=((h1.prf.2 y hy).lt g hg').2;have:=Option.some.inj he;omega
theorem SkD.key (h:SkD W w s r mb sv pv cv prv pav L M S) (z n:Nat) (hn:n=M.length+1) (hg:w.grownBy w' (some mb)) (hm:w'.ownsMap Tryz.prog 183 (unitElem (H:=Unit)) mb n ((setU M).put (.int .u64 (z:Int)) (.agg []))) :
 SkD W w' s r mb sv pv cv prv pav L (M++[z]) S:=by
 have ko:∀{B:Nat} {e:TypeId} {q n:Nat} {v:Value} {xs:List Value},w.ownsRow B e q v n xs→w'.ownsRow B e q v n xs:=fun ho=>ho.kept hg (Or.inr (zDP ho h.map))
 have kb:∀{q:Nat} {cs:Array Value} {t:TypeId},w.heap[q]? = some (.cells cs t)→w'.heap[q]? = some (.cells cs t):=fun hq=>(hg.block _ (Array.getElem?_eq_some_iff.1 hq).1 (fun he=>zD8 hq h.map (Option.some.inj he))).trans hq
 refine⟨kb h.blkR,kb h.blkS,ko h.own,h.lt36,⟨ko h.prf.1,fun x hx=>ko (h.prf.2 x hx)⟩,h.prfE,?_,ko h.path,h.apart,h.fr.grown hg fun k hk=>Or.inl (Or.inr (Or.inr (Option.some.inj hk).symm))⟩
 rw[zQU,List.length_append,List.length_singleton,←hn];exact hm
end
open Go.RowKit Go.Maps
theorem zJt (vs:List MVar) (t:MStep):∀(a p:List MStep),zAe vs (a++[t]) p=(if ((zAe vs a p).map fun x=>zAH vs x.cla).contains (zAH vs t.cla) then zAe vs a p else zAe vs a p++[t])
 | [],p=>by simp[zAe]
 | x :: r,p=>by rw[List.cons_append];unfold zAe;exact zJt vs t r _
theorem zLY (vs:List MVar):∀(a p:List MStep),(zAe vs a p).length≤p.length+a.length
 | [],p=>by simp[zAe]
 | x :: r,p=>by
   unfold zAe;have:=zLY vs r (if (p.map fun x=>zAH vs x.cla).contains (zAH vs x.cla) then p else p++[x])
   have h2:(if (p.map fun x=>zAH vs x.cla).contains (zAH vs x.cla) then p else p++[x]).length≤p.length+1:=by split <;> simp
   rw[List.length_cons];omega
theorem zOu (L:List SV):∀c∈L.map zBi,c.length=3:=by
 intro c hc;obtain⟨x,_,rfl⟩:=List.mem_map.1 hc;rfl
theorem zQW {base:Nat} {w:World} {a:Option Addr} {c:Nat} {T:List SV} (h:zCP base w (.slice a T.length c) T) (i:Nat) (x:SV) (hi:T[i]? = some x):∃b off,a=some ⟨b,off,none⟩∧b<w.heap.size ∧
 w.cell? ⟨b,off+i * 3,none⟩=some (.int .i64 x.1.kind)∧w.cell? ⟨b,off+i * 3+1,none⟩=some (.int .i64 x.1.con)∧w.cell? ⟨b,off+i * 3+2,none⟩=some x.2:=by
 rcases h.1.2 with ⟨he,hn⟩ | ⟨g,cap,cur,he,_,hh,_⟩
 ·have:=(List.getElem?_eq_some_iff.1 hi).1
  omega
 ·cases he
  have hc:∀(j:Nat) (u:Value),j<3→(zBi x)[j]? = some u→w.cell? ⟨g,i * 3+j,none⟩=some u:=fun j u hj hu=>by
   have hil:=(List.getElem?_eq_some_iff.1 hi).1;have h3:(T.map zBi).flatten[i * 3+j]? = some u:=by
    have h4:(T.map zBi)[i]? = some (zBi x):=by rw[List.getElem?_map,hi];rfl
    have h5:=zFO 3 i (T.map zBi) (zOu T);have h6:(T.map zBi).drop i=zBi x :: (T.map zBi).drop (i+1):=by
     have hl:i<(T.map zBi).length:=by simpa using hil
     rw[List.drop_eq_getElem_cons hl]
     congr 1
     rw[List.getElem?_eq_getElem hl] at h4;exact Option.some.inj h4
    have h7:((T.map zBi).flatten.drop (i * 3))[j]? = some u:=by
     rw[h5,h6,List.flatten_cons,List.getElem?_append_left (by simpa[zBi] using hj)]
     exact hu
    rwa [List.getElem?_drop] at h7
   have hlt:=(List.getElem?_eq_some_iff.1 h3).1;rw[h.1.1] at hlt;rw[h.1.cellAt (i * 3+j) hlt];exact h3
  refine⟨g,0,rfl,(Array.getElem?_eq_some_iff.1 hh).1,?_,?_,?_⟩
  ·have:=hc 0 _ (by omega) rfl
   simpa using this
  ·have:=hc 1 _ (by omega) rfl
   simpa using this
  ·have:=hc 2 _ (by omega) rfl
   simpa using this
def XP (s mb:Nat) (prv:Value) (k:Nat):Prop:=k=s∨k=mb∨prv.ownBlock=some k
structure PvI (W w:World) (s r mb:Nat) (sv pv cv prv pav:Value) (vs:List MVar) (S:Sk) (base:Nat) (stv:Value) (T:List SV) (k:Nat) (wr:World) (prv':Value) (L':List SV):Prop where
 sk:SkD W wr s r mb sv pv cv prv' pav L' ((zAe vs ((T.take k).map (·.1)) S.proof).map fun x=>zAH vs x.cla) ⟨S.cs,S.fuel,zAe vs ((T.take k).map (·.1)) S.proof,S.path⟩
 st:zCP base wr stv T
 ap:∀g,prv'.ownBlock=some g→stv.ownBlock≠some g
 fr:Fr (XP s mb prv) w wr
 hq:prv'.ownBlock=prv.ownBlock∨∀g,prv'.ownBlock=some g→w.heap.size≤g
 pb:∀g,pav.ownBlock=some g→g<base
 tf:TFr w wr
theorem PvI.below {W w:World} {s r mb:Nat} {sv pv cv prv pav:Value} {vs:List MVar} {S:Sk} {base:Nat} {stv:Value} {T:List SV} {k:Nat} {wr w2:World} {prv':Value} {L':List SV} (h:PvI W w s r mb sv pv cv prv pav vs S base stv T k wr prv' L') (hb:Below wr.heap.size wr w2):PvI W w s r mb sv pv cv prv pav vs S base stv T k w2 prv' L' :=
 ⟨h.sk.below hb,h.st.below hb,h.ap,h.fr.trans (Fr.below hb),h.hq,h.pb,h.tf.trans (TFr.below hb)⟩
theorem zQX (vs:List MVar) (hva:zAW vs) (pt:List (List Nat)) (W:World) (s r mb:Nat) (sv pv cv prv pav:Value) (hB:SkB W s r mb sv pv vs pt) (L:List SV) (S:Sk) (hS:S.proof.length≤6000) (T:List SV) (hT:T.length≤1500) (base:Nat) (stv:Value) (w:World)
 (hD:SkD W w s r mb sv pv cv prv pav L (S.proof.map fun x=>zAH vs x.cla) S) (hst:zCP base w stv T) (hbase:W.heap.size≤base) (hpb:∀g,pav.ownBlock=some g→g<base) (hqb:∀g,prv.ownBlock=some g→g<base) :
 Calls Tryz.prog 194 #[.pointer (some ⟨s,0,none⟩),stv] w fun e w'=>e=.returned (.tuple #[])∧∃prv' L',SkD W w' s r mb sv pv cv prv' pav L' ((zAe vs (T.map (·.1)) S.proof).map fun x=>zAH vs x.cla) ⟨S.cs,S.fuel,zAe vs (T.map (·.1)) S.proof,S.path⟩∧Fr (XP s mb prv) w w'∧TFr w w':=by
 obtain⟨i0,hi0,hz0,hz1,hz2⟩:=info_parts Tryz.infoStepF;have HVO:Hid (zAW vs):=hva;have HSB:Hid (SkB W s r mb sv pv vs pt):=hB;have HPL:Hid (∀k,(zAe vs ((T.take k).map (·.1)) S.proof).length≤7500):=fun k=>by
  have:=zLY vs ((T.take k).map (·.1)) S.proof
  rw[List.length_map,List.length_take] at this;omega
 have HALL:Hid ((T.take T.length).map (·.1)=T.map (·.1)):=by show _=_;rw[List.take_length]
 have HI:Hid (PvI W w s r mb sv pv cv prv pav vs S base stv T 0 w prv L):=by
  refine⟨hD,hst,fun g hg he=>?_,Fr.refl _ _,Or.inl rfl,hpb,TFr.refl _⟩
  have:=hqb g hg;have:=(hst.1.lt g he).1;omega
 obtain⟨asv,csv,hsv⟩:∃a c,sv=.slice a vs.length c:=by obtain⟨a,c,h,_⟩:=(hB.keep w hD.fr).1;exact⟨a,c,h⟩
 obtain⟨ast,cst,rfl⟩:=zAB hst.1;have hTm:T.length≤1500:=hT;have HBA:Hid (W.heap.size≤base):=hbase;subst hsv;clear hD hst hva hB hpb hqb hT hbase;go_enter Tryz.func194,Tryz.ntmps194
 go_wp2_with fail
 go_loopw [11] (fun i wr=>∃(k:Nat) (prv':Value) (L':List SV),k≤T.length∧i=.int .i64 k∧PvI W w s r mb (.slice asv vs.length csv) pv cv prv pav vs S base (.slice ast T.length cst) T k wr prv' L') (fun i _=>T.length - (intOf i).toNat)
 case atStart=>exact⟨0,prv,L,by omega,rfl,HI.out⟩
 case round =>
  obtain⟨k,prv',L',hk,rfl,hI⟩:=hrel;have HJ:Hid (PvI W w s r mb (.slice asv vs.length csv) pv cv prv pav vs S base (.slice ast T.length cst) T k wr prv' L'):=hI;clear hI HI;by_cases hlt:k<T.length
  ·obtain⟨x,hx⟩:∃x,T[k]? = some x:=⟨T[k],by simp[hlt]⟩
   obtain⟨b,off,ha,hbl,c0,c1,c2⟩:=zQW HJ.out.st k x hx;subst ha;obtain⟨⟨xk,xc,xcl⟩,xv⟩:=x;have HXL:Hid (LOwn base wr xv xcl):=HJ.out.st.2 _ (List.mem_of_getElem? hx);obtain⟨axv,cxv,rfl⟩:=zAB (show wr.ownsRow _ _ _ _ _ _ from HXL.out)
   simp only at c0 c1 c2;have HP1:Hid (zAe vs ((T.take (k+1)).map (·.1)) S.proof=(if ((zAe vs ((T.take k).map (·.1)) S.proof).map fun x=>zAH vs x.cla).contains (zAH vs xcl) then zAe vs ((T.take k).map (·.1)) S.proof else zAe vs ((T.take k).map (·.1)) S.proof++[⟨xk,xc,xcl⟩])):=by
    show _=_;rw[List.take_add_one,hx,List.map_append];exact zJt vs _ _ _
   have hpl:=HPL.out k;clear hx;go_wp2_with fail
   obtain⟨Y,hY⟩:∃Y,wr.alloc (.cells #[.int .i64 xk,.int .i64 xc,.slice axv xcl.length cxv] 93)=Y:=⟨_,rfl⟩;rw[hY];have hBY:Below wr.heap.size wr Y:=by rw[←hY];exact zAA _ _
   have HJY:Hid (PvI W w s r mb (.slice asv vs.length csv) pv cv prv pav vs S base (.slice (some ⟨b,off,none⟩) T.length cst) T k Y prv' L'):=HJ.out.below hBY;have HXY:Hid (LOwn base Y (.slice axv xcl.length cxv) xcl):=zAG (show wr.ownsRow _ _ _ _ _ _ from HXL.out) hBY
   obtain⟨q,hq⟩:∃q,wr.heap.size=q:=⟨_,rfl⟩;have d0:Y.cell? ⟨q,0,none⟩=some (.int .i64 xk):=by rw[←hY,←hq];simp
   have d1:Y.cell? ⟨q,1,none⟩=some (.int .i64 xc):=by rw[←hY,←hq];simp
   have d2:Y.cell? ⟨q,2,none⟩=some (.slice axv xcl.length cxv):=by rw[←hY,←hq];simp
   have dl:q<Y.heap.size:=by rw[←hY,←hq];simp
   rw[hq];have HQW:Hid (W.heap.size≤q):=by rw[←hq];exact HJ.out.sk.fr.size
   have HJQ:Hid (∀g,prv'.ownBlock=some g→g<q):=fun g hg=>by rw[←hq];exact (HJ.out.sk.prf.1.lt g hg).2
   obtain⟨s0,s1,s2,s3,s4,s5,s6⟩:=HJY.out.sk.cells;obtain⟨h,hh⟩:∃h,zAH vs xcl=h:=⟨_,rfl⟩;have HH36:Hid (h<2 ^ 36):=by rw[←hh];exact zGN vs HVO.out.1 _
   rw[hh] at HP1;have HHE:Hid (∀Z,Below Y.heap.size Y Z→Calls Tryz.prog 128 #[.slice asv vs.length csv,.slice axv xcl.length cxv] Z fun e w'=>e=.returned (.int .u64 (h:Int))∧Below Z.heap.size Z w'):=fun Z hZ=>by
    rw[←hh];exact zEL vs HVO.out xcl _ _ Z ((HSB.out.keep _ ((HJY.out.below hZ).sk.fr)).1) (LOwn.arg (zAG (show Y.ownsRow _ _ _ _ _ _ from HXY.out) hZ))
   have HHH:Hid (zAH vs xcl=h):=hh;clear hh hY hBY HJ HXL c0 c1 c2 hbl hq;go_region_law
    (first
      | (rw[if_pos (by rfl)];go_simp;go_at_call 128;refine (HHE.out _ (Below.refl _ _).drew).mono ?_;rintro e w3 ⟨rfl,hb3⟩;have hB3:Below Y.heap.size Y w3:=(Below.refl _ _).drew.trans hb3;dsimp only))
   all_goals
    have HJ3:Hid (PvI W w s r mb (.slice asv vs.length csv) pv cv prv pav vs S base (.slice (some ⟨b,off,none⟩) T.length cst) T k w3 prv' L'):=HJY.out.below hB3;have HX3:Hid (LOwn base w3 (.slice axv xcl.length cxv) xcl):=zAG (show Y.ownsRow _ _ _ _ _ _ from HXY.out) hB3
    have e0:=(hB3.cell (p:=⟨q,0,none⟩) dl).trans d0;have e1:=(hB3.cell (p:=⟨q,1,none⟩) dl).trans d1;have e2:=(hB3.cell (p:=⟨q,2,none⟩) dl).trans d2;have el:q<w3.heap.size:=Nat.lt_of_lt_of_le dl hB3.size;have hkey:=zSO h HH36.out;clear d0 d1 d2 dl s0 s1 s2 s3 s4 s5 s6 hb3 hB3 HJY HXY HHE;obtain⟨s0,s1,s2,s3,s4,s5,s6⟩:=HJ3.out.sk.cells;have hmap:=HJ3.out.sk.map;obtain⟨P,hP⟩:∃P,zAe vs ((T.take k).map (·.1)) S.proof=P:=⟨_,rfl⟩
    rw[hP] at HP1 hmap hpl;cases hc:(P.map fun x=>zAH vs x.cla).contains h
    ·rw[hc] at HP1
     have hh:Maps.has (setU (H:=Unit) (P.map fun x=>zAH vs x.cla)) (.int .u64 (h:Int))=false:=by rw[zNy];exact hc
     clear hc;go_wp2_with (first
      | (at_lookup;refine wpList_lookup_own_unit _ rfl _ _ 118 rfl 183 211 Tryz.partKey Tryz.underThere (Tryz.zeroUnit _) mb _ _ rfl hmap _ _ rfl hkey ?_)
      | (at_mapUpdate;refine wpList_mapUpdate_own _ rfl _ _ _ 118 rfl 183 211 Tryz.partKey Tryz.underThere (unitElem (H:=Unit)) mb _ _ rfl (hmap.alloc _) (by unfold maxLen;rw[List.length_map];omega) _ _ _ rfl rfl hkey _ [] unitElem_mk ?_;intro w5 hown5 hg5)
      | fail)
     have hsk:=HJ3.out.sk;rw[hP] at hsk;have HK5:Hid (SkD W w5 s r mb (.slice asv vs.length csv) pv cv prv' pav L' ((P.map fun x=>zAH vs x.cla)++[h]) ⟨S.cs,S.fuel,P,S.path⟩):=(hsk.below (zAA _ _)).key h _ rfl hg5 hown5
     have hmlt:mb<w3.heap.size:=hmap.lt;have hqm:some q≠some mb:=fun he=>by
      have h1:=HSB.out.mlt;have h2:=HQW.out;have:=Option.some.inj he;omega
     have f0:w5.cell? ⟨q,0,none⟩=some (.int .i64 xk):=hg5.cell (((zAA _ _).cell (p:=⟨q,0,none⟩) el).trans e0) hqm;have f1:w5.cell? ⟨q,1,none⟩=some (.int .i64 xc):=hg5.cell (((zAA _ _).cell (p:=⟨q,1,none⟩) el).trans e1) hqm;have f2:w5.cell? ⟨q,2,none⟩=some (.slice axv xcl.length cxv):=hg5.cell (((zAA _ _).cell (p:=⟨q,2,none⟩) el).trans e2) hqm;have fl:q<w5.heap.size:=by have:=hg5.size;simp at this;omega
     have km:∀{B:Nat} {e:TypeId} {n1 n2:Nat} {v:Value} {xs:List Value},w3.ownsRow B e n1 v n2 xs→w5.ownsRow B e n1 v n2 xs:=fun ho=>(ho.alloc (.cells #[] 211)).kept hg5 (Or.inr (zDP (ho.alloc (.cells #[] 211)) (hmap.alloc (.cells #[] 211))))
     have HX5:Hid (LOwn base w5 (.slice axv xcl.length cxv) xcl):=km HX3.out;have HT5:Hid (zCP base w5 (.slice (some ⟨b,off,none⟩) T.length cst) T):=⟨km HJ3.out.st.1,fun y hy=>km (HJ3.out.st.2 y hy)⟩
     have HF5:Hid (Fr (XP s mb prv) w w5):=(HJ3.out.fr.alloc _).grown hg5 (fun k hk=>Or.inl (Or.inr (Or.inl (Option.some.inj hk).symm)))
     have HTF5:Hid (TFr w w5):=(HJ3.out.tf.trans (TFr.below (zAA _ _))).trans (TFr.map (hmap.alloc _) hg5);have HAP:Hid (∀g,prv'.ownBlock=some g→(Value.slice (some ⟨b,off,none⟩) T.length cst).ownBlock≠some g):=HJ3.out.ap;have HHQ:Hid (prv'.ownBlock=prv.ownBlock∨∀g,prv'.ownBlock=some g→w.heap.size≤g):=HJ3.out.hq;have HPB:Hid (∀g,pav.ownBlock=some g→g<base):=HJ3.out.pb;have hLP:L'.length≤7500:=by have h9:=hsk.prfE;simp only at h9;rw[←h9,List.length_map] at hpl;exact hpl
     clear hg5 hown5 hmap km hsk hkey hh s0 s1 s2 s3 s4 s5 s6 e0 e1 e2 el HJ3 HX3 hqm hmlt;obtain⟨apr,cpr,rfl⟩:=zAB HK5.out.prf.1;obtain⟨s0,s1,s2,s3,s4,s5,s6⟩:=HK5.out.cells;have hWs:W.heap.size≤w5.heap.size:=HK5.out.fr.size;have hop:w5.ownsRow W.heap.size 93 3 (.slice apr L'.length cpr) L'.length (L'.map zBi).flatten:=HK5.out.prf.1;go_wp2_with fail
     go_region_law
      (first
        | (rw[if_pos (by rfl)];refine zDn _ _ _ 27 rfl W.heap.size 93 i0 _ 3 40 Tryz.underStepsF hi0 hz0 hz1 hz2 rfl (by decide) _ _ _ rfl (hop.drew.alloc _) ⟨w5.heap.size,0,none⟩ 1 1 (zBi (⟨xk,xc,xcl⟩,.slice axv xcl.length cxv)) rfl rfl (zIT w5.drew (⟨xk,xc,xcl⟩,.slice axv xcl.length cxv)) (by intro u hu;simp[zBi] at hu;rcases hu with rfl | rfl | rfl <;> rfl) ?_ ?_ ?_ ?_;(unfold maxLen;omega);omega;(simp;omega);intro v7 w7 hown7 hg7 hat7;obtain⟨a7,c7,hv7⟩:=zAB hown7;subst hv7
           have hbl7:=zA6 (HK5.out.below ((Below.refl _ _).drew.alloc (Nat.le_refl _) _)).blkS hg7 (hop.drew.alloc _) (by decide)
           have t3:w7.cell? ⟨s,3,none⟩=some (.slice apr L'.length cpr):=blk9 hbl7 3 _ rfl;have z3:w7.frozen? ⟨s,3,none⟩=false:=frz9 hbl7 3;have l3:s<w7.heap.size:=(Array.getElem?_eq_some_iff.1 hbl7).1))
     all_goals
      have HJ4:Hid (PvI W w s r mb (.slice asv vs.length csv) pv cv prv pav vs S base (.slice (some ⟨b,off,none⟩) T.length cst) T (k+1) (w7.setCell ⟨s,3,none⟩ (.slice a7 (L'.length+1) c7)) (.slice a7 (L'.length+1) c7) (L'++[(⟨xk,xc,xcl⟩,.slice axv xcl.length cxv)])):=by
       have hb5:Below w5.heap.size w5 (w5.drew.alloc (.cells #[.int .i64 xk,.int .i64 xc,.slice axv xcl.length cxv] 93)):=(Below.refl _ _).drew.alloc (Nat.le_refl _) _;have h2:zAe vs ((T.take (k+1)).map (·.1)) S.proof=P++[⟨xk,xc,xcl⟩]:=by rw[HP1.out];rfl
       have hx1:LOwn base (w5.drew.alloc (.cells #[.int .i64 xk,.int .i64 xc,.slice axv xcl.length cxv] 93)) (.slice axv xcl.length cxv) xcl:=zAG (show w5.ownsRow _ _ _ _ _ _ from HX5.out) hb5
       have hpush:=HK5.out.push (x:=(⟨xk,xc,xcl⟩,.slice axv xcl.length cxv)) hb5 (zBS HBA.out hx1) (fun g hg he=>by
        have:=HPB.out g he;have:=(World.ownsRow.lt (show w5.ownsRow _ _ _ _ _ _ from HX5.out) g hg).1
        omega) hg7 rfl hown7
       have hT7:zCP base w7 (.slice (some ⟨b,off,none⟩) T.length cst) T:=by
        have hT6:=HT5.out.below hb5;refine⟨hT6.1.kept hg7 ?_,fun y hy=>zBb (hT6.2 y hy) hg7 (hop.drew.alloc _) (by decide)⟩
        cases hpo:(Value.slice (some ⟨b,off,none⟩) T.length cst).ownBlock with
        | none=>exact Or.inl rfl
        | some g=>exact Or.inr fun he=>HAP.out g he.symm hpo
       refine⟨?_,hT7.set hbl7 (by decide) (by decide) 3 _,fun g hg he=>?_,?_,?_,HPB.out,((HTF5.out.trans (TFr.below hb5)).trans (TFr.grown (hop.drew.alloc _) hg7 zSP)).trans (TFr.set hbl7 zKU 3 _)⟩
       ·rw[h2,List.map_append]
        simp only[List.map_cons,List.map_nil,HHH.out];exact hpush
       ·rcases hat7 with hat | hat
        ·exact HAP.out g (hat.symm.trans hg) he
        ·rw[hat] at hg
         have:=(HT5.out.1.lt g he).2;have:=Option.some.inj hg;simp at this;omega
       ·refine ((HF5.out.trans (Fr.below hb5)).grown hg7 (fun k hk=>?_)).setX (p:=⟨s,3,none⟩) (Or.inl rfl) _
        rcases HHQ.out with hq | hq
        ·exact Or.inl (Or.inr (Or.inr (hq.symm.trans hk)))
        ·exact Or.inr (hq k hk)
       ·rcases hat7 with hat | hat
        ·rcases HHQ.out with hq | hq
         ·exact Or.inl (hat.trans hq)
         ·exact Or.inr fun g hg=>hq g (hat.symm.trans hg)
        ·refine Or.inr fun g hg=>?_
         rw[hat] at hg;have:=HF5.out.size;have:=Option.some.inj hg;simp at this;omega
      go_wp2
      go_roundw
      case rel=>exact⟨k+1,_,_,by omega,by go_num,HJ4.out⟩
      case measure=>simp[intOf];omega
    ·rw[hc] at HP1
     have hh:Maps.has (setU (H:=Unit) (P.map fun x=>zAH vs x.cla)) (.int .u64 (h:Int))=true:=by rw[zNy];exact hc
     clear hc;go_wp2_with (first
      | (at_lookup;refine wpList_lookup_own_unit _ rfl _ _ 118 rfl 183 211 Tryz.partKey Tryz.underThere (Tryz.zeroUnit _) mb _ _ rfl hmap _ _ rfl hkey ?_)
      | fail)
     have HJ4:Hid (PvI W w s r mb (.slice asv vs.length csv) pv cv prv pav vs S base (.slice (some ⟨b,off,none⟩) T.length cst) T (k+1) (w3.alloc (.cells #[] 211)) prv' L'):=by
      have h1:=HJ3.out.below (zAA w3 (.cells #[] 211));have h2:zAe vs ((T.take (k+1)).map (·.1)) S.proof=zAe vs ((T.take k).map (·.1)) S.proof:=by rw[HP1.out,hP];rfl
      refine⟨?_,h1.st,h1.ap,h1.fr,h1.hq,h1.pb,h1.tf⟩;rw[h2];exact h1.sk
     go_roundw
     case rel=>exact⟨k+1,_,_,by omega,by go_num,HJ4.out⟩
     case measure=>simp[intOf];omega
  ·have hkt:k=T.length:=by omega
   subst hkt;have HF:=HJ.out.sk;rw[HALL.out] at HF;have HFR:=HJ.out.fr;have HTR:=HJ.out.tf;go_wp2
   go_end0
   exact⟨rfl,_,_,HF,HFR,HTR⟩
end Go.Proofs.YtdjbejlbmaiocagGreatDoor
