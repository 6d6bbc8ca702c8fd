/- What the proof leans on, part 18. -/
import Derived.Test.YtdjbejlbmaiocagGreatDoorPartAq
import Derived.Lib.SliceRun
import Derived.Deep.Onto
import Derived.Deep.RegionLaw
import Derived.Shelf.RegionOpenPlain
import Derived.KernelRfl
import Derived.Test.YtdjbejlbmaiocagGreatDoorPartAj
set_option maxRecDepth 100000
set_option maxHeartbeats 1600000
namespace Go.Proofs.YtdjbejlbmaiocagGreatDoor
open Go.RowKit
theorem zKQ (T:TypeId) (hT:Tryz.prog.underlying T=some (.slice 88)) (w:World) (ty:TypeId) (base n c:Nat) (v:Value) (xs:List Value) (hown:w.ownsRow base 88 3 v n xs) :
 (Builtin.append_ #[T,T] ty #[v,.slice none 0 c]).run Tryz.prog w=.ok v w:=by
 obtain⟨i0,hi,hz0,hz1,hz2⟩:=info_parts Tryz.infoLit;rcases hown.2 with ⟨rfl,rfl⟩ | ⟨g,cap,cur,rfl,_,_,hnc,_⟩
 ·simp[Builtin.append_,run_underlying hT,sizeOf,typeInfo,hi,Builtin.lenOf,Builtin.firstCells]
 ·simp[Builtin.append_,run_underlying hT,sizeOf,typeInfo,hi,Builtin.lenOf,Builtin.firstCells,hnc,storeCells]
theorem zSJ (l:Cla):∀u∈zBx l,u.oneCell'=true:=by
 intro u hu;obtain⟨t,_,ht⟩:=List.mem_flatMap.1 hu;simp[zEF] at ht;rcases ht with rfl | rfl | rfl <;> rfl
theorem zMp (l:Cla) (j:Nat) (y:Value) (h:(zBx l)[j]? = some y):∃(i:Nat) (t:MLit),l[i]? = some t∧((j=i * 3∧y=.int .i64 t.var)∨(j=i * 3+1∧y=.int .i64 t.op)∨(j=i * 3+2∧y=.int .i64 t.n)):=by
 have hj:j<l.length * 3:=by rw[←zJp];exact (List.getElem?_eq_some_iff.1 h).1
 have hi:j / 3<l.length:=by omega
 obtain⟨g0,g1,g2⟩:=zJq l (j / 3) l[j / 3] (by simp[hi])
 refine⟨j / 3,l[j / 3],by simp[hi],?_⟩
 rcases (by omega:j=j / 3 * 3∨j=j / 3 * 3+1∨j=j / 3 * 3+2) with hq | hq | hq
 ·rw[←hq,h] at g0;exact Or.inl ⟨hq,Option.some.inj g0⟩
 ·rw[←hq,h] at g1;exact Or.inr (Or.inl ⟨hq,Option.some.inj g1⟩)
 ·rw[←hq,h] at g2;exact Or.inr (Or.inr ⟨hq,Option.some.inj g2⟩)
theorem zC4 (T:TypeId) (hT:Tryz.prog.underlying T=some (.slice 88)) {w:World} {ops:Array Oper} {rest:List Oper} {o:Oper} {a:Act} {Q:Exit→Act→World→Prop} (hgd:o.guard=none) (s x:Operand)
 (ho:o.op=.call { callee:=.builtin .append,args:=#[s,x],argTypes:=#[T,T] }) (base:Nat)
 (v:Value) (xs:Cla) (hs:a.eval s=v) (hown:LOwn base w v xs)
 (u:Value) (l:Cla) (hx:a.eval x=u) (hl:LArg w u l) (hn:xs.length+l.length≤1000) (hbase:base≤w.heap.size)
 (h:∀v' w',LOwn base w' v' (xs++l)→w.grownBy w' v.ownBlock→wpList Tryz.prog ops Q rest (a.put o.dst v') w'):wpList Tryz.prog ops Q (o :: rest) a w:=by
 obtain⟨i0,hi,hz0,hz1,hz2⟩:=info_parts Tryz.infoLit;obtain⟨q,c,rfl,hm,hc⟩:=hl;have hown':w.ownsRow base 88 3 v xs.length (zBx xs):=hown;cases q with
 | none =>
   have hl0:l=[]:=by
    cases l with
    | nil=>rfl
    | cons z r=>obtain⟨b,off,hq,_⟩:=hc 0 z rfl;cases hq
   subst hl0;refine wpList_plain hgd fun K hK=>?_
   have hr:=zKQ T hT w o.type base xs.length c v _ hown';unfold Oper.wp execOp;simp only[ho,resolve,invoke,builtin,Sem.run_bind,Sem.run_pure,Result.andThen_ok,List.map_toArray,List.map_cons,List.map_nil,hs,hx,List.length_nil,hr];exact hK _ _ (h v w (by rw[List.append_nil];exact hown) ⟨rfl,rfl,rfl,Nat.le_refl _,fun _ _ _=>rfl⟩)
 | some ad =>
   refine wpList_append_own w hgd s x T ho base 88 i0 (.agg #[.int .i64 0,.int .i64 0,.int .i64 0]) 3 24 hT hi hz0 hz1 hz2 rfl (by decide) v xs.length _ hs hown' ad l.length c (zBx l) hx (zJp l) ?_ (zSJ l) (by unfold maxLen;omega) (by omega) hbase ?_
   ·intro j y hy
    obtain⟨i,t,ht,hcase⟩:=zMp l j y hy;obtain⟨b,off,hq,_,c0,c1,c2⟩:=hc i t ht;cases hq
    rw[zJM];rcases hcase with ⟨rfl,rfl⟩ | ⟨rfl,rfl⟩ | ⟨rfl,rfl⟩
    ·exact c0
    ·rw[←Nat.add_assoc];exact c1
    ·rw[←Nat.add_assoc];exact c2
   ·intro v' w' h1 h2 h3
    refine h v' w' ?_ h2;show w'.ownsRow _ _ _ _ _ _;unfold zBx at *;rw[List.length_append,List.flatMap_append];exact h1
theorem zTX (w:World):LArg w (.slice none 0 0) []:=⟨none,0,rfl,⟨Nat.le_refl _,Nat.zero_le _⟩,fun i z hz=>by simp at hz⟩
theorem zQQ {w:World} {l:Cla} {n c:Nat} (h:LArg w (.slice none n c) l):l=[]:=by
 obtain⟨a,c2,he,_,hr⟩:=h;cases l with
 | nil=>rfl
 | cons z r =>
   obtain⟨b,off,hq,_⟩:=hr 0 z rfl;rw[hq] at he;cases he
theorem zBS {base base':Nat} {w:World} {v:Value} {l:Cla} (hb:base'≤base) (h:LOwn base w v l):LOwn base' w v l:=World.ownsRow.mono h hb
theorem zHN (w:World):LOwn w.heap.size (w.alloc (.cells #[] 88)) (.slice (some ⟨w.heap.size,0,none⟩) 0 0) []:=World.ownsRow_made w #[] 0 (Nat.le_refl _) (Nat.zero_le _) (by simp)
theorem zD6:Tryz.prog.underlying 38=some (.slice 88):=by kernel_rfl
theorem zLM (l:Cla) (hl:l.length≤900) (u:Value) (w:World) (hu:LArg w u l) :
 Calls Tryz.prog 257 #[u] w fun e w'=>∃x,e=.returned x∧LOwn w.heap.size w' x l∧Below w.heap.size w w':=by
 have HU:Hid (∀w',Below w.heap.size w w'→LArg w' u l):=fun w' h=>LArg.below h hu
 have q22:∀(w:World) (a:Option Addr) (n c n' c':Nat),(binOp .eql 38 (.slice a n c) (.slice none n' c')).run Tryz.prog w=.ok (.bool a.isNone) w:=fun w a n c n' c'=>Lib.run_eql_slice_nil w _ _ a n c n' c' zD6
 obtain⟨a,c,he,_,_⟩:=id hu;subst he;cases a with
 | none =>
   have:=zQQ hu;subst this;clear hu HU;go_enter Tryz.func257,Tryz.ntmps257
   go_wp2
   go_ret
   exact⟨_,rfl,World.ownsRow_nil _ _ _ _,Below.refl _ _⟩
 | some ad =>
   have HL:Hid (l.length≤900):=hl;clear hu hl;go_enter Tryz.func257,Tryz.ntmps257
   go_wp2_with (at_builtin;refine zC4 38 zD6 rfl _ _ rfl w.heap.size _ [] rfl (zHN w) _ l rfl (HU.out _ (zAA _ _)) ?c1 ?c2 ?_)
   case c1=>have:=HL.out;simp;omega
   case c2=>simp
   intro v3 w3 hown3 hgrow;have HB3:Hid (Below w.heap.size w w3):=(zAA _ _).grown hgrow (by simp) (by intro k hk;simp[Value.ownBlock] at hk;omega)
   have HO3:Hid (LOwn w.heap.size w3 v3 l):=hown3;obtain⟨av,cv,rfl⟩:=zAB (show w3.ownsRow _ _ _ _ _ _ from hown3)
   clear hown3 hgrow;go_wp2
   go_ret
   exact⟨_,rfl,HO3.out,HB3.out⟩
theorem zCb:Tryz.prog.underlying 37=some (.slice 88):=by kernel_rfl
theorem zJr (l:Cla) (hl:l.length≤900) (u:Value) (w:World) (hu:LArg w u l) :
 Calls Tryz.prog 279 #[u] w fun e w'=>∃x,e=.returned x∧LOwn w.heap.size w' x l∧Below w.heap.size w w':=by
 have HU:Hid (∀w',Below w.heap.size w w'→LArg w' u l):=fun w' h=>LArg.below h hu
 have q22:∀(w:World) (a:Option Addr) (n c n' c':Nat),(binOp .eql 37 (.slice a n c) (.slice none n' c')).run Tryz.prog w=.ok (.bool a.isNone) w:=fun w a n c n' c'=>Lib.run_eql_slice_nil w _ _ a n c n' c' zCb
 obtain⟨a,c,he,_,_⟩:=id hu;subst he;cases a with
 | none =>
   have:=zQQ hu;subst this;clear hu HU;go_enter Tryz.func279,Tryz.ntmps279
   go_wp2
   go_ret
   exact⟨_,rfl,World.ownsRow_nil _ _ _ _,Below.refl _ _⟩
 | some ad =>
   have HL:Hid (l.length≤900):=hl;clear hu hl;go_enter Tryz.func279,Tryz.ntmps279
   go_wp2_with (at_builtin;refine zC4 37 zCb rfl _ _ rfl w.heap.size _ [] rfl (zHN w) _ l rfl (HU.out _ (zAA _ _)) ?c1 ?c2 ?_)
   case c1=>have:=HL.out;simp;omega
   case c2=>simp
   intro v3 w3 hown3 hgrow;have HB3:Hid (Below w.heap.size w w3):=(zAA _ _).grown hgrow (by simp) (by intro k hk;simp[Value.ownBlock] at hk;omega)
   have HO3:Hid (LOwn w.heap.size w3 v3 l):=hown3;obtain⟨av,cv,rfl⟩:=zAB (show w3.ownsRow _ _ _ _ _ _ from hown3)
   clear hown3 hgrow;go_wp2
   go_ret
   exact⟨_,rfl,HO3.out,HB3.out⟩
def zD7 (xs:List Value):Nat→List Value→List Value
 | _,[]=>xs
 | o,v :: r=>zD7 (xs.set o v) (o+1) r
theorem zGC (j:Nat):∀(vs xs:List Value) (o:Nat),(zD7 xs o vs)[j]? = if o≤j∧j<o+vs.length∧j<xs.length then vs[j - o]? else xs[j]?
 | [],xs,o=>by
   unfold zD7;rw[if_neg (by simp;omega)]
 | v :: r,xs,o=>by
   unfold zD7;rw[zGC j r];by_cases h:o=j
   ·subst h
    rw[if_neg (by omega),List.getElem?_set]
    by_cases hl:o<xs.length
    ·rw[if_pos rfl,if_pos hl,if_pos ⟨Nat.le_refl _,by simp,hl⟩];simp
    ·rw[if_pos rfl,if_neg hl,if_neg (by omega)]
     rw[List.getElem?_eq_none (by omega)]
   ·rw[List.getElem?_set_ne h]
    simp only[List.length_set,List.length_cons];by_cases hc:o+1≤j∧j<o+1+r.length∧j<xs.length
    ·rw[if_pos hc,if_pos (by omega),show j - o=(j - (o+1))+1 by omega,List.getElem?_cons_succ]
    ·rw[if_neg hc,if_neg (by omega)]
theorem zDi {base:Nat} {e:TypeId} {size g n cap:Nat}:∀(vs xs:List Value) (o:Nat) (w:World),w.ownsRow base e size (.slice (some ⟨g,0,none⟩) n cap) n xs→base≤g →
 (w.setCells g o vs).ownsRow base e size (.slice (some ⟨g,0,none⟩) n cap) n (zD7 xs o vs)∧Below base w (w.setCells g o vs)
 | [],xs,o,w,h,_=>⟨h,Below.refl _ _⟩
 | v :: r,xs,o,w,h,hg=>by
   obtain⟨h1,h2⟩:=h.stored o v;obtain⟨h3,h4⟩:=zDi r _ (o+1) _ h1 hg;refine⟨h3,Below.trans ?_ h4⟩;exact (Below.refl base w).setCell hg v
theorem zGw {base:Nat} {e:TypeId} {size g n cap:Nat} {xs:List Value} {w:World} (k:Nat) (hk:k≤n) (h:w.ownsRow base e size (.slice (some ⟨g,0,none⟩) n cap) n xs):w.ownsRow base e size (.slice (some ⟨g,0,none⟩) k cap) k (xs.take (k * size)):=by
 have hx:=h.1;have hm:k * size≤n * size:=Nat.mul_le_mul_right _ hk;rcases h.2 with ⟨h',_⟩ | ⟨g',cap',cur,h',hb,hg,hnc,hcm,hcs,htake⟩
 ·simp at h'
 ·simp only[Value.slice.injEq,Option.some.injEq,Addr.mk.injEq,and_true,true_and] at h'
  obtain⟨rfl,rfl⟩:=h';refine⟨by rw[List.length_take,hx];omega,.inr ⟨g,cap,cur,rfl,hb,hg,by omega,hcm,hcs,?_⟩⟩
  rw[←htake,List.take_take]
  congr 1
  omega
theorem zDZ (s:Nat):∀(ch:List (List Value)),(∀c∈ch,c.length=s)→ch.flatten.length=ch.length * s
 | [],_=>by simp
 | c :: r,h=>by
   rw[List.flatten_cons,List.length_append,zDZ s r (fun x hx=>h x (List.mem_cons_of_mem _ hx)),h c (List.mem_cons_self ..),List.length_cons,Nat.add_mul]
   omega
theorem zIO (s:Nat):∀(k:Nat) (ch:List (List Value)),(∀c∈ch,c.length=s)→ch.flatten.take (k * s)=(ch.take k).flatten
 | 0,ch,_=>by simp
 | k+1,[],_=>by simp
 | k+1,c :: r,h=>by
   rw[List.flatten_cons,List.take_succ_cons,List.flatten_cons,←zIO s k r (fun x hx=>h x (List.mem_cons_of_mem _ hx)),List.take_append,h c (List.mem_cons_self ..),show (k+1) * s - s=k * s by rw[Nat.add_mul];omega,List.take_of_length_le]
   rw[h c (List.mem_cons_self ..),Nat.add_mul];omega
theorem zFO (s:Nat):∀(k:Nat) (ch:List (List Value)),(∀c∈ch,c.length=s)→ch.flatten.drop (k * s)=(ch.drop k).flatten
 | 0,ch,_=>by simp
 | k+1,[],_=>by simp
 | k+1,c :: r,h=>by
   rw[List.flatten_cons,List.drop_succ_cons,←zFO s k r (fun x hx=>h x (List.mem_cons_of_mem _ hx)),List.drop_append,h c (List.mem_cons_self ..),show (k+1) * s - s=k * s by rw[Nat.add_mul];omega,List.drop_eq_nil_of_le]
   ·rfl
   ·rw[h c (List.mem_cons_self ..),Nat.add_mul];omega
theorem zHO (s:Nat) (ch:List (List Value)) (hs:∀c∈ch,c.length=s) (k:Nat) (hk:k<ch.length) (z:List Value) :
 (zD7 (zD7 ch.flatten (k * s) (ch.drop (k+1)).flatten) ((ch.length - 1) * s) z).take ((ch.length - 1) * s)=(ch.eraseIdx k).flatten:=by
 have hl:=zDZ s ch hs;have hd:(ch.drop (k+1)).flatten.length=(ch.length - (k+1)) * s:=by
  rw[zDZ s _ (fun c hc=>hs c (List.mem_of_mem_drop hc)),List.length_drop]
 have ht:(ch.take k).flatten.length=k * s:=by
  rw[zDZ s _ (fun c hc=>hs c (List.mem_of_mem_take hc)),List.length_take,Nat.min_eq_left (by omega)]
 have e1:(ch.length - 1) * s=k * s+(ch.length - (k+1)) * s:=by rw[←Nat.add_mul];congr 1;omega
 have e2:(ch.length - 1) * s≤ch.length * s:=Nat.mul_le_mul_right _ (by omega)
 apply List.ext_getElem?;intro j;rw[List.eraseIdx_eq_take_drop_succ,List.flatten_append];by_cases hj:j<(ch.length - 1) * s
 ·rw[List.getElem?_take,if_pos hj,zGC,if_neg (by omega),zGC]
  by_cases hjk:j<k * s
  ·rw[if_neg (by omega),List.getElem?_append_left (by rw[ht];exact hjk),←zIO s k ch hs,List.getElem?_take,if_pos hjk]
  ·rw[if_pos ⟨by omega,by rw[hd];omega,by rw[hl];omega⟩,List.getElem?_append_right (by rw[ht];omega),ht]
 ·rw[List.getElem?_eq_none (by rw[List.length_take];omega),List.getElem?_eq_none (by rw[List.length_append,ht,hd];omega)]
theorem zGd {P:Program} (w:World) (t e ty:TypeId) (z:Value) (zs:List Value) (ht:P.underlying t=some (.slice e)) (hv:∀w,(zeroValue e).run P w=.ok z w) (hz:(Builtin.zeroCells z.cells 1).toList=zs) (h1:∀u∈zs,u.oneCell'=true) (b o c:Nat)
 (hc:∀j,j<zs.length→(w.cell? ⟨b,o+j,none⟩).isSome=true) (hf:∀j,j<zs.length→w.frozen? ⟨b,o+j,none⟩=false) :
 (Builtin.clear_ #[t] ty #[.slice (some ⟨b,o,none⟩) 1 c]).run P w=.ok (.tuple #[]) (w.setCells b o zs):=by
 have hst:=run_storeCells_cells (P:=P) b o zs 0 w (by simpa using hc) (by simpa using hf) h1
 simp only[Nat.add_zero] at hst;simp[Builtin.clear_,run_underlying ht,hv,hz,hst]
def EArg (w:World) (v:Value) (ch:List (List Value)):Prop :=
 ∃a c,v=.slice a ch.length c∧(ch.length≤c∧c≤maxLen)∧∀(j:Nat) (u:Value),ch.flatten[j]? = some u→∃b off,a=some ⟨b,off,none⟩∧b<w.heap.size∧w.cell? ⟨b,off+j,none⟩=some u
theorem EArg.below {w w':World} {v:Value} {ch:List (List Value)} (hb:Below w.heap.size w w') (h:EArg w v ch):EArg w' v ch:=by
 obtain⟨a,c,hv,hm,hr⟩:=h;refine⟨a,c,hv,hm,fun j u hu=>?_⟩
 obtain⟨b,off,ha,hlt,hc⟩:=hr j u hu;exact⟨b,off,ha,Nat.lt_of_lt_of_le hlt hb.size,(hb.cell (p:=⟨b,off+j,none⟩) hlt).trans hc⟩
theorem zSK {w:World} {base s:Nat} {e:TypeId} {v:Value} {ch:List (List Value)} (hs:∀c∈ch,c.length=s) (h:w.ownsRow base e s v ch.length ch.flatten):EArg w v ch:=by
 have hl:=zDZ s ch hs;rcases h.2 with ⟨rfl,hn⟩ | ⟨g,cap,cur,rfl,hg,hh,hc1,hc2,_,_⟩
 ·have:ch=[]:=List.eq_nil_of_length_eq_zero hn
  subst this;exact⟨none,0,rfl,⟨Nat.le_refl _,Nat.zero_le _⟩,fun j u hu=>by simp at hu⟩
 ·refine⟨_,cap,rfl,⟨hc1,hc2⟩,fun j u hu=>?_⟩
  have hj:=(List.getElem?_eq_some_iff.1 hu).1;exact⟨g,0,rfl,(Array.getElem?_eq_some_iff.1 hh).1,by rw[Nat.zero_add,h.cellAt j (by omega)];exact hu⟩
theorem Tryz.infoReason:(Tryz.prog.info? 287).map (fun i=>(i.zero,i.size,i.bytes))=some (some (.agg #[.int .i64 0,.int .i64 0,.slice none 0 0,.int .u64 0]),4,48):=by kernel_rfl
theorem zSL (w:World):(zeroValue 88).run Tryz.prog w=.ok (.agg #[.int .i64 0,.int .i64 0,.int .i64 0]) w:=by
 obtain⟨i0,hi,hz0,hz1,hz2⟩:=info_parts Tryz.infoLit;simp[zeroValue,typeInfo,hi,hz0]
theorem zMq (w:World):(zeroValue 287).run Tryz.prog w=.ok (.agg #[.int .i64 0,.int .i64 0,.slice none 0 0,.int .u64 0]) w:=by
 obtain⟨i0,hi,hz0,hz1,hz2⟩:=info_parts Tryz.infoReason;simp[zeroValue,typeInfo,hi,hz0]
theorem zC5:Tryz.prog.underlying 284=some (.slice 287):=by kernel_rfl
theorem zSM (ch:List (List Value)) (hs:∀c∈ch,c.length=3) (h1:∀c∈ch,∀u∈c,u.oneCell'=true) (k:Nat) (hk:k<ch.length) (base:Nat) (v:Value) (w:World) (h:w.ownsRow base 88 3 v ch.length ch.flatten) :
 Calls Tryz.prog 280 #[v,.int .i64 k,.int .i64 ((k:Int)+1)] w fun e w'=>∃x,e=.returned x∧w'.ownsRow base 88 3 x (ch.eraseIdx k).length (ch.eraseIdx k).flatten∧Below base w w':=by
 obtain⟨i0,hi0,hz0,hz1,hz2⟩:=info_parts Tryz.infoLit;have hl:=zDZ 3 ch hs;have hEL:(ch.eraseIdx k).length=ch.length - 1:=List.length_eraseIdx_of_lt hk;rcases h.2 with ⟨rfl,hn⟩ | ⟨g,cap,cur,rfl,hg,hh,hc1,hc2,_,_⟩
 ·omega
 obtain⟨n,hn⟩:∃n,ch.length=n+1:=⟨ch.length - 1,by omega⟩
 have hED:=zHO 3 ch hs k hk [.int .i64 0,.int .i64 0,.int .i64 0];obtain⟨news,hnews⟩:∃news,(ch.drop (k+1)).flatten=news:=⟨_,rfl⟩;have hnl:news.length=(n - k) * 3:=by
  rw[←hnews,zDZ 3 _ (fun c hc=>hs c (List.mem_of_mem_drop hc)),List.length_drop,hn];congr 1;omega
 have hn1:∀u∈news,u.oneCell'=true:=by
  intro u hu;rw[←hnews] at hu;obtain⟨c,hc,hu⟩:=List.mem_flatten.1 hu;exact h1 c (List.mem_of_mem_drop hc) u hu
 rw[hn] at h hEL hED;rw[hnews,show n+1 - 1=n by omega] at hED
 rw[show n+1 - 1=n by omega] at hEL
 have HD:Hid (w.drew.ownsRow base 88 3 (.slice (some ⟨g,0,none⟩) (n+1) cap) (n+1) ch.flatten):=h;obtain⟨hs1,hb1⟩:=zDi (base:=base) news ch.flatten (k * 3) w.drew HD.out hg;obtain⟨W1,hW1⟩:∃W1,W1=w.drew.setCells g (k * 3) news:=⟨_,rfl⟩;rw[←hW1] at hs1 hb1;have HW:Hid (W1=w.drew.setCells g (k * 3) news):=hW1;have HS1:Hid (W1.ownsRow base 88 3 (.slice (some ⟨g,0,none⟩) (n+1) cap) (n+1) (zD7 ch.flatten (k * 3) news)):=hs1;obtain⟨hs2,hb2⟩:=zDi (base:=base) [.int .i64 0,.int .i64 0,.int .i64 0] _ (n * 3) W1 hs1 hg;have HFIN:Hid ((W1.setCells g (n * 3) [.int .i64 0,.int .i64 0,.int .i64 0]).ownsRow base 88 3 (.slice (some ⟨g,0,none⟩) n cap) (ch.eraseIdx k).length (ch.eraseIdx k).flatten):=by
  show World.ownsRow _ _ _ _ _ _ _;rw[hEL,←hED];exact zGw n (by omega) hs2
 have HBF:Hid (Below base w (W1.setCells g (n * 3) [.int .i64 0,.int .i64 0,.int .i64 0])):=((Below.refl base w).drew).trans (hb1.trans hb2);have hmk:k * 3≤n * 3:=Nat.mul_le_mul_right _ (by omega)
 have hcl:∀ty,(Builtin.clear_ #[37] ty #[.slice (some ⟨g,n * 3,none⟩) 1 (cap - n)]).run Tryz.prog W1=.ok (.tuple #[]) (W1.setCells g (n * 3) [.int .i64 0,.int .i64 0,.int .i64 0]) :=
  fun ty=>zGd W1 _ _ ty _ [.int .i64 0,.int .i64 0,.int .i64 0] zCb zSL (by kernel_rfl) (by intro u hu;simp at hu;rcases hu with rfl | rfl | rfl | rfl <;> rfl) g (n * 3) _ (fun j hj=>by
   have hjj:n * 3+j<(n+1) * 3:=by simp at hj;omega
   rw[HS1.out.cellAt _ hjj];have:n * 3+j<(zD7 ch.flatten (k * 3) news).length:=by rw[HS1.out.1];exact hjj
   rw[List.getElem?_eq_getElem this];rfl) (fun j hj=>HS1.out.frozenAt _)
 have s1:Hid (news.length=(n - k) * 3):=hnl;have s2:Hid (∀u∈news,u.oneCell'=true):=hn1;have s3:Hid (∀t,t<news.length→(w.drew.cell? ⟨g,0+k * 3+t,none⟩).isSome=true∧w.drew.frozen? ⟨g,0+k * 3+t,none⟩=false):=by
  intro t ht;rw[hnl] at ht;have e0:(n - k) * 3+k * 3=n * 3:=by rw[←Nat.add_mul];congr 1;omega
  have htt:k * 3+t<(n+1) * 3:=by rw[Nat.add_mul];omega
  rw[Nat.zero_add,HD.out.cellAt _ htt,HD.out.frozenAt];have:k * 3+t<ch.flatten.length:=by rw[HD.out.1];exact htt
  rw[List.getElem?_eq_getElem this];exact⟨rfl,rfl⟩
 obtain⟨A,hA,hsrc⟩:∃A:Addr,(if cap=k+1 then some (⟨g,0,none⟩:Addr) else some ⟨g,(k+1) * 3,none⟩)=some A∧Hid (∀t u,news[t]? = some u→w.drew.cell? (A.add t)=some u):=by
  by_cases hck:cap=k+1
  ·refine⟨⟨g,0,none⟩,by simp[hck],fun t u hu=>?_⟩
   have h0:news.length=0:=by rw[hnl,show n - k=0 by omega,Nat.zero_mul]
   rw[List.length_eq_zero_iff.1 h0] at hu;simp at hu
  ·refine⟨⟨g,(k+1) * 3,none⟩,by simp[hck],fun t u hu=>?_⟩
   have ht:=(List.getElem?_eq_some_iff.1 hu).1;rw[hnl] at ht;have e0:(n - k) * 3+k * 3=n * 3:=by rw[←Nat.add_mul];congr 1;omega
   have htt:(k+1) * 3+t<(n+1) * 3:=by rw[Nat.add_mul,Nat.add_mul];omega
   rw[zJM,HD.out.cellAt _ htt];rw[←hnews,←zFO 3 _ ch hs,List.getElem?_drop] at hu;exact hu
 have hkc:k+1≤cap:=by omega
 unfold maxLen at hc2;rw[hn];have hkn:k≤n:=by omega
 have hcn:n+1≤cap:=by omega
 clear hc1 hW1 hs1 hb1 hs2 hb2 hED hnews hnl hn1 h1 hs hl h hEL hh hz0 hz2 hn hk hmk;go_enter Tryz.func280,Tryz.ntmps280
 have hkk:k+(n - k)=n:=by omega
 have hlen:n+1 - (k+1)=n - k:=by omega
 have hroom:k+(n - k)≤cap:=by omega
 have hic:k≤cap:=by omega
 have hk0:(0:Int)≤(k:Int)+1:=by omega
 go_wp2_with fail
 go_region_law (refine step_append_room rfl (.tmp 22) (.tmp 25) 37 rfl 88 i0 3 zCb hi0 hz1 g 0 k cap (by simp[Act.eval,Act.put]) A (n - k) (cap - (k+1)) news (by simp[Act.eval,Act.put]) s1.out hsrc.out s2.out hroom s3.out ?_;rw[Nat.zero_add,←HW.out,hkk])
 have hne:¬cap=n:=by omega
 have hn0:(0:Int)≤(n:Int)+1:=by omega
 have hnc:n≤cap:=by omega
 go_wp2
 go_ret
 exact⟨_,rfl,HFIN.out,HBF.out⟩
theorem zMr (ch:List (List Value)) (hs:∀c∈ch,c.length=4) (h1:∀c∈ch,∀u∈c,u.oneCell'=true) (k:Nat) (hk:k<ch.length) (base:Nat) (v:Value) (w:World) (h:w.ownsRow base 287 4 v ch.length ch.flatten) :
 Calls Tryz.prog 282 #[v,.int .i64 k,.int .i64 ((k:Int)+1)] w fun e w'=>∃x,e=.returned x∧w'.ownsRow base 287 4 x (ch.eraseIdx k).length (ch.eraseIdx k).flatten∧Below base w w':=by
 obtain⟨i0,hi0,hz0,hz1,hz2⟩:=info_parts Tryz.infoReason;have hl:=zDZ 4 ch hs;have hEL:(ch.eraseIdx k).length=ch.length - 1:=List.length_eraseIdx_of_lt hk;rcases h.2 with ⟨rfl,hn⟩ | ⟨g,cap,cur,rfl,hg,hh,hc1,hc2,_,_⟩
 ·omega
 obtain⟨n,hn⟩:∃n,ch.length=n+1:=⟨ch.length - 1,by omega⟩
 have hED:=zHO 4 ch hs k hk [.int .i64 0,.int .i64 0,.slice none 0 0,.int .u64 0];obtain⟨news,hnews⟩:∃news,(ch.drop (k+1)).flatten=news:=⟨_,rfl⟩;have hnl:news.length=(n - k) * 4:=by
  rw[←hnews,zDZ 4 _ (fun c hc=>hs c (List.mem_of_mem_drop hc)),List.length_drop,hn];congr 1;omega
 have hn1:∀u∈news,u.oneCell'=true:=by
  intro u hu;rw[←hnews] at hu;obtain⟨c,hc,hu⟩:=List.mem_flatten.1 hu;exact h1 c (List.mem_of_mem_drop hc) u hu
 rw[hn] at h hEL hED;rw[hnews,show n+1 - 1=n by omega] at hED
 rw[show n+1 - 1=n by omega] at hEL
 have HD:Hid (w.drew.ownsRow base 287 4 (.slice (some ⟨g,0,none⟩) (n+1) cap) (n+1) ch.flatten):=h;obtain⟨hs1,hb1⟩:=zDi (base:=base) news ch.flatten (k * 4) w.drew HD.out hg;obtain⟨W1,hW1⟩:∃W1,W1=w.drew.setCells g (k * 4) news:=⟨_,rfl⟩;rw[←hW1] at hs1 hb1;have HW:Hid (W1=w.drew.setCells g (k * 4) news):=hW1;have HS1:Hid (W1.ownsRow base 287 4 (.slice (some ⟨g,0,none⟩) (n+1) cap) (n+1) (zD7 ch.flatten (k * 4) news)):=hs1;obtain⟨hs2,hb2⟩:=zDi (base:=base) [.int .i64 0,.int .i64 0,.slice none 0 0,.int .u64 0] _ (n * 4) W1 hs1 hg;have HFIN:Hid ((W1.setCells g (n * 4) [.int .i64 0,.int .i64 0,.slice none 0 0,.int .u64 0]).ownsRow base 287 4 (.slice (some ⟨g,0,none⟩) n cap) (ch.eraseIdx k).length (ch.eraseIdx k).flatten):=by
  show World.ownsRow _ _ _ _ _ _ _;rw[hEL,←hED];exact zGw n (by omega) hs2
 have HBF:Hid (Below base w (W1.setCells g (n * 4) [.int .i64 0,.int .i64 0,.slice none 0 0,.int .u64 0])):=((Below.refl base w).drew).trans (hb1.trans hb2);have hmk:k * 4≤n * 4:=Nat.mul_le_mul_right _ (by omega)
 have hcl:∀ty,(Builtin.clear_ #[284] ty #[.slice (some ⟨g,n * 4,none⟩) 1 (cap - n)]).run Tryz.prog W1=.ok (.tuple #[]) (W1.setCells g (n * 4) [.int .i64 0,.int .i64 0,.slice none 0 0,.int .u64 0]) :=
  fun ty=>zGd W1 _ _ ty _ [.int .i64 0,.int .i64 0,.slice none 0 0,.int .u64 0] zC5 zMq (by kernel_rfl) (by intro u hu;simp at hu;rcases hu with rfl | rfl | rfl | rfl <;> rfl) g (n * 4) _ (fun j hj=>by
   have hjj:n * 4+j<(n+1) * 4:=by simp at hj;omega
   rw[HS1.out.cellAt _ hjj];have:n * 4+j<(zD7 ch.flatten (k * 4) news).length:=by rw[HS1.out.1];exact hjj
   rw[List.getElem?_eq_getElem this];rfl) (fun j hj=>HS1.out.frozenAt _)
 have s1:Hid (news.length=(n - k) * 4):=hnl;have s2:Hid (∀u∈news,u.oneCell'=true):=hn1;have s3:Hid (∀t,t<news.length→(w.drew.cell? ⟨g,0+k * 4+t,none⟩).isSome=true∧w.drew.frozen? ⟨g,0+k * 4+t,none⟩=false):=by
  intro t ht;rw[hnl] at ht;have e0:(n - k) * 4+k * 4=n * 4:=by rw[←Nat.add_mul];congr 1;omega
  have htt:k * 4+t<(n+1) * 4:=by rw[Nat.add_mul];omega
  rw[Nat.zero_add,HD.out.cellAt _ htt,HD.out.frozenAt];have:k * 4+t<ch.flatten.length:=by rw[HD.out.1];exact htt
  rw[List.getElem?_eq_getElem this];exact⟨rfl,rfl⟩
 obtain⟨A,hA,hsrc⟩:∃A:Addr,(if cap=k+1 then some (⟨g,0,none⟩:Addr) else some ⟨g,(k+1) * 4,none⟩)=some A∧Hid (∀t u,news[t]? = some u→w.drew.cell? (A.add t)=some u):=by
  by_cases hck:cap=k+1
  ·refine⟨⟨g,0,none⟩,by simp[hck],fun t u hu=>?_⟩
   have h0:news.length=0:=by rw[hnl,show n - k=0 by omega,Nat.zero_mul]
   rw[List.length_eq_zero_iff.1 h0] at hu;simp at hu
  ·refine⟨⟨g,(k+1) * 4,none⟩,by simp[hck],fun t u hu=>?_⟩
   have ht:=(List.getElem?_eq_some_iff.1 hu).1;rw[hnl] at ht;have e0:(n - k) * 4+k * 4=n * 4:=by rw[←Nat.add_mul];congr 1;omega
   have htt:(k+1) * 4+t<(n+1) * 4:=by rw[Nat.add_mul,Nat.add_mul];omega
   rw[zJM,HD.out.cellAt _ htt];rw[←hnews,←zFO 4 _ ch hs,List.getElem?_drop] at hu;exact hu
 have hkc:k+1≤cap:=by omega
 unfold maxLen at hc2;rw[hn];have hkn:k≤n:=by omega
 have hcn:n+1≤cap:=by omega
 clear hc1 hW1 hs1 hb1 hs2 hb2 hED hnews hnl hn1 h1 hs hl h hEL hh hz0 hz2 hn hk hmk;go_enter Tryz.func282,Tryz.ntmps282
 have hkk:k+(n - k)=n:=by omega
 have hlen:n+1 - (k+1)=n - k:=by omega
 have hroom:k+(n - k)≤cap:=by omega
 have hic:k≤cap:=by omega
 have hk0:(0:Int)≤(k:Int)+1:=by omega
 go_wp2_with fail
 go_region_law (refine step_append_room rfl (.tmp 22) (.tmp 25) 284 rfl 287 i0 4 zC5 hi0 hz1 g 0 k cap (by simp[Act.eval,Act.put]) A (n - k) (cap - (k+1)) news (by simp[Act.eval,Act.put]) s1.out hsrc.out s2.out hroom s3.out ?_;rw[Nat.zero_add,←HW.out,hkk])
 have hne:¬cap=n:=by omega
 have hn0:(0:Int)≤(n:Int)+1:=by omega
 have hnc:n≤cap:=by omega
 go_wp2
 go_ret
 exact⟨_,rfl,HFIN.out,HBF.out⟩
theorem zSN {w:World} {ch:List (List Value)} {s n c:Nat} (hs:∀x∈ch,x.length=s) (h0:0<s) (h:EArg w (.slice none n c) ch):ch=[]:=by
 obtain⟨a,c2,he,_,hr⟩:=h;cases ch with
 | nil=>rfl
 | cons z r =>
   have hz:=hs z (List.mem_cons_self ..);cases z with
   | nil=>simp at hz;omega
   | cons y t =>
     obtain⟨b,off,hq,_⟩:=hr 0 y rfl;rw[hq] at he;cases he
theorem zKR (ch:List (List Value)) (hs:∀c∈ch,c.length=4) (h1:∀c∈ch,∀u∈c,u.oneCell'=true) (hl:ch.length≤9000) (u:Value) (w:World) (hu:EArg w u ch) :
 Calls Tryz.prog 281 #[u] w fun e w'=>∃x,e=.returned x∧w'.ownsRow w.heap.size 287 4 x ch.length ch.flatten∧Below w.heap.size w w':=by
 obtain⟨i0,hi0,hz0,hz1,hz2⟩:=info_parts Tryz.infoReason;have hfl:=zDZ 4 ch hs;have HU:Hid (∀w',Below w.heap.size w w'→EArg w' u ch):=fun w' h=>EArg.below h hu
 have q22:∀(w:World) (a:Option Addr) (n c n' c':Nat),(binOp .eql 284 (.slice a n c) (.slice none n' c')).run Tryz.prog w=.ok (.bool a.isNone) w:=fun w a n c n' c'=>Lib.run_eql_slice_nil w _ _ a n c n' c' zC5
 obtain⟨a,c,he,hm,hr⟩:=id hu;subst he;cases a with
 | none =>
   have:=zSN hs (by omega) hu
   subst this;clear hu HU;go_enter Tryz.func281,Tryz.ntmps281
   go_wp2
   go_ret
   exact⟨_,rfl,World.ownsRow_nil _ _ _ _,Below.refl _ _⟩
 | some ad =>
   have HL:Hid (ch.length≤9000):=hl;have HC:Hid (∀(j:Nat) (u:Value),ch.flatten[j]? = some u→(w.alloc (.cells #[] 287)).cell? (ad.add j)=some u):=fun j y hy=>by
    obtain⟨b,off,hq,hlt,hc⟩:=hr j y hy;cases hq
    rw[zJM];exact ((zAA w _).cell (p:=⟨b,off+j,none⟩) hlt).trans hc
   have H1:Hid (∀u∈ch.flatten,u.oneCell'=true):=fun u hu=>by
    obtain⟨c,hc,hu⟩:=List.mem_flatten.1 hu;exact h1 c hc u hu
   have HFL:Hid (ch.flatten.length=ch.length * 4):=hfl;have HM0:Hid ((w.alloc (.cells #[] 287)).ownsRow w.heap.size 287 4 (.slice (some ⟨w.heap.size,0,none⟩) 0 0) 0 []):=World.ownsRow_made w #[] 0 (Nat.le_refl _) (Nat.zero_le _) (by simp)
   clear hu hl hs h1 hr hm hfl;go_enter Tryz.func281,Tryz.ntmps281
   go_wp2_with (at_builtin;refine wpList_append_own _ rfl _ _ 284 rfl w.heap.size 287 i0 (.agg #[.int .i64 0,.int .i64 0,.slice none 0 0,.int .u64 0]) 4 48 zC5 hi0 hz0 hz1 hz2 rfl (by decide) _ _ _ rfl HM0.out ad ch.length c ch.flatten rfl HFL.out HC.out H1.out ?c1 ?c2 ?c3 ?_)
   case c1=>have:=HL.out;unfold maxLen;omega
   case c2=>have:=HL.out;omega
   case c3=>simp
   intro v3 w3 hown3 hgrow _;have HB3:Hid (Below w.heap.size w w3):=(zAA _ _).grown hgrow (by simp) (by intro k hk;simp[Value.ownBlock] at hk;omega)
   have HO3:Hid (w3.ownsRow w.heap.size 287 4 v3 ch.length ch.flatten):=by show World.ownsRow _ _ _ _ _ _ _;simpa using hown3
   obtain⟨av,cv,rfl⟩:=zAB hown3;clear hown3 hgrow;go_wp2
   go_ret
   exact⟨_,by simp,HO3.out,HB3.out⟩
theorem zIP {α β:Type} (f:α→β) (l:List α) (k:Nat):(l.map f).eraseIdx k=(l.eraseIdx k).map f:=by
 rw[List.eraseIdx_eq_take_drop_succ,List.eraseIdx_eq_take_drop_succ,List.map_append,List.map_take,List.map_drop]
theorem zLN (l:Cla):(l.map zEF).flatten=zBx l:=by unfold zBx;rw[List.flatMap]
theorem zLO (l:Cla):∀c∈l.map zEF,c.length=3:=by
 intro c hc;obtain⟨t,_,rfl⟩:=List.mem_map.1 hc;rfl
theorem zMs (l:Cla):∀c∈l.map zEF,∀u∈c,u.oneCell'=true:=by
 intro c hc u hu;obtain⟨t,_,rfl⟩:=List.mem_map.1 hc;simp[zEF] at hu;rcases hu with rfl | rfl | rfl <;> rfl
theorem zS8 {base:Nat} {w:World} {v:Value} {l:Cla} (h:LOwn base w v l):w.ownsRow base 88 3 v (l.map zEF).length (l.map zEF).flatten:=by
 rw[List.length_map,zLN];exact h
theorem zS9 {base:Nat} {w:World} {v:Value} {l:Cla} (h:w.ownsRow base 88 3 v (l.map zEF).length (l.map zEF).flatten):LOwn base w v l:=by
 rw[List.length_map,zLN] at h;exact h
def zTA (F:Nat) (caps:Array Value) (enough:Cla→Bool) (n:Nat) (w:World):Prop :=
 (∀(args:Array Value) (w':World),Sem.run Tryz.prog (callFunc F args) w'=.ok (.enter F args) w') ∧
 ∀(c:Cla) (v:Value) (w':World),c.length≤n→Below w.heap.size w w'→LArg w' v c→Calls Tryz.prog F (#[v]++caps) w' fun e w''=>e=.returned (.bool (enough c))∧Below w'.heap.size w' w''
theorem zTY (l:Cla) (k:Nat) (hk:k<l.length) (base:Nat) (v:Value) (w:World) (h:LOwn base w v l) :
 Calls Tryz.prog 280 #[v,.int .i64 k,.int .i64 ((k:Int)+1)] w fun e w'=>∃x,e=.returned x∧LOwn base w' x (l.eraseIdx k)∧Below base w w':=by
 refine (zSM (l.map zEF) (zLO l) (zMs l) k (by rw[List.length_map];exact hk) base v w (zS8 h)).mono ?_
 rintro e w' ⟨x,rfl,hx,hb⟩;rw[zIP] at hx;exact⟨x,rfl,zS9 hx,hb⟩
theorem zJs {α:Type} (enough:List α→Bool) (k:Nat) (out:List α):zA4 enough (k+1) out=zA4 enough k (if enough (out.eraseIdx k) then out.eraseIdx k else out):=rfl
theorem zOp (F:Nat) (caps:Array Value) (enough:Cla→Bool) (l:Cla) (hl:l.length≤900) (v:Value) (w:World) (hv:LArg w v l) (hF:zTA F caps enough l.length w) :
 Calls Tryz.prog 252 #[v,.func (.func F) #[] caps] w fun e w'=>∃x,e=.returned x∧LOwn w.heap.size w' x (zA4 enough l.length l)∧Below w.heap.size w w':=by
 have HV:Hid (LArg w v l):=hv;have HL:Hid (l.length≤900):=hl;have HF:Hid (zTA F caps enough l.length w):=hF;obtain⟨R,hR⟩:∃R,zA4 enough l.length l=R:=⟨_,rfl⟩;have HR:Hid (R=zA4 enough l.length l):=hR.symm;rw[hR];obtain⟨a,c,rfl,_,_⟩:=hv;clear hF hR;go_enter Tryz.func252,Tryz.ntmps252
 go_wp2_with fail
 refine (zJr l HL.out _ _ HV.out).mono ?_;rintro e w1 ⟨x,rfl,hx,hb1⟩;have HX:Hid (LOwn w.heap.size w1 x l):=hx;have HB1:Hid (Below w.heap.size w w1):=hb1;obtain⟨ax,cx,rfl⟩:=zAB (show w1.ownsRow _ _ _ _ _ _ from hx)
 clear hx hb1;go_wp2_with fail
 go_loopw [5,6] (fun o i wr=>∃(out:Cla) (k:Nat),i=.int .i64 ((k:Int) - 1)∧k≤out.length∧Hid (out.length≤l.length)∧LOwn w.heap.size wr o out∧Hid (R=zA4 enough k out)∧Below w.heap.size w wr) (fun _ i _=>(intOf i+1).toNat)
 case atStart=>exact⟨l,l.length,rfl,Nat.le_refl _,Nat.le_refl _,HX.out,HR,HB1.out⟩
 case round =>
  obtain⟨out,k,rfl,hk,hlo,ho,hrd,hbw⟩:=hrel;have HO:Hid (LOwn w.heap.size wr u5 out):=ho;have HBW:Hid (Below w.heap.size w wr):=hbw;obtain⟨ao,co,rfl⟩:=zAB (show wr.ownsRow _ _ _ _ _ _ from ho)
  clear ho hbw;cases k with
  | zero =>
    have HE:Hid (R=out):=hrd.out;clear hrd;go_wp2
    go_ret
    exact⟨_,rfl,by rw[HE.out];exact HO.out,HBW.out⟩
  | succ k =>
    have hke:((k+1:Nat):Int) - 1=(k:Int):=by omega
    rw[hke];have HST:Hid (R=zA4 enough k (if enough (out.eraseIdx k) then out.eraseIdx k else out)):=hrd.out
    have HLO:Hid (out.length≤900):=Nat.le_trans hlo.out HL.out;have HEL:Hid ((out.eraseIdx k).length=out.length - 1):=List.length_eraseIdx_of_lt (by omega)
    have hk9:k+1≤900:=Nat.le_trans hk HLO.out;clear hrd hke;go_wp2_with fail
    refine (zJr out HLO.out _ _ HO.out.arg).mono ?_;rintro e w2 ⟨y,rfl,hy,hb2⟩;have HY:Hid (LOwn w.heap.size w2 y out):=zBS HBW.out.size hy;have HY2:Hid (LOwn wr.heap.size w2 y out):=hy;have HO2:Hid (LOwn w.heap.size w2 (.slice ao (List.length out) co) out):=zAG HO.out hb2;have HBR:Hid (Below wr.heap.size wr w2):=hb2;have HB2:Hid (Below w.heap.size w w2):=HBW.out.trans (hb2.mono HBW.out.size);obtain⟨ay,cy,rfl⟩:=zAB (show w2.ownsRow _ _ _ _ _ _ from hy)
    clear hy hb2;go_wp2_with fail
    refine (zTY out k (by omega) wr.heap.size _ _ HY2.out).mono ?_
    rintro e w3 ⟨z,rfl,hz,hb3⟩;have HZ:Hid (LOwn w.heap.size w3 z (out.eraseIdx k)):=zBS HBW.out.size hz;have HBR3:Hid (Below wr.heap.size wr w3):=HBR.out.trans hb3;have HO3:Hid (LOwn w.heap.size w3 (.slice ao (List.length out) co) out):=zAG HO.out HBR3.out;have HB3:Hid (Below w.heap.size w w3):=HBW.out.trans (HBR3.out.mono HBW.out.size);obtain⟨az,cz,rfl⟩:=zAB (show w3.ownsRow _ _ _ _ _ _ from hz)
    have HCL:Hid (Calls Tryz.prog F (#[.slice az (out.eraseIdx k).length cz]++caps) w3 fun e w''=>e=.returned (.bool (enough (out.eraseIdx k)))∧Below w3.heap.size w3 w''):=HF.out.2 _ _ _ (by have:=hlo.out;have:=HEL.out;omega) HB3.out HZ.out.arg
    obtain⟨B,hB⟩:∃B,enough (out.eraseIdx k)=B:=⟨_,rfl⟩;rw[hB] at HCL HST;obtain⟨E,hE⟩:∃E,out.eraseIdx k=E:=⟨_,rfl⟩;rw[hE] at HCL HST HEL HZ ⊢;have HLK:Hid (E.length≤l.length):=by have:=hlo.out;have:=HEL.out;show _≤_;omega
    have hkE:k≤E.length:=by have:=HEL.out;omega
    clear hz hb3 hB hE;go_wp2_with fail
    rw[HF.out.1,Oper.upon_enter];refine HCL.out.mono ?_;rintro e w4 ⟨rfl,hb4⟩;have HO4:Hid (LOwn w.heap.size w4 (.slice ao (List.length out) co) out):=zAG HO3.out hb4;have HZ4:Hid (LOwn w.heap.size w4 (.slice az (List.length E) cz) E):=zAG HZ.out hb4;have HB4:Hid (Below w.heap.size w w4):=HB3.out.trans (hb4.mono HB3.out.size);clear hb4;cases B
    ·have HN:Hid (R=zA4 enough k out):=HST.out
     clear HST;go_wp2
     go_roundw
     case rel=>exact⟨out,k,rfl,by omega,hlo,HO4.out,HN,HB4.out⟩
     case measure=>simp[intOf]
    ·have HN:Hid (R=zA4 enough k E):=HST.out
     clear HST;go_wp2
     go_roundw
     case rel=>exact⟨E,k,rfl,hkE,HLK,HZ4.out,HN,HB4.out⟩
     case measure=>simp[intOf]
end Go.Proofs.YtdjbejlbmaiocagGreatDoor
