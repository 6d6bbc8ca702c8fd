/- What the proof leans on, part 30. -/
import Derived.Test.YtdjbejlbmaiocafGreatDoorPartAv
import Derived.Lib.SliceRun
import Derived.Deep.Onto
import Derived.Deep.RegionLaw
import Derived.Shelf.RegionOpenPlain
namespace Go.Proofs.YtdjbejlbmaiocafGreatDoor
open Go.RowKit
theorem zFj (T:TypeId) (hT:Tryz.prog.underlying T=some (.slice 117)) (w:World) (ty:TypeId) (base n c:Nat) (v:Value) (xs:List Value) (hown:w.ownsRow base 117 3 v n xs) :
 (Builtin.append_ #[T,T] ty #[v,.slice none 0 c]).run Tryz.prog w=.ok v w:=by
 obtain⟨i0,hi,hz0,hz1,hz2⟩:=info_parts Tryz.infoLit
 rcases hown.2 with ⟨rfl,rfl⟩ | ⟨g,cap,cur,rfl,_,_,hnc,_⟩
 ·simp[Builtin.append_,run_underlying hT,sizeOf,typeInfo,hi,Builtin.lenOf,Builtin.firstCells]
 ·simp[Builtin.append_,run_underlying hT,sizeOf,typeInfo,hi,Builtin.lenOf,Builtin.firstCells,hnc,storeCells]
theorem zKe (l:Cla):∀u∈zAv l,u.oneCell'=true:=by
 intro u hu
 obtain⟨t,_,ht⟩:=List.mem_flatMap.1 hu
 simp[zBq] at ht
 rcases ht with rfl | rfl | rfl <;> rfl
theorem zG6 (l:Cla) (j:Nat) (y:Value) (h:(zAv l)[j]? = some y):∃(i:Nat) (t:MLit),l[i]? = some t∧((j=i * 3∧y=.int .i64 t.var)∨(j=i * 3+1∧y=.int .i64 t.op)∨(j=i * 3+2∧y=.int .i64 t.n)):=by
 have hj:j<l.length * 3:=by rw[←zFJ];exact (List.getElem?_eq_some_iff.1 h).1
 have hi:j / 3<l.length:=by omega
 obtain⟨g0,g1,g2⟩:=zFK l (j / 3) l[j / 3] (by simp[hi])
 refine⟨j / 3,l[j / 3],by simp[hi],?_⟩
 rcases (by omega:j=j / 3 * 3∨j=j / 3 * 3+1∨j=j / 3 * 3+2) with hq | hq | hq
 ·rw[←hq,h] at g0;exact Or.inl ⟨hq,Option.some.inj g0⟩
 ·rw[←hq,h] at g1;exact Or.inr (Or.inl ⟨hq,Option.some.inj g1⟩)
 ·rw[←hq,h] at g2;exact Or.inr (Or.inr ⟨hq,Option.some.inj g2⟩)
theorem zBI (T:TypeId) (hT:Tryz.prog.underlying T=some (.slice 117)) {w:World} {ops:Array Oper} {rest:List Oper} {o:Oper} {a:Act} {Q:Exit→Act→World→Prop} (hgd:o.guard=none) (s x:Operand)
 (ho:o.op=.call { callee:=.builtin .append,args:=#[s,x],argTypes:=#[T,T] }) (base:Nat)
 (v:Value) (xs:Cla) (hs:a.eval s=v) (hown:LOwn base w v xs)
 (u:Value) (l:Cla) (hx:a.eval x=u) (hl:LArg w u l) (hn:xs.length+l.length≤1000) (hbase:base≤w.heap.size)
 (h:∀v' w',LOwn base w' v' (xs++l)→w.grownBy w' v.ownBlock→wpList Tryz.prog ops Q rest (a.put o.dst v') w'):wpList Tryz.prog ops Q (o :: rest) a w:=by
 obtain⟨i0,hi,hz0,hz1,hz2⟩:=info_parts Tryz.infoLit
 obtain⟨q,c,rfl,hm,hc⟩:=hl
 have hown':w.ownsRow base 117 3 v xs.length (zAv xs):=hown
 cases q with
 | none =>
   have hl0:l=[]:=by
    cases l with
    | nil=>rfl
    | cons z r=>obtain⟨b,off,hq,_⟩:=hc 0 z rfl;cases hq
   subst hl0
   refine wpList_plain hgd fun K hK=>?_
   have hr:=zFj T hT w o.type base xs.length c v _ hown'
   unfold Oper.wp execOp
   simp only[ho,resolve,invoke,builtin,Sem.run_bind,Sem.run_pure,Result.andThen_ok,List.map_toArray,List.map_cons,List.map_nil,hs,hx,List.length_nil,hr]
   exact hK _ _ (h v w (by rw[List.append_nil];exact hown) ⟨rfl,rfl,rfl,Nat.le_refl _,fun _ _ _=>rfl⟩)
 | some ad =>
   refine wpList_append_own w hgd s x T ho base 117 i0 (.agg #[.int .i64 0,.int .i64 0,.int .i64 0]) 3 24 hT hi hz0 hz1 hz2 rfl (by decide) v xs.length _ hs hown' ad l.length c (zAv l) hx (zFJ l) ?_ (zKe l) (by unfold maxLen;omega) (by omega) hbase ?_
   ·intro j y hy
    obtain⟨i,t,ht,hcase⟩:=zG6 l j y hy
    obtain⟨b,off,hq,_,c0,c1,c2⟩:=hc i t ht
    cases hq
    rw[zEJ]
    rcases hcase with ⟨rfl,rfl⟩ | ⟨rfl,rfl⟩ | ⟨rfl,rfl⟩
    ·exact c0
    ·rw[←Nat.add_assoc];exact c1
    ·rw[←Nat.add_assoc];exact c2
   ·intro v' w' h1 h2 h3
    refine h v' w' ?_ h2
    show w'.ownsRow _ _ _ _ _ _
    unfold zAv at *
    rw[List.length_append,List.flatMap_append]
    exact h1
theorem zLO (w:World):LArg w (.slice none 0 0) []:=⟨none,0,rfl,⟨Nat.le_refl _,Nat.zero_le _⟩,fun i z hz=>by simp at hz⟩
theorem zJW {w:World} {l:Cla} {n c:Nat} (h:LArg w (.slice none n c) l):l=[]:=by
 obtain⟨a,c2,he,_,hr⟩:=h
 cases l with
 | nil=>rfl
 | cons z r =>
   obtain⟨b,off,hq,_⟩:=hr 0 z rfl
   rw[hq] at he
   cases he
theorem zA2 {base base':Nat} {w:World} {v:Value} {l:Cla} (hb:base'≤base) (h:LOwn base w v l):LOwn base' w v l:=World.ownsRow.mono h hb
theorem zDq (w:World):LOwn w.heap.size (w.alloc (.cells #[] 117)) (.slice (some ⟨w.heap.size,0,none⟩) 0 0) []:=World.ownsRow_made w #[] 0 (Nat.le_refl _) (Nat.zero_le _) (by simp)
theorem zBn:Tryz.prog.underlying 67=some (.slice 117):=by kernel_rfl
set_option maxHeartbeats 800000 in
set_option maxRecDepth 100000 in
theorem zGJ (l:Cla) (hl:l.length≤900) (u:Value) (w:World) (hu:LArg w u l) :
 Calls Tryz.prog 184 #[u] w fun e w'=>∃x,e=.returned x∧LOwn w.heap.size w' x l∧Below w.heap.size w w':=by
 have HU:Hid (∀w',Below w.heap.size w w'→LArg w' u l):=fun w' h=>LArg.below h hu
 have q22:∀(w:World) (a:Option Addr) (n c n' c':Nat),(binOp .eql 67 (.slice a n c) (.slice none n' c')).run Tryz.prog w=.ok (.bool a.isNone) w:=fun w a n c n' c'=>Lib.run_eql_slice_nil w _ _ a n c n' c' zBn
 obtain⟨a,c,he,_,_⟩:=id hu
 subst he
 cases a with
 | none =>
   have:=zJW hu
   subst this
   clear hu HU
   go_enter Tryz.func184,Tryz.ntmps184
   go_wp2
   go_ret
   exact⟨_,rfl,World.ownsRow_nil _ _ _ _,Below.refl _ _⟩
 | some ad =>
   have HL:Hid (l.length≤900):=hl
   clear hu hl
   go_enter Tryz.func184,Tryz.ntmps184
   go_wp2_with (at_builtin;refine zBI 67 zBn rfl _ _ rfl w.heap.size _ [] rfl (zDq w) _ l rfl (HU.out _ (zAA _ _)) ?c1 ?c2 ?_)
   case c1=>have:=HL.out;simp;omega
   case c2=>simp
   intro v3 w3 hown3 hgrow
   have HB3:Hid (Below w.heap.size w w3):=(zAA _ _).grown hgrow (by simp) (by intro k hk;simp[Value.ownBlock] at hk;omega)
   have HO3:Hid (LOwn w.heap.size w3 v3 l):=hown3
   obtain⟨av,cv,rfl⟩:=zAC (show w3.ownsRow _ _ _ _ _ _ from hown3)
   clear hown3 hgrow
   go_wp2
   go_ret
   exact⟨_,rfl,HO3.out,HB3.out⟩
theorem zBB:Tryz.prog.underlying 53=some (.slice 117):=by kernel_rfl
set_option maxHeartbeats 800000 in
set_option maxRecDepth 100000 in
theorem zFN (l:Cla) (hl:l.length≤900) (u:Value) (w:World) (hu:LArg w u l) :
 Calls Tryz.prog 255 #[u] w fun e w'=>∃x,e=.returned x∧LOwn w.heap.size w' x l∧Below w.heap.size w w':=by
 have HU:Hid (∀w',Below w.heap.size w w'→LArg w' u l):=fun w' h=>LArg.below h hu
 have q22:∀(w:World) (a:Option Addr) (n c n' c':Nat),(binOp .eql 53 (.slice a n c) (.slice none n' c')).run Tryz.prog w=.ok (.bool a.isNone) w:=fun w a n c n' c'=>Lib.run_eql_slice_nil w _ _ a n c n' c' zBB
 obtain⟨a,c,he,_,_⟩:=id hu
 subst he
 cases a with
 | none =>
   have:=zJW hu
   subst this
   clear hu HU
   go_enter Tryz.func255,Tryz.ntmps255
   go_wp2
   go_ret
   exact⟨_,rfl,World.ownsRow_nil _ _ _ _,Below.refl _ _⟩
 | some ad =>
   have HL:Hid (l.length≤900):=hl
   clear hu hl
   go_enter Tryz.func255,Tryz.ntmps255
   go_wp2_with (at_builtin;refine zBI 53 zBB rfl _ _ rfl w.heap.size _ [] rfl (zDq w) _ l rfl (HU.out _ (zAA _ _)) ?c1 ?c2 ?_)
   case c1=>have:=HL.out;simp;omega
   case c2=>simp
   intro v3 w3 hown3 hgrow
   have HB3:Hid (Below w.heap.size w w3):=(zAA _ _).grown hgrow (by simp) (by intro k hk;simp[Value.ownBlock] at hk;omega)
   have HO3:Hid (LOwn w.heap.size w3 v3 l):=hown3
   obtain⟨av,cv,rfl⟩:=zAC (show w3.ownsRow _ _ _ _ _ _ from hown3)
   clear hown3 hgrow
   go_wp2
   go_ret
   exact⟨_,rfl,HO3.out,HB3.out⟩
def zBo (xs:List Value):Nat→List Value→List Value
 | _,[]=>xs
 | o,v :: r=>zBo (xs.set o v) (o+1) r
theorem zC4 (j:Nat):∀(vs xs:List Value) (o:Nat),(zBo xs o vs)[j]? = if o≤j∧j<o+vs.length∧j<xs.length then vs[j - o]? else xs[j]?
 | [],xs,o=>by
   unfold zBo
   rw[if_neg (by simp;omega)]
 | v :: r,xs,o=>by
   unfold zBo
   rw[zC4 j r]
   by_cases h:o=j
   ·subst h
    rw[if_neg (by omega),List.getElem?_set]
    by_cases hl:o<xs.length
    ·rw[if_pos rfl,if_pos hl,if_pos ⟨Nat.le_refl _,by simp,hl⟩];simp
    ·rw[if_pos rfl,if_neg hl,if_neg (by omega)]
     rw[List.getElem?_eq_none (by omega)]
   ·rw[List.getElem?_set_ne h]
    simp only[List.length_set,List.length_cons]
    by_cases hc:o+1≤j∧j<o+1+r.length∧j<xs.length
    ·rw[if_pos hc,if_pos (by omega),show j - o=(j - (o+1))+1 by omega,List.getElem?_cons_succ]
    ·rw[if_neg hc,if_neg (by omega)]
theorem zBa {base:Nat} {e:TypeId} {size g n cap:Nat}:∀(vs xs:List Value) (o:Nat) (w:World),w.ownsRow base e size (.slice (some ⟨g,0,none⟩) n cap) n xs→base≤g →
 (w.setCells g o vs).ownsRow base e size (.slice (some ⟨g,0,none⟩) n cap) n (zBo xs o vs)∧Below base w (w.setCells g o vs)
 | [],xs,o,w,h,_=>⟨h,Below.refl _ _⟩
 | v :: r,xs,o,w,h,hg=>by
   obtain⟨h1,h2⟩:=h.stored o v
   obtain⟨h3,h4⟩:=zBa r _ (o+1) _ h1 hg
   refine⟨h3,Below.trans ?_ h4⟩
   exact (Below.refl base w).setCell hg v
theorem zDe {base:Nat} {e:TypeId} {size g n cap:Nat} {xs:List Value} {w:World} (k:Nat) (hk:k≤n) (h:w.ownsRow base e size (.slice (some ⟨g,0,none⟩) n cap) n xs):w.ownsRow base e size (.slice (some ⟨g,0,none⟩) k cap) k (xs.take (k * size)):=by
 have hx:=h.1
 have hm:k * size≤n * size:=Nat.mul_le_mul_right _ hk
 rcases h.2 with ⟨h',_⟩ | ⟨g',cap',cur,h',hb,hg,hnc,hcm,hcs,htake⟩
 ·simp at h'
 ·simp only[Value.slice.injEq,Option.some.injEq,Addr.mk.injEq,and_true,true_and] at h'
  obtain⟨rfl,rfl⟩:=h'
  refine⟨by rw[List.length_take,hx];omega,.inr ⟨g,cap,cur,rfl,hb,hg,by omega,hcm,hcs,?_⟩⟩
  rw[←htake,List.take_take]
  congr 1
  omega
theorem zBW (s:Nat):∀(ch:List (List Value)),(∀c∈ch,c.length=s)→ch.flatten.length=ch.length * s
 | [],_=>by simp
 | c :: r,h=>by
   rw[List.flatten_cons,List.length_append,zBW s r (fun x hx=>h x (List.mem_cons_of_mem _ hx)),h c (List.mem_cons_self ..),List.length_cons,Nat.add_mul]
   omega
theorem zEh (s:Nat):∀(k:Nat) (ch:List (List Value)),(∀c∈ch,c.length=s)→ch.flatten.take (k * s)=(ch.take k).flatten
 | 0,ch,_=>by simp
 | k+1,[],_=>by simp
 | k+1,c :: r,h=>by
   rw[List.flatten_cons,List.take_succ_cons,List.flatten_cons,←zEh s k r (fun x hx=>h x (List.mem_cons_of_mem _ hx)),List.take_append,h c (List.mem_cons_self ..),show (k+1) * s - s=k * s by rw[Nat.add_mul];omega,List.take_of_length_le]
   rw[h c (List.mem_cons_self ..),Nat.add_mul];omega
theorem zCc (s:Nat):∀(k:Nat) (ch:List (List Value)),(∀c∈ch,c.length=s)→ch.flatten.drop (k * s)=(ch.drop k).flatten
 | 0,ch,_=>by simp
 | k+1,[],_=>by simp
 | k+1,c :: r,h=>by
   rw[List.flatten_cons,List.drop_succ_cons,←zCc s k r (fun x hx=>h x (List.mem_cons_of_mem _ hx)),List.drop_append,h c (List.mem_cons_self ..),show (k+1) * s - s=k * s by rw[Nat.add_mul];omega,List.drop_eq_nil_of_le]
   ·rfl
   ·rw[h c (List.mem_cons_self ..),Nat.add_mul];omega
theorem zDr (s:Nat) (ch:List (List Value)) (hs:∀c∈ch,c.length=s) (k:Nat) (hk:k<ch.length) (z:List Value) :
 (zBo (zBo ch.flatten (k * s) (ch.drop (k+1)).flatten) ((ch.length - 1) * s) z).take ((ch.length - 1) * s)=(ch.eraseIdx k).flatten:=by
 have hl:=zBW s ch hs
 have hd:(ch.drop (k+1)).flatten.length=(ch.length - (k+1)) * s:=by
  rw[zBW s _ (fun c hc=>hs c (List.mem_of_mem_drop hc)),List.length_drop]
 have ht:(ch.take k).flatten.length=k * s:=by
  rw[zBW s _ (fun c hc=>hs c (List.mem_of_mem_take hc)),List.length_take,Nat.min_eq_left (by omega)]
 have e1:(ch.length - 1) * s=k * s+(ch.length - (k+1)) * s:=by rw[←Nat.add_mul];congr 1;omega
 have e2:(ch.length - 1) * s≤ch.length * s:=Nat.mul_le_mul_right _ (by omega)
 apply List.ext_getElem?
 intro j
 rw[List.eraseIdx_eq_take_drop_succ,List.flatten_append]
 by_cases hj:j<(ch.length - 1) * s
 ·rw[List.getElem?_take,if_pos hj,zC4,if_neg (by omega),zC4]
  by_cases hjk:j<k * s
  ·rw[if_neg (by omega),List.getElem?_append_left (by rw[ht];exact hjk),←zEh s k ch hs,List.getElem?_take,if_pos hjk]
  ·rw[if_pos ⟨by omega,by rw[hd];omega,by rw[hl];omega⟩,List.getElem?_append_right (by rw[ht];omega),ht]
 ·rw[List.getElem?_eq_none (by rw[List.length_take];omega),List.getElem?_eq_none (by rw[List.length_append,ht,hd];omega)]
theorem zDQ {P:Program} (w:World) (t e ty:TypeId) (z:Value) (zs:List Value) (ht:P.underlying t=some (.slice e)) (hv:∀w,(zeroValue e).run P w=.ok z w) (hz:(Builtin.zeroCells z.cells 1).toList=zs) (h1:∀u∈zs,u.oneCell'=true) (b o c:Nat)
 (hc:∀j,j<zs.length→(w.cell? ⟨b,o+j,none⟩).isSome=true) (hf:∀j,j<zs.length→w.frozen? ⟨b,o+j,none⟩=false) :
 (Builtin.clear_ #[t] ty #[.slice (some ⟨b,o,none⟩) 1 c]).run P w=.ok (.tuple #[]) (w.setCells b o zs):=by
 have hst:=run_storeCells_cells (P:=P) b o zs 0 w (by simpa using hc) (by simpa using hf) h1
 simp only[Nat.add_zero] at hst
 simp[Builtin.clear_,run_underlying ht,hv,hz,hst]
end Go.Proofs.YtdjbejlbmaiocafGreatDoor
