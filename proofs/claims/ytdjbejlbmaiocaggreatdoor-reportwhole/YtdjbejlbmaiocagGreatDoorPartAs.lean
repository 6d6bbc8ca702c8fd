/- What the proof leans on, part 19. -/
import Derived.Test.YtdjbejlbmaiocagGreatDoorPartAm
import Derived.Test.YtdjbejlbmaiocagGreatDoorPartAn
import Derived.Lib.SliceRun
import Derived.Deep.Onto
import Derived.Deep.RegionLaw
import Derived.Shelf.RegionOpenPlain
namespace Go.Proofs.YtdjbejlbmaiocagGreatDoor
open Go.RowKit
theorem Tryz.infoLit:(Tryz.prog.info? 88).map (fun i=>(i.zero,i.size,i.bytes))=some (some (.agg #[.int .i64 0,.int .i64 0,.int .i64 0]),3,24):=by kernel_rfl
theorem Tryz.underClauseE:Tryz.prog.underlying 38=some (.slice 88):=by kernel_rfl
def zDi (t:MLit):List Value:=[.int .i64 t.var,.int .i64 t.op,.int .i64 t.n]
def zBn (l:Cla):List Value:=l.flatMap zDi
theorem zJJ (l:Cla):(zBn l).length=l.length * 3:=by
 induction l with
 | nil=>rfl
 | cons t r ih=>unfold zBn at *;rw[List.flatMap_cons,List.length_append,ih,List.length_cons];simp[zDi];omega
theorem zJK (l:Cla) (i:Nat) (t:MLit) (h:l[i]? = some t):(zBn l)[i * 3]? = some (.int .i64 t.var)∧(zBn l)[i * 3+1]? = some (.int .i64 t.op)∧(zBn l)[i * 3+2]? = some (.int .i64 t.n):=by
 induction l generalizing i with
 | nil=>cases h
 | cons a r ih =>
   unfold zBn at *
   rw[List.flatMap_cons]
   have hl:(zDi a).length=3:=rfl
   cases i with
   | zero=>cases h;exact⟨rfl,rfl,rfl⟩
   | succ i =>
     obtain⟨h1,h2,h3⟩:=ih i (by simpa using h)
     refine⟨?_,?_,?_⟩
     ·rw[List.getElem?_append_right (by rw[hl];omega),hl,show (i+1) * 3 - 3=i * 3 by omega];exact h1
     ·rw[List.getElem?_append_right (by rw[hl];omega),hl,show (i+1) * 3+1 - 3=i * 3+1 by omega];exact h2
     ·rw[List.getElem?_append_right (by rw[hl];omega),hl,show (i+1) * 3+2 - 3=i * 3+2 by omega];exact h3
def LOwn (base:Nat) (w:World) (v:Value) (l:Cla):Prop:=w.ownsRow base 88 3 v l.length (zBn l)
theorem LOwn.arg {base:Nat} {w:World} {v:Value} {l:Cla} (h:LOwn base w v l):LArg w v l:=by
 have h':w.ownsRow base 88 3 v l.length (zBn l):=h
 rcases h'.2 with ⟨rfl,hn⟩ | ⟨g,cap,cur,rfl,hg,hh,hc1,hc2,_,_⟩
 ·have:l=[]:=List.eq_nil_of_length_eq_zero hn
  subst this
  exact⟨none,0,rfl,⟨Nat.le_refl _,Nat.zero_le _⟩,fun i z hz=>by simp at hz⟩
 ·refine⟨_,cap,rfl,⟨hc1,hc2⟩,fun i t ht=>?_⟩
  have hi:i<l.length:=(List.getElem?_eq_some_iff.1 ht).1
  obtain⟨g1,g2,g3⟩:=zJK l i t ht
  exact⟨g,0,rfl,(Array.getElem?_eq_some_iff.1 hh).1,by rw[Nat.zero_add,h'.cellAt (i * 3) (by omega)];exact g1,by rw[Nat.zero_add,h'.cellAt (i * 3+1) (by omega)];exact g2,by rw[Nat.zero_add,h'.cellAt (i * 3+2) (by omega)];exact g3⟩
theorem zNc (w:World) (t:MLit):∀(j:Nat) (u:Value),(zDi t)[j]? = some u→(w.alloc (.cells #[.int .i64 t.var,.int .i64 t.op,.int .i64 t.n] 88)).cell? ((⟨w.heap.size,0,none⟩:Addr).add j)=some u:=by
 intro j u hj
 match j,hj with
 | 0,hj=>simp[zDi] at hj;subst hj;simp[Addr.add]
 | 1,hj=>simp[zDi] at hj;subst hj;simp[Addr.add]
 | 2,hj=>simp[zDi] at hj;subst hj;simp[Addr.add]
set_option maxHeartbeats 1600000 in
set_option maxRecDepth 100000 in
theorem zH1 (vs:List MVar) (hva:zAR vs) (p:Nat) (hp:∀i,p.testBit i=true→(zAC vs).testBit i=true) (sv:Value) (w:World) (hv:VArg w sv vs) (hT:TabT w) :
 Calls Tryz.prog 197 #[sv,.int .u64 p] w fun e w'=>∃x,e=.returned x∧LOwn w.heap.size w' x (zBc vs p)∧Below w.heap.size w w':=by
 have HVO:Hid (zAR vs):=hva
 have HT:Hid (∀w',Below w.heap.size w w'→TabT w'):=fun w' h=>hT.below h
 have HP36:Hid (p<2 ^ 36):=by
  show p<2 ^ 36
  apply Nat.lt_pow_two_of_testBit
  intro i hi
  cases hb:p.testBit i
  ·rfl
  ·have:=hp i hb
   unfold zAC at this
   rw[Nat.testBit_lt_two_pow (Nat.lt_of_lt_of_le (zF6 vs hva.1 _) (Nat.pow_le_pow_right (by omega) hi))] at this
   cases this
 have HPW:Hid (∀i,p.testBit i=true→(zAC vs).testBit i=true):=hp
 obtain⟨a,c,rfl,hm,hr⟩:=hv
 have HV:Hid (∀(i:Nat) (t:MVar),vs[i]? = some t→t.name.size≤maxLen∧∃b off,a=some ⟨b,off,none⟩∧b<w.heap.size ∧
  w.cell? ⟨b,off+i * 3,none⟩=some (.string t.name)∧w.cell? ⟨b,off+i * 3+1,none⟩=some (.int .i64 t.lo)∧w.cell? ⟨b,off+i * 3+2,none⟩=some (.int .i64 t.hi)):=hr
 unfold maxLen at hm
 obtain⟨hm1,hm⟩:=hm
 have h6:=hva.1.1
 obtain⟨i0,hi,hz0,hz1,hz2⟩:=info_parts Tryz.infoLit
 clear hr hva hp hT
 go_enter Tryz.func197,Tryz.ntmps197
 go_wp2_with fail
 go_loopw [5,6] (fun v r wr=>∃(q:Nat) (done:Cla),r=.int .u64 (q:Int)∧LOwn w.heap.size wr v done∧Hid (zBc vs p=done++zBc vs q)∧Hid (q<2 ^ 36)∧Hid (∀i,q.testBit i=true→p.testBit i=true)∧Below w.heap.size w wr) (fun _ r _=>(intOf r).toNat)
 case atStart=>exact⟨p,[],rfl,World.ownsRow_nil _ _ _ _,rfl,HP36,fun _ h=>h,Below.refl _ _⟩
 case round =>
  obtain⟨q,done,rfl,hown,hsp,hq36,hqs,hbw⟩:=hrel
  have HOW:Hid (LOwn w.heap.size wr u5 done):=hown
  have HBW:Hid (Below w.heap.size w wr):=hbw
  obtain⟨ao,co,rfl⟩:=zAB (show wr.ownsRow _ _ _ _ _ _ from hown)
  clear hown hbw
  by_cases hq0:q=0
  ·subst hq0
   have HE:Hid (LOwn w.heap.size wr (.slice ao (List.length done) co) (zBc vs p)):=by
    have:zBc vs p=done:=by rw[hsp.out];simp[zBc,zIu]
    rw[this];exact HOW.out
   clear hsp hqs
   go_wp2
   go_ret
   exact⟨_,rfl,HE.out,HBW.out⟩
  ·obtain⟨hst,hk36⟩:=zFF q hq0 hq36.out
   obtain⟨k,hk⟩:∃k,Lib.ctz 64 q=k:=⟨_,rfl⟩
   have hbits:=zDn q hq0 (by have:=hq36.out;omega)
   have hless:=zHL q hq0 (by have:=hq36.out;omega)
   obtain⟨q2,hq2⟩:∃q2,q &&& (q - 1)=q2:=⟨_,rfl⟩
   have HQS:Hid (∀i,q2.testBit i=true→p.testBit i=true):=fun i hi=>by
    rw[←hq2,(hbits i).2.2,Bool.and_eq_true] at hi
    exact hqs.out i hi.1
   have hkb:=(hbits k).2.1 hk.symm
   have hkw:=HPW.out k (hqs.out k hkb)
   unfold zAC ofP at hkw
   rw[zAY vs HVO.out.1] at hkw
   simp only[Bool.and_eq_true,decide_eq_true_eq] at hkw
   have hkl:k / 6<vs.length:=hkw.1
   have hbn:=HVO.out.2 (k / 6) hkl
   obtain⟨lo,hlo⟩:∃lo,(zAL vs (k / 6)).lo=lo:=⟨_,rfl⟩
   have HN:Hid (zBc vs p=(done++[⟨((k / 6:Nat):Int),3,lo+((k % 6:Nat):Int)⟩])++zBc vs q2):=by
    show _=_
    rw[hsp.out,List.append_assoc]
    congr 1
    unfold zBc
    rw[hst,hk,hq2,List.map_cons,hlo];rfl
   rw[hk] at hk36
   rw[hq2] at hless
   obtain⟨_,b,off,hax,hb,_,c1,_⟩:=HV.out (k / 6) _ (zI8 hkl)
   subst hax
   have hc1:=(HBW.out.cell (p:=⟨b,off+k / 6 * 3+1,none⟩) hb).trans c1
   rw[hlo] at hc1 hbn
   have HK:Hid (Lib.ctz 64 q=k):=hk
   have hdl:done.length≤36:=by
    have h1:=zEO vs p
    rw[hsp.out,List.length_append] at h1
    omega
   have HQ36:Hid (q<2 ^ 36):=hq36.out
   have HQ2:Hid (q2<2 ^ 36):=by have:=hq36.out;show _<_;omega
   have hsub:IntKind.u64.wrap ((q:Int) - 1)=((q - 1:Nat):Int):=by rw[IntKind.wrap_u64];have:=hq36.out;omega
   have hand:=bits_and_u64_nat q (q - 1) (by have:=hq36.out;omega) (by have:=hq36.out;omega)
   rw[hq2] at hand
   have hne:((q:Int) != 0)=true:=by simpa using hq0
   have HLS:Hid (q2<q):=hless
   have hsm:-100≤lo+((k % 6:Nat):Int)∧lo+((k % 6:Nat):Int)≤100:=by omega
   clear hst hbits hqs hq36 hkb hkw hsp hlo hq2 hk c1 hless hq0
   go_wp2_with fail
   refine (zNa q (by have:=HQ36.out;omega) _ (HT.out _ HBW.out)).mono ?_
   rintro e w1 ⟨rfl,rfl⟩
   rw[HK.out]
   obtain⟨t,ht⟩:∃t:MLit,t=⟨(k:Int) / 6,3,lo+(k:Int) % 6⟩:=⟨_,rfl⟩
   have hown:w1.ownsRow w.heap.size 88 3 (.slice ao (List.length done) co) (List.length done) (zBn done):=HOW.out
   have HN2:Hid (zBc vs p=(done++[t])++zBc vs q2):=by show _=_;rw[ht];exact HN.out
   have hbs:=HBW.out.size
   go_wp2_with (at_builtin;refine wpList_append_own _ rfl _ _ 38 rfl w.heap.size 88 i0 (.agg #[.int .i64 0,.int .i64 0,.int .i64 0]) 3 24 Tryz.underClauseE hi hz0 hz1 hz2 rfl (by decide) _ _ _ rfl (hown.alloc _) ⟨w1.heap.size,0,none⟩ 1 1 (zDi ⟨(k:Int) / 6,3,lo+(k:Int) % 6⟩) rfl rfl ?c1 ?c2 ?c3 ?c4 ?c5 ?_)
   case c1=>exact zNc w1 ⟨(k:Int) / 6,3,lo+(k:Int) % 6⟩
   case c2=>intro u hu;simp[zDi] at hu;rcases hu with rfl | rfl | rfl <;> rfl
   case c3=>unfold maxLen;omega
   case c4=>omega
   case c5=>simp;omega
   intro v3 w3 hown3 hgrow _
   have HOW3:Hid (LOwn w.heap.size w3 v3 (done++[t])):=by
    show World.ownsRow _ _ _ _ _ _ _
    unfold zBn
    rw[List.length_append,List.flatMap_append,ht]
    simpa[zBn] using hown3
   have HB3:Hid (Below w.heap.size w w3):=(HBW.out.alloc hbs _).grown hgrow (by simp;omega) (fun g h=>(hown.lt g h).1)
   clear hown3 hgrow hown hc1
   go_wp2
   go_roundw
   case rel=>exact⟨q2,done++[t],rfl,HOW3.out,HN2,HQ2,HQS,HB3.out⟩
   case measure=>simp[intOf];exact HLS.out
theorem zJ7 (T:TypeId) (hT:Tryz.prog.underlying T=some (.slice 88)) (w:World) (ty:TypeId) (base n c:Nat) (v:Value) (xs:List Value) (hown:w.ownsRow base 88 3 v n xs) :
 (Builtin.append_ #[T,T] ty #[v,.slice none 0 c]).run Tryz.prog w=.ok v w:=by
 obtain⟨i0,hi,hz0,hz1,hz2⟩:=info_parts Tryz.infoLit
 rcases hown.2 with ⟨rfl,rfl⟩ | ⟨g,cap,cur,rfl,_,_,hnc,_⟩
 ·simp[Builtin.append_,run_underlying hT,sizeOf,typeInfo,hi,Builtin.lenOf,Builtin.firstCells]
 ·simp[Builtin.append_,run_underlying hT,sizeOf,typeInfo,hi,Builtin.lenOf,Builtin.firstCells,hnc,storeCells]
theorem zRw (l:Cla):∀u∈zBn l,u.oneCell'=true:=by
 intro u hu
 obtain⟨t,_,ht⟩:=List.mem_flatMap.1 hu
 simp[zDi] at ht
 rcases ht with rfl | rfl | rfl <;> rfl
theorem zMQ (l:Cla) (j:Nat) (y:Value) (h:(zBn l)[j]? = some y):∃(i:Nat) (t:MLit),l[i]? = some t∧((j=i * 3∧y=.int .i64 t.var)∨(j=i * 3+1∧y=.int .i64 t.op)∨(j=i * 3+2∧y=.int .i64 t.n)):=by
 have hj:j<l.length * 3:=by rw[←zJJ];exact (List.getElem?_eq_some_iff.1 h).1
 have hi:j / 3<l.length:=by omega
 obtain⟨g0,g1,g2⟩:=zJK l (j / 3) l[j / 3] (by simp[hi])
 refine⟨j / 3,l[j / 3],by simp[hi],?_⟩
 rcases (by omega:j=j / 3 * 3∨j=j / 3 * 3+1∨j=j / 3 * 3+2) with hq | hq | hq
 ·rw[←hq,h] at g0;exact Or.inl ⟨hq,Option.some.inj g0⟩
 ·rw[←hq,h] at g1;exact Or.inr (Or.inl ⟨hq,Option.some.inj g1⟩)
 ·rw[←hq,h] at g2;exact Or.inr (Or.inr ⟨hq,Option.some.inj g2⟩)
theorem zCg (T:TypeId) (hT:Tryz.prog.underlying T=some (.slice 88)) {w:World} {ops:Array Oper} {rest:List Oper} {o:Oper} {a:Act} {Q:Exit→Act→World→Prop} (hgd:o.guard=none) (s x:Operand)
 (ho:o.op=.call { callee:=.builtin .append,args:=#[s,x],argTypes:=#[T,T] }) (base:Nat)
 (v:Value) (xs:Cla) (hs:a.eval s=v) (hown:LOwn base w v xs)
 (u:Value) (l:Cla) (hx:a.eval x=u) (hl:LArg w u l) (hn:xs.length+l.length≤1000) (hbase:base≤w.heap.size)
 (h:∀v' w',LOwn base w' v' (xs++l)→w.grownBy w' v.ownBlock→wpList Tryz.prog ops Q rest (a.put o.dst v') w'):wpList Tryz.prog ops Q (o :: rest) a w:=by
 obtain⟨i0,hi,hz0,hz1,hz2⟩:=info_parts Tryz.infoLit
 obtain⟨q,c,rfl,hm,hc⟩:=hl
 have hown':w.ownsRow base 88 3 v xs.length (zBn xs):=hown
 cases q with
 | none =>
   have hl0:l=[]:=by
    cases l with
    | nil=>rfl
    | cons z r=>obtain⟨b,off,hq,_⟩:=hc 0 z rfl;cases hq
   subst hl0
   refine wpList_plain hgd fun K hK=>?_
   have hr:=zJ7 T hT w o.type base xs.length c v _ hown'
   unfold Oper.wp execOp
   simp only[ho,resolve,invoke,builtin,Sem.run_bind,Sem.run_pure,Result.andThen_ok,List.map_toArray,List.map_cons,List.map_nil,hs,hx,List.length_nil,hr]
   exact hK _ _ (h v w (by rw[List.append_nil];exact hown) ⟨rfl,rfl,rfl,Nat.le_refl _,fun _ _ _=>rfl⟩)
 | some ad =>
   refine wpList_append_own w hgd s x T ho base 88 i0 (.agg #[.int .i64 0,.int .i64 0,.int .i64 0]) 3 24 hT hi hz0 hz1 hz2 rfl (by decide) v xs.length _ hs hown' ad l.length c (zBn l) hx (zJJ l) ?_ (zRw l) (by unfold maxLen;omega) (by omega) hbase ?_
   ·intro j y hy
    obtain⟨i,t,ht,hcase⟩:=zMQ l j y hy
    obtain⟨b,off,hq,_,c0,c1,c2⟩:=hc i t ht
    cases hq
    rw[zIo]
    rcases hcase with ⟨rfl,rfl⟩ | ⟨rfl,rfl⟩ | ⟨rfl,rfl⟩
    ·exact c0
    ·rw[←Nat.add_assoc];exact c1
    ·rw[←Nat.add_assoc];exact c2
   ·intro v' w' h1 h2 h3
    refine h v' w' ?_ h2
    show w'.ownsRow _ _ _ _ _ _
    unfold zBn at *
    rw[List.length_append,List.flatMap_append]
    exact h1
theorem zS9 (w:World):LArg w (.slice none 0 0) []:=⟨none,0,rfl,⟨Nat.le_refl _,Nat.zero_le _⟩,fun i z hz=>by simp at hz⟩
theorem zQD {w:World} {l:Cla} {n c:Nat} (h:LArg w (.slice none n c) l):l=[]:=by
 obtain⟨a,c2,he,_,hr⟩:=h
 cases l with
 | nil=>rfl
 | cons z r =>
   obtain⟨b,off,hq,_⟩:=hr 0 z rfl
   rw[hq] at he
   cases he
theorem zBI {base base':Nat} {w:World} {v:Value} {l:Cla} (hb:base'≤base) (h:LOwn base w v l):LOwn base' w v l:=World.ownsRow.mono h hb
theorem zG6 (w:World):LOwn w.heap.size (w.alloc (.cells #[] 88)) (.slice (some ⟨w.heap.size,0,none⟩) 0 0) []:=World.ownsRow_made w #[] 0 (Nat.le_refl _) (Nat.zero_le _) (by simp)
theorem zDZ:Tryz.prog.underlying 38=some (.slice 88):=by kernel_rfl
set_option maxHeartbeats 800000 in
set_option maxRecDepth 100000 in
theorem zKy (l:Cla) (hl:l.length≤900) (u:Value) (w:World) (hu:LArg w u l) :
 Calls Tryz.prog 257 #[u] w fun e w'=>∃x,e=.returned x∧LOwn w.heap.size w' x l∧Below w.heap.size w w':=by
 have HU:Hid (∀w',Below w.heap.size w w'→LArg w' u l):=fun w' h=>LArg.below h hu
 have q22:∀(w:World) (a:Option Addr) (n c n' c':Nat),(binOp .eql 38 (.slice a n c) (.slice none n' c')).run Tryz.prog w=.ok (.bool a.isNone) w:=fun w a n c n' c'=>Lib.run_eql_slice_nil w _ _ a n c n' c' zDZ
 obtain⟨a,c,he,_,_⟩:=id hu
 subst he
 cases a with
 | none =>
   have:=zQD hu
   subst this
   clear hu HU
   go_enter Tryz.func257,Tryz.ntmps257
   go_wp2
   go_ret
   exact⟨_,rfl,World.ownsRow_nil _ _ _ _,Below.refl _ _⟩
 | some ad =>
   have HL:Hid (l.length≤900):=hl
   clear hu hl
   go_enter Tryz.func257,Tryz.ntmps257
   go_wp2_with (at_builtin;refine zCg 38 zDZ rfl _ _ rfl w.heap.size _ [] rfl (zG6 w) _ l rfl (HU.out _ (zAA _ _)) ?c1 ?c2 ?_)
   case c1=>have:=HL.out;simp;omega
   case c2=>simp
   intro v3 w3 hown3 hgrow
   have HB3:Hid (Below w.heap.size w w3):=(zAA _ _).grown hgrow (by simp) (by intro k hk;simp[Value.ownBlock] at hk;omega)
   have HO3:Hid (LOwn w.heap.size w3 v3 l):=hown3
   obtain⟨av,cv,rfl⟩:=zAB (show w3.ownsRow _ _ _ _ _ _ from hown3)
   clear hown3 hgrow
   go_wp2
   go_ret
   exact⟨_,rfl,HO3.out,HB3.out⟩
theorem zCK:Tryz.prog.underlying 37=some (.slice 88):=by kernel_rfl
set_option maxHeartbeats 800000 in
set_option maxRecDepth 100000 in
theorem zJL (l:Cla) (hl:l.length≤900) (u:Value) (w:World) (hu:LArg w u l) :
 Calls Tryz.prog 279 #[u] w fun e w'=>∃x,e=.returned x∧LOwn w.heap.size w' x l∧Below w.heap.size w w':=by
 have HU:Hid (∀w',Below w.heap.size w w'→LArg w' u l):=fun w' h=>LArg.below h hu
 have q22:∀(w:World) (a:Option Addr) (n c n' c':Nat),(binOp .eql 37 (.slice a n c) (.slice none n' c')).run Tryz.prog w=.ok (.bool a.isNone) w:=fun w a n c n' c'=>Lib.run_eql_slice_nil w _ _ a n c n' c' zCK
 obtain⟨a,c,he,_,_⟩:=id hu
 subst he
 cases a with
 | none =>
   have:=zQD hu
   subst this
   clear hu HU
   go_enter Tryz.func279,Tryz.ntmps279
   go_wp2
   go_ret
   exact⟨_,rfl,World.ownsRow_nil _ _ _ _,Below.refl _ _⟩
 | some ad =>
   have HL:Hid (l.length≤900):=hl
   clear hu hl
   go_enter Tryz.func279,Tryz.ntmps279
   go_wp2_with (at_builtin;refine zCg 37 zCK rfl _ _ rfl w.heap.size _ [] rfl (zG6 w) _ l rfl (HU.out _ (zAA _ _)) ?c1 ?c2 ?_)
   case c1=>have:=HL.out;simp;omega
   case c2=>simp
   intro v3 w3 hown3 hgrow
   have HB3:Hid (Below w.heap.size w w3):=(zAA _ _).grown hgrow (by simp) (by intro k hk;simp[Value.ownBlock] at hk;omega)
   have HO3:Hid (LOwn w.heap.size w3 v3 l):=hown3
   obtain⟨av,cv,rfl⟩:=zAB (show w3.ownsRow _ _ _ _ _ _ from hown3)
   clear hown3 hgrow
   go_wp2
   go_ret
   exact⟨_,rfl,HO3.out,HB3.out⟩
def zDa (xs:List Value):Nat→List Value→List Value
 | _,[]=>xs
 | o,v :: r=>zDa (xs.set o v) (o+1) r
theorem zFq (j:Nat):∀(vs xs:List Value) (o:Nat),(zDa xs o vs)[j]? = if o≤j∧j<o+vs.length∧j<xs.length then vs[j - o]? else xs[j]?
 | [],xs,o=>by
   unfold zDa
   rw[if_neg (by simp;omega)]
 | v :: r,xs,o=>by
   unfold zDa
   rw[zFq j r]
   by_cases h:o=j
   ·subst h
    rw[if_neg (by omega),List.getElem?_set]
    by_cases hl:o<xs.length
    ·rw[if_pos rfl,if_pos hl,if_pos ⟨Nat.le_refl _,by simp,hl⟩];simp
    ·rw[if_pos rfl,if_neg hl,if_neg (by omega)]
     rw[List.getElem?_eq_none (by omega)]
   ·rw[List.getElem?_set_ne h]
    simp only[List.length_set,List.length_cons]
    by_cases hc:o+1≤j∧j<o+1+r.length∧j<xs.length
    ·rw[if_pos hc,if_pos (by omega),show j - o=(j - (o+1))+1 by omega,List.getElem?_cons_succ]
    ·rw[if_neg hc,if_neg (by omega)]
theorem zC9 {base:Nat} {e:TypeId} {size g n cap:Nat}:∀(vs xs:List Value) (o:Nat) (w:World),w.ownsRow base e size (.slice (some ⟨g,0,none⟩) n cap) n xs→base≤g →
 (w.setCells g o vs).ownsRow base e size (.slice (some ⟨g,0,none⟩) n cap) n (zDa xs o vs)∧Below base w (w.setCells g o vs)
 | [],xs,o,w,h,_=>⟨h,Below.refl _ _⟩
 | v :: r,xs,o,w,h,hg=>by
   obtain⟨h1,h2⟩:=h.stored o v
   obtain⟨h3,h4⟩:=zC9 r _ (o+1) _ h1 hg
   refine⟨h3,Below.trans ?_ h4⟩
   exact (Below.refl base w).setCell hg v
theorem zGm {base:Nat} {e:TypeId} {size g n cap:Nat} {xs:List Value} {w:World} (k:Nat) (hk:k≤n) (h:w.ownsRow base e size (.slice (some ⟨g,0,none⟩) n cap) n xs):w.ownsRow base e size (.slice (some ⟨g,0,none⟩) k cap) k (xs.take (k * size)):=by
 have hx:=h.1
 have hm:k * size≤n * size:=Nat.mul_le_mul_right _ hk
 rcases h.2 with ⟨h',_⟩ | ⟨g',cap',cur,h',hb,hg,hnc,hcm,hcs,htake⟩
 ·simp at h'
 ·simp only[Value.slice.injEq,Option.some.injEq,Addr.mk.injEq,and_true,true_and] at h'
  obtain⟨rfl,rfl⟩:=h'
  refine⟨by rw[List.length_take,hx];omega,.inr ⟨g,cap,cur,rfl,hb,hg,by omega,hcm,hcs,?_⟩⟩
  rw[←htake,List.take_take]
  congr 1
  omega
theorem zCz (s:Nat):∀(ch:List (List Value)),(∀c∈ch,c.length=s)→ch.flatten.length=ch.length * s
 | [],_=>by simp
 | c :: r,h=>by
   rw[List.flatten_cons,List.length_append,zCz s r (fun x hx=>h x (List.mem_cons_of_mem _ hx)),h c (List.mem_cons_self ..),List.length_cons,Nat.add_mul]
   omega
theorem zH2 (s:Nat):∀(k:Nat) (ch:List (List Value)),(∀c∈ch,c.length=s)→ch.flatten.take (k * s)=(ch.take k).flatten
 | 0,ch,_=>by simp
 | k+1,[],_=>by simp
 | k+1,c :: r,h=>by
   rw[List.flatten_cons,List.take_succ_cons,List.flatten_cons,←zH2 s k r (fun x hx=>h x (List.mem_cons_of_mem _ hx)),List.take_append,h c (List.mem_cons_self ..),show (k+1) * s - s=k * s by rw[Nat.add_mul];omega,List.take_of_length_le]
   rw[h c (List.mem_cons_self ..),Nat.add_mul];omega
theorem zE0 (s:Nat):∀(k:Nat) (ch:List (List Value)),(∀c∈ch,c.length=s)→ch.flatten.drop (k * s)=(ch.drop k).flatten
 | 0,ch,_=>by simp
 | k+1,[],_=>by simp
 | k+1,c :: r,h=>by
   rw[List.flatten_cons,List.drop_succ_cons,←zE0 s k r (fun x hx=>h x (List.mem_cons_of_mem _ hx)),List.drop_append,h c (List.mem_cons_self ..),show (k+1) * s - s=k * s by rw[Nat.add_mul];omega,List.drop_eq_nil_of_le]
   ·rfl
   ·rw[h c (List.mem_cons_self ..),Nat.add_mul];omega
theorem zG7 (s:Nat) (ch:List (List Value)) (hs:∀c∈ch,c.length=s) (k:Nat) (hk:k<ch.length) (z:List Value) :
 (zDa (zDa ch.flatten (k * s) (ch.drop (k+1)).flatten) ((ch.length - 1) * s) z).take ((ch.length - 1) * s)=(ch.eraseIdx k).flatten:=by
 have hl:=zCz s ch hs
 have hd:(ch.drop (k+1)).flatten.length=(ch.length - (k+1)) * s:=by
  rw[zCz s _ (fun c hc=>hs c (List.mem_of_mem_drop hc)),List.length_drop]
 have ht:(ch.take k).flatten.length=k * s:=by
  rw[zCz s _ (fun c hc=>hs c (List.mem_of_mem_take hc)),List.length_take,Nat.min_eq_left (by omega)]
 have e1:(ch.length - 1) * s=k * s+(ch.length - (k+1)) * s:=by rw[←Nat.add_mul];congr 1;omega
 have e2:(ch.length - 1) * s≤ch.length * s:=Nat.mul_le_mul_right _ (by omega)
 apply List.ext_getElem?
 intro j
 rw[List.eraseIdx_eq_take_drop_succ,List.flatten_append]
 by_cases hj:j<(ch.length - 1) * s
 ·rw[List.getElem?_take,if_pos hj,zFq,if_neg (by omega),zFq]
  by_cases hjk:j<k * s
  ·rw[if_neg (by omega),List.getElem?_append_left (by rw[ht];exact hjk),←zH2 s k ch hs,List.getElem?_take,if_pos hjk]
  ·rw[if_pos ⟨by omega,by rw[hd];omega,by rw[hl];omega⟩,List.getElem?_append_right (by rw[ht];omega),ht]
 ·rw[List.getElem?_eq_none (by rw[List.length_take];omega),List.getElem?_eq_none (by rw[List.length_append,ht,hd];omega)]
theorem zGM {P:Program} (w:World) (t e ty:TypeId) (z:Value) (zs:List Value) (ht:P.underlying t=some (.slice e)) (hv:∀w,(zeroValue e).run P w=.ok z w) (hz:(Builtin.zeroCells z.cells 1).toList=zs) (h1:∀u∈zs,u.oneCell'=true) (b o c:Nat)
 (hc:∀j,j<zs.length→(w.cell? ⟨b,o+j,none⟩).isSome=true) (hf:∀j,j<zs.length→w.frozen? ⟨b,o+j,none⟩=false) :
 (Builtin.clear_ #[t] ty #[.slice (some ⟨b,o,none⟩) 1 c]).run P w=.ok (.tuple #[]) (w.setCells b o zs):=by
 have hst:=run_storeCells_cells (P:=P) b o zs 0 w (by simpa using hc) (by simpa using hf) h1
 simp only[Nat.add_zero] at hst
 simp[Builtin.clear_,run_underlying ht,hv,hz,hst]
end Go.Proofs.YtdjbejlbmaiocagGreatDoor
