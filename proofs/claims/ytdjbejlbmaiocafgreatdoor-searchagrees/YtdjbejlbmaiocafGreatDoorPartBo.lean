/- What the proof leans on, part 41. -/
import Derived.Test.YtdjbejlbmaiocafGreatDoorPartAr
import Derived.Test.YtdjbejlbmaiocafGreatDoorPartAy
import Derived.Test.YtdjbejlbmaiocafGreatDoorPartBn
namespace Go.Proofs.YtdjbejlbmaiocafGreatDoor
open Go.RowKit
structure EaB where
 bV:Nat
 bT:Nat
 bM:Nat
 bD:Nat
 bB:Nat
 bF:Nat
 bR:Nat
 B:Nat
 N:Nat
 FT:Nat
 c1:Value
 sv:Value
 dv:Nat→Value
def EaB.caps (q:EaB):Array Value:=#[.pointer (some ⟨q.bV,0,none⟩),.pointer (some ⟨q.bT,0,none⟩),.pointer (some ⟨q.bM,0,none⟩),.pointer (some ⟨q.bD,0,none⟩),.pointer (some ⟨q.bB,0,none⟩),.pointer (some ⟨q.bF,0,none⟩)]
structure EaAt (q:EaB) (vs:List MVar) (cons:List MCon) (vals:List Int) (w:World):Prop where
 len:vals.length=vs.length
 own:w.ownsRow q.N 3 1 (.slice (some ⟨q.bR,0,none⟩) vs.length vs.length) vs.length (vals.map (Value.int .i64))
 cV:w.cell? ⟨q.bV,0,none⟩=some (.slice (some ⟨q.bR,0,none⟩) vs.length vs.length)
 cT:w.cell? ⟨q.bT,0,none⟩=some (.func (.func q.FT) #[] #[q.c1])
 cM:w.cell? ⟨q.bM,0,none⟩=some q.sv
 mv:VArg w q.sv vs
 cD:w.cell? ⟨q.bD,0,none⟩=some (.slice (some ⟨q.B,0,none⟩) vs.length vs.length)
 due:∀v,v<vs.length→w.cell? ⟨q.B,v,none⟩=some (q.dv v)∧CArg w (q.dv v) (dueP cons v)
 cB:w.cell? ⟨q.bB,0,none⟩=some (.func (.func 130) #[] #[.pointer (some ⟨q.bV,0,none⟩)])
 cF:w.cell? ⟨q.bF,0,none⟩=some (.func (.func 131) #[] q.caps)
structure Told9 {σ:Type} (q:EaB) (vs:List MVar) (cons:List MCon) (tell:σ→List Int→Bool×σ) (J:σ→List Int→World→Prop):Prop where
 enters:∀(args:Array Value) (w':World),Sem.run Tryz.prog (callFunc q.FT args) w'=.ok (.enter q.FT args) w'
 at9:∀s vals w,J s vals w→EaAt q vs cons vals w
 below:∀s vals w w',J s vals w→Below w.heap.size w w'→J s vals w'
 set:∀s vals w v x,J s vals w→v<vs.length→J s (vals.set v x) (w.setCell ⟨q.bR,v,none⟩ (.int .i64 x))
 call:∀s vals w,J s vals w→Calls Tryz.prog q.FT #[.slice (some ⟨q.bR,0,none⟩) vs.length vs.length,q.c1] w fun e w'=>e=.returned (.bool (tell s vals).1)∧J (tell s vals).2 vals w'
theorem zKp {σ:Type} (tell:σ→List Int→Bool×σ) (x:List Int) (s:σ):runT tell [x] s=tell s x:=by
 unfold runT
 cases h:(tell s x).1
 ·simp only[Bool.false_eq_true,if_false]
  rw[←h]
 ·simp only[if_true,runT]
  rw[←h]
set_option maxHeartbeats 1600000 in
set_option maxRecDepth 100000 in
theorem zKq {σ:Type} (q:EaB) (m:Mod) (tell:σ→List Int→Bool×σ) (J:σ→List Int→World→Prop) (hJ:Told9 q m.vars m.cons tell J) (vals:List Int) (s:σ) (w:World) (hI:J s vals w) :
 Calls Tryz.prog 131 (#[.int .i64 (m.vars.length:Int)]++q.caps) w fun e w'=>e=.returned (.bool (tell s vals).1)∧J (tell s vals).2 vals w':=by
 have HJ:Hid (Told9 q m.vars m.cons tell J):=hJ
 have HI:Hid (J s vals w):=hI
 obtain⟨hlen,hown,cV,cT,cM,mv,cD,hdue,cB,cF⟩:=hJ.at9 s vals w hI
 obtain⟨T,hT⟩:∃T,tell s vals=T:=⟨_,rfl⟩
 rw[hT]
 have HT:Hid (tell s vals=T):=hT
 have lV:=World.block_lt_of_cell? w _ cV
 have lT:=World.block_lt_of_cell? w _ cT
 have HC:Hid (Calls Tryz.prog q.FT #[.slice (some ⟨q.bR,0,none⟩) m.vars.length m.vars.length,q.c1] w fun e w'=>e=.returned (.bool T.1)∧J T.2 vals w'):=by
  rw[←hT];exact hJ.call s vals w hI
 unfold EaB.caps
 clear hI hJ hT cM mv cD hdue cB cF hown
 go_enter Tryz.func131,Tryz.ntmps131
 go_wp2_with fail
 rw[HJ.out.enters,Oper.upon_enter]
 refine HC.out.mono ?_
 rintro e w1 ⟨rfl,hb1⟩
 have H1:Hid (J T.2 vals w1):=hb1
 obtain⟨T1,T2⟩:=T
 go_wp2
 go_ret
 exact⟨rfl,H1.out⟩
def zIV (vs:List MVar) (u:List Int):Prop:=∀i:Nat,i<u.length→(zAE vs i).lo≤zAY u (i:Int)∧zAY u (i:Int)≤(zAE vs i).hi
theorem zFQ (vs:List MVar) (u:List Int) (x:Int) (h:zIV vs u) (h1:(zAE vs u.length).lo≤x) (h2:x≤(zAE vs u.length).hi):zIV vs (u++[x]):=by
 intro i hi
 rw[List.length_append,List.length_singleton] at hi
 unfold zAY
 rw[Int.toNat_natCast,List.getD_eq_getElem?_getD]
 by_cases he:i=u.length
 ·subst he
  rw[List.getElem?_concat_length]
  exact⟨h1,h2⟩
 ·have:=h i (by omega)
  unfold zAY at this
  rw[Int.toNat_natCast,List.getD_eq_getElem?_getD] at this
  rw[List.getElem?_append_left (by omega)]
  exact this
theorem zLl (m:Mod) (hm:zAI m=0) (c:MCon) (hc:c∈m.cons) (vals u:List Int) (hl:zA5 c<u.length) (ht:vals.take u.length=u) (hu:u.length≤m.vars.length) (hp:zIV m.vars u):∀x∈ownV c.vars vals,-50≤x∧x≤50:=by
 intro x hx
 obtain⟨i,hi,rfl⟩:=List.mem_map.1 hx
 obtain⟨j,hj⟩:=List.mem_iff_getElem?.1 hc
 obtain⟨h1,_⟩:=zBu m hm j c hj
 have hs:i∈zAQ c:=(zDC c i).2 (List.mem_append_left _ hi)
 have h3:=zHZ _ (zDo c) i hs
 have h4:=(h1 i hs).1
 unfold zA5 at hl
 obtain⟨k,rfl⟩:∃k:Nat,i=(k:Int):=⟨i.toNat,by omega⟩
 have hk:k<u.length:=by omega
 have e:zAY vals (k:Int)=zAY u (k:Int):=by
  unfold zAY
  have e2:=congrArg (fun l=>l[k]?) ht
  simp only[List.getElem?_take_of_lt hk] at e2
  rw[Int.toNat_natCast,List.getD_eq_getElem?_getD,List.getD_eq_getElem?_getD,e2]
 rw[e]
 have:=hp k hk
 have:=zEO m hm k (by omega)
 omega
theorem zHj (vals:List Int) (v:Nat) (pre:List Int) (y:Int) (hv:v<vals.length) (h:vals.take v=pre):(vals.set v y).take (v+1)=pre++[y]:=by
 rw[List.take_add_one,List.getElem?_set_self hv,List.take_set_of_le (Nat.le_refl _),h]
 rfl
theorem zDR (vals:List Int) (v:Nat) (pre:List Int) (x:Int) (hp:pre.length=v) (h:vals.take (v+1)=pre++[x]):vals.take v=pre∧vals[v]? = some x:=by
 have h1:=congrArg (List.take v) h
 rw[List.take_take,Nat.min_eq_left (Nat.le_succ _),List.take_append_of_le_length (by omega)] at h1
 have h3:pre.take v=pre:=List.take_of_length_le (by omega)
 rw[h3] at h1
 refine⟨h1,?_⟩
 have h2:=congrArg (fun l=>l[v]?) h
 simp only[List.getElem?_take_of_lt (show v<v+1 by omega)] at h2
 rw[h2,←hp,List.getElem?_concat_length]
end Go.Proofs.YtdjbejlbmaiocafGreatDoor
