/- What the proof leans on, part 23. -/
import Derived.Test.YtndcpnlaadikoaaGreatDoorPartAv
import Derived.Test.YtndcpnlaadikoaaGreatDoorPartAq
import Derived.Test.YtndcpnlaadikoaaGreatDoorPartAu
import Derived.Test.YtndcpnlaadikoaaGreatDoorPartAr
namespace Go.Proofs.YtndcpnlaadikoaaGreatDoor
open Go.RowKit
theorem zFV {α β:Type} (f:α→β) (l:List α) (k:Nat):(l.map f).eraseIdx k=(l.eraseIdx k).map f:=by
 rw[List.eraseIdx_eq_take_drop_succ,List.eraseIdx_eq_take_drop_succ,List.map_append,List.map_take,List.map_drop]
theorem zHq (l:Cla):(l.map zCh).flatten=zA1 l:=by unfold zA1;rw[List.flatMap]
theorem zLb (l:Cla):∀c∈l.map zCh,c.length=3:=by
 intro c hc
 obtain⟨t,_,rfl⟩:=List.mem_map.1 hc
 rfl
theorem zIs (l:Cla):∀c∈l.map zCh,∀u∈c,u.oneCell'=true:=by
 intro c hc u hu
 obtain⟨t,_,rfl⟩:=List.mem_map.1 hc
 simp[zCh] at hu
 rcases hu with rfl | rfl | rfl <;> rfl
theorem zN2 {base:Nat} {w:World} {v:Value} {l:Cla} (h:LOwn base w v l):w.ownsRow base 76 3 v (l.map zCh).length (l.map zCh).flatten:=by
 rw[List.length_map,zHq];exact h
theorem zN3 {base:Nat} {w:World} {v:Value} {l:Cla} (h:w.ownsRow base 76 3 v (l.map zCh).length (l.map zCh).flatten):LOwn base w v l:=by
 rw[List.length_map,zHq] at h;exact h
def zND (F:Nat) (caps:Array Value) (enough:Cla→Bool) (n:Nat) (w:World):Prop :=
 (∀(args:Array Value) (w':World),Sem.run Tryz.prog (callFunc F args) w'=.ok (.enter F args) w') ∧
 ∀(c:Cla) (v:Value) (w':World),c.length≤n→Below w.heap.size w w'→LArg w' v c→Calls Tryz.prog F (#[v]++caps) w' fun e w''=>e=.returned (.bool (enough c))∧Below w'.heap.size w' w''
theorem zNf (l:Cla) (k:Nat) (hk:k<l.length) (base:Nat) (v:Value) (w:World) (h:LOwn base w v l) :
 Calls Tryz.prog 228 #[v,.int .i64 k,.int .i64 ((k:Int)+1)] w fun e w'=>∃x,e=.returned x∧LOwn base w' x (l.eraseIdx k)∧Below base w w':=by
 refine (zMn (l.map zCh) (zLb l) (zIs l) k (by rw[List.length_map];exact hk) base v w (zN2 h)).mono ?_
 rintro e w' ⟨x,rfl,hx,hb⟩
 rw[zFV] at hx
 exact⟨x,rfl,zN3 hx,hb⟩
theorem zGN {α:Type} (enough:List α→Bool) (k:Nat) (out:List α):zAq enough (k+1) out=zAq enough k (if enough (out.eraseIdx k) then out.eraseIdx k else out):=rfl
set_option maxHeartbeats 1600000 in
set_option maxRecDepth 100000 in
theorem zKP (F:Nat) (caps:Array Value) (enough:Cla→Bool) (l:Cla) (hl:l.length≤900) (v:Value) (w:World) (hv:LArg w v l) (hF:zND F caps enough l.length w) :
 Calls Tryz.prog 142 #[v,.func (.func F) #[] caps] w fun e w'=>∃x,e=.returned x∧LOwn w.heap.size w' x (zAq enough l.length l)∧Below w.heap.size w w':=by
 have HV:Hid (LArg w v l):=hv
 have HL:Hid (l.length≤900):=hl
 have HF:Hid (zND F caps enough l.length w):=hF
 obtain⟨R,hR⟩:∃R,zAq enough l.length l=R:=⟨_,rfl⟩
 have HR:Hid (R=zAq enough l.length l):=hR.symm
 rw[hR]
 obtain⟨a,c,rfl,_,_⟩:=hv
 clear hF hR
 go_enter Tryz.func142,Tryz.ntmps142
 go_wp2_with fail
 refine (zGL l HL.out _ _ HV.out).mono ?_
 rintro e w1 ⟨x,rfl,hx,hb1⟩
 have HX:Hid (LOwn w.heap.size w1 x l):=hx
 have HB1:Hid (Below w.heap.size w w1):=hb1
 obtain⟨ax,cx,rfl⟩:=zAE (show w1.ownsRow _ _ _ _ _ _ from hx)
 clear hx hb1
 go_wp2_with fail
 go_loopw [5,6] (fun o i wr=>∃(out:Cla) (k:Nat),i=.int .i64 ((k:Int) - 1)∧k≤out.length∧Hid (out.length≤l.length)∧LOwn w.heap.size wr o out∧Hid (R=zAq enough k out)∧Below w.heap.size w wr) (fun _ i _=>(intOf i+1).toNat)
 case atStart=>exact⟨l,l.length,rfl,Nat.le_refl _,Nat.le_refl _,HX.out,HR,HB1.out⟩
 case round =>
  obtain⟨out,k,rfl,hk,hlo,ho,hrd,hbw⟩:=hrel
  have HO:Hid (LOwn w.heap.size wr u5 out):=ho
  have HBW:Hid (Below w.heap.size w wr):=hbw
  obtain⟨ao,co,rfl⟩:=zAE (show wr.ownsRow _ _ _ _ _ _ from ho)
  clear ho hbw
  cases k with
  | zero =>
    have HE:Hid (R=out):=hrd.out
    clear hrd
    go_wp2
    go_ret
    exact⟨_,rfl,by rw[HE.out];exact HO.out,HBW.out⟩
  | succ k =>
    have hke:((k+1:Nat):Int) - 1=(k:Int):=by omega
    rw[hke]
    have HST:Hid (R=zAq enough k (if enough (out.eraseIdx k) then out.eraseIdx k else out)):=hrd.out
    have HLO:Hid (out.length≤900):=Nat.le_trans hlo.out HL.out
    have HEL:Hid ((out.eraseIdx k).length=out.length - 1):=List.length_eraseIdx_of_lt (by omega)
    have hk9:k+1≤900:=Nat.le_trans hk HLO.out
    clear hrd hke
    go_wp2_with fail
    refine (zGL out HLO.out _ _ HO.out.arg).mono ?_
    rintro e w2 ⟨y,rfl,hy,hb2⟩
    have HY:Hid (LOwn w.heap.size w2 y out):=zAw HBW.out.size hy
    have HY2:Hid (LOwn wr.heap.size w2 y out):=hy
    have HO2:Hid (LOwn w.heap.size w2 (.slice ao (List.length out) co) out):=zAD HO.out hb2
    have HBR:Hid (Below wr.heap.size wr w2):=hb2
    have HB2:Hid (Below w.heap.size w w2):=HBW.out.trans (hb2.mono HBW.out.size)
    obtain⟨ay,cy,rfl⟩:=zAE (show w2.ownsRow _ _ _ _ _ _ from hy)
    clear hy hb2
    go_wp2_with fail
    refine (zNf out k (by omega) wr.heap.size _ _ HY2.out).mono ?_
    rintro e w3 ⟨z,rfl,hz,hb3⟩
    have HZ:Hid (LOwn w.heap.size w3 z (out.eraseIdx k)):=zAw HBW.out.size hz
    have HBR3:Hid (Below wr.heap.size wr w3):=HBR.out.trans hb3
    have HO3:Hid (LOwn w.heap.size w3 (.slice ao (List.length out) co) out):=zAD HO.out HBR3.out
    have HB3:Hid (Below w.heap.size w w3):=HBW.out.trans (HBR3.out.mono HBW.out.size)
    obtain⟨az,cz,rfl⟩:=zAE (show w3.ownsRow _ _ _ _ _ _ from hz)
    have HCL:Hid (Calls Tryz.prog F (#[.slice az (out.eraseIdx k).length cz]++caps) w3 fun e w''=>e=.returned (.bool (enough (out.eraseIdx k)))∧Below w3.heap.size w3 w''):=HF.out.2 _ _ _ (by have:=hlo.out;have:=HEL.out;omega) HB3.out HZ.out.arg
    obtain⟨B,hB⟩:∃B,enough (out.eraseIdx k)=B:=⟨_,rfl⟩
    rw[hB] at HCL HST
    obtain⟨E,hE⟩:∃E,out.eraseIdx k=E:=⟨_,rfl⟩
    rw[hE] at HCL HST HEL HZ ⊢
    have HLK:Hid (E.length≤l.length):=by have:=hlo.out;have:=HEL.out;show _≤_;omega
    have hkE:k≤E.length:=by have:=HEL.out;omega
    clear hz hb3 hB hE
    go_wp2_with fail
    rw[HF.out.1,Oper.upon_enter]
    refine HCL.out.mono ?_
    rintro e w4 ⟨rfl,hb4⟩
    have HO4:Hid (LOwn w.heap.size w4 (.slice ao (List.length out) co) out):=zAD HO3.out hb4
    have HZ4:Hid (LOwn w.heap.size w4 (.slice az (List.length E) cz) E):=zAD HZ.out hb4
    have HB4:Hid (Below w.heap.size w w4):=HB3.out.trans (hb4.mono HB3.out.size)
    clear hb4
    cases B
    ·have HN:Hid (R=zAq enough k out):=HST.out
     clear HST
     go_wp2
     go_roundw
     case rel=>exact⟨out,k,rfl,by omega,hlo,HO4.out,HN,HB4.out⟩
     case measure=>simp[intOf]
    ·have HN:Hid (R=zAq enough k E):=HST.out
     clear HST
     go_wp2
     go_roundw
     case rel=>exact⟨E,k,rfl,hkE,HLK,HZ4.out,HN,HB4.out⟩
     case measure=>simp[intOf]
abbrev RV:=(MStep×Nat)×Value
def zAj (x:RV):List Value:=[.int .i64 x.1.1.kind,.int .i64 x.1.1.con,x.2,.int .u64 (x.1.2:Int)]
def IsSl (x:RV):Prop:=∃a n c,x.2=.slice a n c
theorem zCZ (l:List RV):∀c∈l.map zAj,c.length=4:=by
 intro c hc
 obtain⟨t,_,rfl⟩:=List.mem_map.1 hc
 rfl
theorem zDa (l:List RV) (h:∀x∈l,IsSl x):∀c∈l.map zAj,∀u∈c,u.oneCell'=true:=by
 intro c hc u hu
 obtain⟨t,ht,rfl⟩:=List.mem_map.1 hc
 obtain⟨a,n,c,he⟩:=h t ht
 simp[zAj,he] at hu
 rcases hu with rfl | rfl | rfl | rfl <;> rfl
def ROwn (base:Nat) (w:World) (v:Value) (l:List RV):Prop:=w.ownsRow base 145 4 v l.length (l.map zAj).flatten
def zEY (w:World) (v:Value) (l:List RV):Prop:=EArg w v (l.map zAj)
theorem zEY.below {w w':World} {v:Value} {l:List RV} (hb:Below w.heap.size w w') (h:zEY w v l):zEY w' v l:=EArg.below hb h
theorem zLc {w:World} {v:Value} {l:List RV} (h:zEY w v l):∃a c,v=.slice a l.length c:=by
 obtain⟨a,c,rfl,_,_⟩:=h
 exact⟨a,c,by rw[List.length_map]⟩
theorem ROwn.arg {base:Nat} {w:World} {v:Value} {l:List RV} (h:ROwn base w v l):zEY w v l:=zMl (zCZ l) (by rw[List.length_map];exact h)
theorem zCq {base base':Nat} {w:World} {v:Value} {l:List RV} (hb:base'≤base) (h:ROwn base w v l):ROwn base' w v l:=World.ownsRow.mono h hb
def zNE (F:Nat) (caps:Array Value) (enough:List RV→Bool) (l:List RV) (w:World):Prop :=
 (∀(args:Array Value) (w':World),Sem.run Tryz.prog (callFunc F args) w'=.ok (.enter F args) w') ∧
 ∀(c:List RV) (v:Value) (w':World),c.length≤l.length→(∀x∈c,x∈l)→Below w.heap.size w w'→zEY w' v c→Calls Tryz.prog F (#[v]++caps) w' fun e w''=>e=.returned (.bool (enough c))∧Below w'.heap.size w' w''
theorem zKQ (l:List RV) (h1:∀x∈l,IsSl x) (k:Nat) (hk:k<l.length) (base:Nat) (v:Value) (w:World) (h:ROwn base w v l) :
 Calls Tryz.prog 149 #[v,.int .i64 k,.int .i64 ((k:Int)+1)] w fun e w'=>∃x,e=.returned x∧ROwn base w' x (l.eraseIdx k)∧Below base w w':=by
 refine (zIr (l.map zAj) (zCZ l) (zDa l h1) k (by rw[List.length_map];exact hk) base v w (by rw[List.length_map];exact h)).mono ?_
 rintro e w' ⟨x,rfl,hx,hb⟩
 rw[zFV,List.length_map] at hx
 exact⟨x,rfl,hx,hb⟩
theorem zEm (l:List RV) (h1:∀x∈l,IsSl x) (hl:l.length≤9000) (v:Value) (w:World) (h:zEY w v l) :
 Calls Tryz.prog 148 #[v] w fun e w'=>∃x,e=.returned x∧ROwn w.heap.size w' x l∧Below w.heap.size w w':=by
 refine (zG0 (l.map zAj) (zCZ l) (zDa l h1) (by rw[List.length_map];exact hl) v w h).mono ?_
 rintro e w' ⟨x,rfl,hx,hb⟩
 rw[List.length_map] at hx
 exact⟨x,rfl,hx,hb⟩
set_option maxHeartbeats 1600000 in
set_option maxRecDepth 100000 in
theorem zG1 (F:Nat) (caps:Array Value) (enough:List RV→Bool) (l:List RV) (hsl:∀x∈l,IsSl x) (hl:l.length≤9000) (v:Value) (w:World) (hv:zEY w v l) (hF:zNE F caps enough l w) :
 Calls Tryz.prog 89 #[v,.func (.func F) #[] caps] w fun e w'=>∃x,e=.returned x∧ROwn w.heap.size w' x (zAq enough l.length l)∧Below w.heap.size w w':=by
 have HV:Hid (zEY w v l):=hv
 have HSL:Hid (∀x∈l,IsSl x):=hsl
 have HL:Hid (l.length≤9000):=hl
 have HF:Hid (zNE F caps enough l w):=hF
 obtain⟨R,hR⟩:∃R,zAq enough l.length l=R:=⟨_,rfl⟩
 have HR:Hid (R=zAq enough l.length l):=hR.symm
 rw[hR]
 obtain⟨a,c,rfl⟩:=zLc hv
 clear hF hR hsl
 go_enter Tryz.func89,Tryz.ntmps89
 go_wp2_with fail
 refine (zEm l HSL.out HL.out _ _ HV.out).mono ?_
 rintro e w1 ⟨x,rfl,hx,hb1⟩
 have HX:Hid (ROwn w.heap.size w1 x l):=hx
 have HB1:Hid (Below w.heap.size w w1):=hb1
 obtain⟨ax,cx,rfl⟩:=zAE (show w1.ownsRow _ _ _ _ _ _ from hx)
 clear hx hb1
 go_wp2_with fail
 go_loopw [5,6] (fun o i wr=>∃(out:List RV) (k:Nat),i=.int .i64 ((k:Int) - 1)∧k≤out.length∧Hid (out.length≤l.length)∧Hid (∀x∈out,x∈l)∧ROwn w.heap.size wr o out∧Hid (R=zAq enough k out)∧Below w.heap.size w wr) (fun _ i _=>(intOf i+1).toNat)
 case atStart=>exact⟨l,l.length,rfl,Nat.le_refl _,Nat.le_refl _,fun _ h=>h,HX.out,HR,HB1.out⟩
 case round =>
  obtain⟨out,k,rfl,hk,hlo,hso,ho,hrd,hbw⟩:=hrel
  have HSO:Hid (∀x∈out,IsSl x):=fun x hx=>HSL.out x (hso.out x hx)
  have HO:Hid (ROwn w.heap.size wr u5 out):=ho
  have HBW:Hid (Below w.heap.size w wr):=hbw
  obtain⟨ao,co,rfl⟩:=zAE (show wr.ownsRow _ _ _ _ _ _ from ho)
  clear ho hbw
  cases k with
  | zero =>
    have HE:Hid (R=out):=hrd.out
    clear hrd
    go_wp2
    go_ret
    exact⟨_,rfl,by rw[HE.out];exact HO.out,HBW.out⟩
  | succ k =>
    have hke:((k+1:Nat):Int) - 1=(k:Int):=by omega
    rw[hke]
    have HST:Hid (R=zAq enough k (if enough (out.eraseIdx k) then out.eraseIdx k else out)):=hrd.out
    have HLO:Hid (out.length≤9000):=Nat.le_trans hlo.out HL.out
    have HEL:Hid ((out.eraseIdx k).length=out.length - 1):=List.length_eraseIdx_of_lt (by omega)
    have hk9:k+1≤9000:=Nat.le_trans hk HLO.out
    clear hrd hke
    go_wp2_with fail
    refine (zEm out HSO.out HLO.out _ _ HO.out.arg).mono ?_
    rintro e w2 ⟨y,rfl,hy,hb2⟩
    have HY:Hid (ROwn w.heap.size w2 y out):=zCq HBW.out.size hy
    have HY2:Hid (ROwn wr.heap.size w2 y out):=hy
    have HO2:Hid (ROwn w.heap.size w2 (.slice ao (List.length out) co) out):=zAD HO.out hb2
    have HBR:Hid (Below wr.heap.size wr w2):=hb2
    have HB2:Hid (Below w.heap.size w w2):=HBW.out.trans (hb2.mono HBW.out.size)
    obtain⟨ay,cy,rfl⟩:=zAE (show w2.ownsRow _ _ _ _ _ _ from hy)
    clear hy hb2
    go_wp2_with fail
    refine (zKQ out HSO.out k (by omega) wr.heap.size _ _ HY2.out).mono ?_
    rintro e w3 ⟨z,rfl,hz,hb3⟩
    have HZ:Hid (ROwn w.heap.size w3 z (out.eraseIdx k)):=zCq HBW.out.size hz
    have HBR3:Hid (Below wr.heap.size wr w3):=HBR.out.trans hb3
    have HO3:Hid (ROwn w.heap.size w3 (.slice ao (List.length out) co) out):=zAD HO.out HBR3.out
    have HB3:Hid (Below w.heap.size w w3):=HBW.out.trans (HBR3.out.mono HBW.out.size)
    obtain⟨az,cz,rfl⟩:=zAE (show w3.ownsRow _ _ _ _ _ _ from hz)
    have HCL:Hid (Calls Tryz.prog F (#[.slice az (out.eraseIdx k).length cz]++caps) w3 fun e w''=>e=.returned (.bool (enough (out.eraseIdx k)))∧Below w3.heap.size w3 w''):=HF.out.2 _ _ _ (by have:=hlo.out;have:=HEL.out;omega) (fun x hx=>hso.out x (List.mem_of_mem_eraseIdx hx)) HB3.out HZ.out.arg
    obtain⟨B,hB⟩:∃B,enough (out.eraseIdx k)=B:=⟨_,rfl⟩
    rw[hB] at HCL HST
    have HSE:Hid (∀x∈out.eraseIdx k,x∈l):=fun x hx=>hso.out x (List.mem_of_mem_eraseIdx hx)
    obtain⟨E,hE⟩:∃E,out.eraseIdx k=E:=⟨_,rfl⟩
    rw[hE] at HCL HST HEL HZ HSE ⊢
    have HLK:Hid (E.length≤l.length):=by have:=hlo.out;have:=HEL.out;show _≤_;omega
    have hkE:k≤E.length:=by have:=HEL.out;omega
    clear hz hb3 hB hE
    go_wp2_with fail
    rw[HF.out.1,Oper.upon_enter]
    refine HCL.out.mono ?_
    rintro e w4 ⟨rfl,hb4⟩
    have HO4:Hid (ROwn w.heap.size w4 (.slice ao (List.length out) co) out):=zAD HO3.out hb4
    have HZ4:Hid (ROwn w.heap.size w4 (.slice az (List.length E) cz) E):=zAD HZ.out hb4
    have HB4:Hid (Below w.heap.size w w4):=HB3.out.trans (hb4.mono HB3.out.size)
    clear hb4
    cases B
    ·have HN:Hid (R=zAq enough k out):=HST.out
     clear HST
     go_wp2
     go_roundw
     case rel=>exact⟨out,k,rfl,by omega,hlo,hso,HO4.out,HN,HB4.out⟩
     case measure=>simp[intOf]
    ·have HN:Hid (R=zAq enough k E):=HST.out
     clear HST
     go_wp2
     go_roundw
     case rel=>exact⟨E,k,rfl,hkE,HLK,HSE,HZ4.out,HN,HB4.out⟩
     case measure=>simp[intOf]
set_option maxHeartbeats 3200000 in
set_option maxRecDepth 100000 in
theorem zNg (vs:List MVar) (hva:zAU vs) (pts:List Nat) (any:Cla) (hla:any.length≤100) (g0:Nat) (hgw:∀i,g0.testBit i=true→(zAC vs).testBit i=true) (sv pv u:Value) (w:World) (hv:VArg w sv vs) (hp:PArg w pv pts) (hu:LArg w u any) (hT:TabT w) :
 Calls Tryz.prog 153 #[sv,pv,u,.int .u64 g0] w fun e w'=>∃x,e=.returned x∧LOwn w.heap.size w' x (whyP vs pts any g0)∧Below w.heap.size w w':=by
 have HV:Hid (∀w',Below w.heap.size w w'→VArg w' sv vs):=fun w' h=>VArg.below h hv
 have HP:Hid (∀w',Below w.heap.size w w'→PArg w' pv pts):=fun w' h=>PArg.below h hp
 have HU:Hid (∀w',Below w.heap.size w w'→LArg w' u any):=fun w' h=>LArg.below h hu
 have HT:Hid (∀w',Below w.heap.size w w'→TabT w'):=fun w' h=>hT.below h
 have HVO:Hid (zAU vs):=hva
 have HLA:Hid (any.length≤100):=hla
 have HGW:Hid (∀i,g0.testBit i=true→(zAC vs).testBit i=true):=hgw
 have HG36:Hid (g0<2 ^ 36):=Nat.lt_of_le_of_lt (Nat.le_of_testBit hgw) (zBu vs hva.1)
 obtain⟨h,hh⟩:∃h,zAF vs any=h:=⟨_,rfl⟩
 have HH:Hid (zAF vs any=h):=hh
 have HH36:Hid (h<2 ^ 36):=by rw[←hh];exact zEV vs hva.1 _
 obtain⟨LP,hLP⟩:∃LP,zBU (fun g=>zBX vs pts (h ||| g)) (g0+1) g0 g0=LP:=⟨_,rfl⟩
 have HWY:Hid (whyP vs pts any g0=any++zBP vs LP):=by show _=_;unfold whyP;rw[hh,hLP]
 have HLE:Hid (LP=zBU (fun g=>zBX vs pts (h ||| g)) (g0+1) g0 g0):=hLP.symm
 obtain⟨a1,c1,rfl,_,_⟩:=hv
 obtain⟨a2,c2,rfl,_,_⟩:=hp
 obtain⟨a3,c3,rfl,_,_⟩:=hu
 clear hva hla hgw hh hLP hT
 go_enter Tryz.func153,Tryz.ntmps153
 go_wp2_with fail
 refine (zD8 vs HVO.out any _ _ _ (HV.out _ (Below.refl _ _)) (HU.out _ (Below.refl _ _))).mono ?_
 rintro e w1 ⟨rfl,hb1⟩
 rw[HH.out]
 have HB1:Hid (Below w.heap.size w w1):=hb1
 clear hb1
 go_wp2_with fail
 go_loopw [3,10] (fun g r wr=>∃gg rr:Nat,g=.int .u64 (gg:Int)∧r=.int .u64 (rr:Int)∧Hid (gg<2 ^ 36)∧Hid (rr<2 ^ 36)∧Hid (LP=zBU (fun g=>zBX vs pts (h ||| g)) (rr+1) gg rr)∧Hid (∀i,gg.testBit i=true→(zAC vs).testBit i=true)∧Hid (Below w.heap.size w wr)) (fun _ r _=>(intOf r).toNat)
 case atStart=>exact⟨g0,g0,rfl,rfl,HG36,HG36,HLE,HGW,HB1⟩
 case round =>
  obtain⟨gg,rr,rfl,rfl,hg36,hr36,hle,hgw,hbw⟩:=hrel
  by_cases hr0:rr=0
  ·subst hr0
   have HEQ:Hid (LP=gg):=by show _=_;rw[hle.out];rfl
   clear hle
   go_wp2_with fail
   refine (zHo any (by have:=HLA.out;omega) _ _ (HU.out _ hbw.out)).mono ?_
   rintro e w2 ⟨x,rfl,hx,hb2⟩
   have HB2:Hid (Below w.heap.size w w2):=hbw.out.trans (hb2.mono hbw.out.size)
   have HX:Hid (LOwn w.heap.size w2 x any):=zAw hbw.out.size hx
   have HSZ:Hid (w.heap.size≤w2.heap.size):=HB2.out.size
   obtain⟨ax,cx,rfl⟩:=zAE (show w2.ownsRow _ _ _ _ _ _ from hx)
   clear hx hb2
   go_wp2_with fail
   refine (zHn vs HVO.out gg hgw.out _ _ (HV.out _ HB2.out) (HT.out _ HB2.out)).mono ?_
   rintro e w3 ⟨y,rfl,hy,hb3⟩
   have HX3:Hid (LOwn w.heap.size w3 (.slice ax (List.length any) cx) any):=zAD HX.out hb3
   have HB3:Hid (Below w.heap.size w w3):=HB2.out.trans (hb3.mono HB2.out.size)
   have HLL:Hid ((zBP vs gg).length≤36):=zD9 _ _
   obtain⟨L,hL⟩:∃L,zBP vs gg=L:=⟨_,rfl⟩
   have HRE:Hid (whyP vs pts any g0=any++L):=by show _=_;rw[HWY.out,HEQ.out,hL]
   rw[hL] at hy HLL
   have HY:Hid (LArg w3 y L):=hy.arg
   have HXL:Hid (∀g,(Value.slice ax (List.length any) cx).ownBlock=some g→w.heap.size≤g):=fun g hg=>((show w3.ownsRow _ _ _ _ _ _ from HX3.out).lt g hg).1
   obtain⟨ay,cy,rfl⟩:=zAE (show w3.ownsRow _ _ _ _ _ _ from hy)
   clear hy hb3 hL
   go_wp2_with (at_builtin;refine zBf 28 zBg rfl _ _ rfl w.heap.size _ any rfl HX3.out _ L rfl HY.out ?c1 ?c2 ?_)
   case c1=>have:=HLL.out;have:=HLA.out;omega
   case c2=>exact HB3.out.size
   intro v4 w4 hown4 hgrow
   have HO4:Hid (LOwn w.heap.size w4 v4 (any++L)):=hown4
   have HB4:Hid (Below w.heap.size w w4):=HB3.out.grown hgrow HB3.out.size (fun g hg=>HXL.out g hg)
   obtain⟨av,cv,rfl⟩:=zAE (show w4.ownsRow _ _ _ _ _ _ from hown4)
   clear hown4 hgrow
   go_wp2
   go_ret
   exact⟨_,rfl,by rw[HRE.out];exact HO4.out,HB4.out⟩
  ·have HST:Hid (LP=zBU (fun g=>zBX vs pts (h ||| g)) ((rr &&& (rr - 1))+1) (if zBX vs pts (h ||| zAJ gg (2 ^ Lib.ctz 64 rr)) then zAJ gg (2 ^ Lib.ctz 64 rr) else gg) (rr &&& (rr - 1))):=by
    show _=_
    rw[hle.out];exact zKJ _ gg rr hr0 (by have:=hr36.out;omega)
   obtain⟨hlow,hk⟩:=Lib.lowest_bit 64 rr hr0 (by have:=hr36.out;omega)
   have hless:=zE0 rr hr0 (by have:=hr36.out;omega)
   obtain⟨hk36⟩:Nonempty (Lib.ctz 64 rr<36):=⟨(zDQ rr hr0 hr36.out).2⟩
   have hpow:2 ^ Lib.ctz 64 rr<2 ^ 36:=Nat.pow_lt_pow_right (by omega) hk36
   obtain⟨tt,htt⟩:∃tt,2 ^ Lib.ctz 64 rr=tt:=⟨_,rfl⟩
   rw[htt] at hlow hpow HST
   have hneg:IntKind.u64.wrap (-(rr:Int))=((18446744073709551616 - rr:Nat):Int):=by rw[IntKind.wrap_u64];have:=hr36.out;omega
   have hand:=bits_and_u64_nat rr (18446744073709551616 - rr) (by have:=hr36.out;omega) (by omega)
   have hlow':rr &&& (18446744073709551616 - rr)=tt:=hlow
   rw[hlow'] at hand
   obtain⟨N0,hN0⟩:∃N0,18446744073709551616 - rr=N0:=⟨_,rfl⟩
   rw[hN0] at hneg hand
   have hnot:=zAY gg tt (by have:=hg36.out;omega) (by omega)
   obtain⟨sp,hsp⟩:∃sp,zAJ gg tt=sp:=⟨_,rfl⟩
   have HSP36:Hid (sp<2 ^ 36):=by rw[←hsp];exact zCK 36 _ _ hg36.out
   have HSW:Hid (∀i,sp.testBit i=true→(zAC vs).testBit i=true):=fun i hi=>by
    rw[←hsp,zAW,Bool.and_eq_true] at hi
    exact hgw.out i hi.1
   rw[hsp] at hnot HST
   obtain⟨r2,hr2⟩:∃r2,rr &&& (rr - 1)=r2:=⟨_,rfl⟩
   have hsub:IntKind.u64.wrap ((rr:Int) - 1)=((rr - 1:Nat):Int):=by rw[IntKind.wrap_u64];have:=hr36.out;omega
   have hand2:=bits_and_u64_nat rr (rr - 1) (by have:=hr36.out;omega) (by have:=hr36.out;omega)
   obtain⟨r1,hr1⟩:∃r1,rr - 1=r1:=⟨_,rfl⟩
   rw[hr2] at hand2 hless HST
   rw[hr1] at hsub hand2
   have HR236:Hid (r2<2 ^ 36):=by have:=hr36.out;show _<_;omega
   have HLS:Hid (r2<rr):=hless
   have hne:((rr:Int) != 0)=true:=by simpa using hr0
   have hor:=bits_or_u64_nat h sp (by have:=HH36.out;omega) (by have:=HSP36.out;omega)
   obtain⟨hs,hhs⟩:∃hs,h ||| sp=hs:=⟨_,rfl⟩
   have HHS36:Hid (hs<2 ^ 36):=by rw[←hhs];exact zFK HH36.out HSP36.out
   rw[hhs] at hor HST
   obtain⟨B,hB⟩:∃B,zBX vs pts hs=B:=⟨_,rfl⟩
   have HSY:Hid (Calls Tryz.prog 119 #[.slice a1 (List.length vs) c1,.slice a2 (List.length pts) c2,.int .u64 (hs:Int)] wr fun e w'=>e=.returned (.bool B)∧Below wr.heap.size wr w'):=by
    rw[←hB]
    exact zMg vs HVO.out pts hs HHS36.out _ _ wr (HV.out _ hbw.out) (HP.out _ hbw.out)
   rw[hB] at HST
   have HGWK:Hid (∀i,gg.testBit i=true→(zAC vs).testBit i=true):=hgw.out
   clear hle hr0 hlow hk hk36 hpow htt hlow' hN0 hsp hr2 hr1 hless hB hgw hhs
   cases B
   ·have HS2:Hid (LP=zBU (fun g=>zBX vs pts (h ||| g)) (r2+1) gg r2):=by show _=_;rw[HST.out];rfl
    clear HST
    go_wp2_with fail
    refine HSY.out.mono ?_
    rintro e w7 ⟨rfl,hb7⟩
    have HB7:Hid (Below w.heap.size w w7):=hbw.out.trans (hb7.mono hbw.out.size)
    clear hb7
    go_wp2
    go_roundw
    case rel=>exact⟨gg,r2,rfl,rfl,hg36,HR236,HS2,HGWK,HB7⟩
    case measure=>simp[intOf];exact HLS.out
   ·have HS2:Hid (LP=zBU (fun g=>zBX vs pts (h ||| g)) (r2+1) sp r2):=by show _=_;rw[HST.out];rfl
    clear HST
    go_wp2_with fail
    refine HSY.out.mono ?_
    rintro e w7 ⟨rfl,hb7⟩
    have HB7:Hid (Below w.heap.size w w7):=hbw.out.trans (hb7.mono hbw.out.size)
    clear hb7
    go_wp2
    go_roundw
    case rel=>exact⟨sp,r2,rfl,rfl,HSP36,HR236,HS2,HSW,HB7⟩
    case measure=>simp[intOf];exact HLS.out
end Go.Proofs.YtndcpnlaadikoaaGreatDoor
