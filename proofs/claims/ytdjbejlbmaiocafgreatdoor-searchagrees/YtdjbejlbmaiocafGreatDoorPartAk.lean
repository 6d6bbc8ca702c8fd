/- What the proof leans on, part 11. -/
import Derived.Test.YtdjbejlbmaiocafGreatDoorPartAj
import Derived.BigQuiet
namespace Go.Proofs.YtdjbejlbmaiocafGreatDoor
open Go.RowKit
theorem zCQ {P:Program} {id:Nat} {Q:Exit→Act→World→Prop} {a:Act} {W:World} {l:List Oper} (hm:P.follows .mixedOrders=true) (hB:Region.lexB .any l.toArray=true)
 (h:wpQuiet P l.toArray (fun w'=>Below W.heap.size W w') (fun a'=>∀w',Below W.heap.size W w'→Q .normal a' w') l a):(Code.region id l.toArray true).wp P Q a W :=
 wp_region_quiet (C:=fun w'=>Below W.heap.size W w') hm hB ⟨rfl,rfl,rfl,Nat.le_refl _,fun _ _=>rfl⟩ (by simpa using h)
theorem zLe {w w':World} {n:Nat} (h:w'=w.drewN n):Below w.heap.size w w':=by rw[h];exact below_drewN (Below.refl _ _) _
def zLC (F:Nat) (c1:Value) (p:List Int→Bool) (w:World):Prop :=
 (∀(args:Array Value) (w':World),Sem.run Tryz.prog (callFunc F args) w'=.ok (.enter F args) w') ∧
 ∀(r:List Int) (x:Value) (w':World),Below w.heap.size w w'→IArg w' x r→Calls Tryz.prog F #[x,c1] w' fun e w''=>e=.returned (.bool (p r))∧Below w'.heap.size w' w''
def zLD (F:Nat) (caps:Array Value) (ls:List MLit) (p:MLit→Bool) (w:World):Prop :=
 (∀(args:Array Value) (w':World),Sem.run Tryz.prog (callFunc F args) w'=.ok (.enter F args) w') ∧
 ∀(l:MLit) (w':World),l∈ls→Below w.heap.size w w'→Calls Tryz.prog F (#[.agg #[.int .i64 l.var,.int .i64 l.op,.int .i64 l.n]]++caps) w' fun e w''=>e=.returned (.bool (p l))∧Below w'.heap.size w' w''
theorem zFX {α:Type} (p:α→Bool) (l:List α) (m:Nat) (t:α) (ht:l[m]? = some t) (h:p t=true):l.any p=true:=List.any_eq_true.2 ⟨t,List.mem_of_getElem? ht,h⟩
theorem zEE {α:Type} (p:α→Bool) (l:List α) (m:Nat) (t:α) (ht:l[m]? = some t) (h0:(l.take m).any p=false) (h:p t=false):(l.take (m+1)).any p=false:=by
 rw[List.take_add_one,ht,List.any_append,h0];simp[h]
theorem zFY {α:Type} (p:α→Bool) (l:List α) (m:Nat) (h:¬m<l.length) (h0:(l.take m).any p=false):l.any p=false:=by
 rwa [List.take_of_length_le (by omega)] at h0
set_option maxHeartbeats 800000 in
set_option maxRecDepth 100000 in
theorem zGh (F:Nat) (c1:Value) (p:List Int→Bool) (l:List (List Int)) (v:Value) (w:World) (hv:RArg w v l) (hF:zLC F c1 p w) :
 Calls Tryz.prog 212 #[v,.func (.func F) #[] #[c1]] w fun e w'=>(∃z:Int,e=.returned (.int .i64 z)∧decide (0≤z)=l.any p)∧Below w.heap.size w w':=by
 obtain⟨a,c,rfl,hm,hr⟩:=hv
 have HV:Hid (∀(i:Nat) (r:List Int),l[i]? = some r→∃b off x,a=some ⟨b,off,none⟩∧b<w.heap.size∧w.cell? ⟨b,off+i,none⟩=some x∧IArg w x r):=hr
 obtain⟨R,hR⟩:∃R,l.any p=R:=⟨_,rfl⟩
 rw[hR]
 have HR:Hid (l.any p=R):=hR
 have HF:Hid (zLC F c1 p w):=hF
 unfold maxLen at hm
 obtain⟨hm1,hm⟩:=hm
 clear hr hR hF
 go_enter Tryz.func212,Tryz.ntmps212
 go_wp2_with fail
 go_loopw [8] (fun i wr=>∃m:Nat,m≤l.length∧i=.int .i64 m∧Hid ((l.take m).any p=false)∧Below w.heap.size w wr) (fun i _=>l.length - (intOf i).toNat)
 case atStart=>exact⟨0,by omega,rfl,rfl,Below.refl _ _⟩
 case round =>
  obtain⟨m,hml,rfl,hall,hbw⟩:=hrel
  by_cases hlt:m<l.length
  ·obtain⟨z,hz⟩:∃z,l[m]? = some z:=⟨l[m],by simp[hlt]⟩
   obtain⟨b,off,x,ha,hb,hc0,hx⟩:=HV.out m z hz
   have hc:=(hbw.cell (p:=⟨b,off+m,none⟩) hb).trans hc0
   have HZ:Hid (l[m]? = some z):=hz
   have HX:Hid (IArg wr x z):=IArg.below hbw hx
   obtain⟨a5,c5,rfl,_,_⟩:=hx
   subst ha
   clear hz hc0
   cases hq:p z
   ·have HN:Hid ((l.take (m+1)).any p=false):=zEE _ l m z HZ.out hall.out hq
    go_wp2_with fail
    rw[HF.out.1,Oper.upon_enter]
    refine (HF.out.2 z _ _ hbw HX.out).mono ?_
    rintro e w1 ⟨rfl,hb1⟩
    rw[hq]
    clear hq
    go_wp2
    go_roundw
    case rel=>exact⟨m+1,by omega,by go_num,HN,hbw.trans (hb1.mono hbw.size)⟩
    case measure=>simp[intOf];omega
   ·have HN:Hid (R=true):=by rw[←HR.out];exact zFX p l m z HZ.out hq
    go_wp2_with fail
    rw[HF.out.1,Oper.upon_enter]
    refine (HF.out.2 z _ _ hbw HX.out).mono ?_
    rintro e w1 ⟨rfl,hb1⟩
    rw[hq]
    clear hq
    go_wp2
    go_ret
    exact⟨⟨_,rfl,by rw[HN.out];simp⟩,hbw.trans (hb1.mono hbw.size)⟩
  ·have HN:Hid (R=false):=by rw[←HR.out];exact zFY _ l m hlt hall.out
   go_wp2
   go_ret
   exact⟨⟨_,rfl,by rw[HN.out];rfl⟩,hbw⟩
set_option maxHeartbeats 400000 in
theorem zCn (F:Nat) (c1:Value) (p:List Int→Bool) (l:List (List Int)) (v:Value) (w:World) (hv:RArg w v l) (hF:zLC F c1 p w) :
 Calls Tryz.prog 148 #[v,.func (.func F) #[] #[c1]] w fun e w'=>e=.returned (.bool (l.any p))∧Below w.heap.size w w':=by
 go_enter Tryz.func148,Tryz.ntmps148
 go_wp2_with fail
 refine (zGh F c1 p l v _ hv hF).mono ?_
 rintro e w1 ⟨⟨z,rfl,hz⟩,hb1⟩
 have HZ:Hid (decide (0≤z)=l.any p):=hz
 clear hz
 go_wp2
 go_ret
 exact⟨zAB HZ.out,hb1⟩
def zLE (p:MLit→Bool) (l:List MLit) (z:Int):Prop:=(z=-1∧l.any p=false)∨∃(k:Nat) (t:MLit),z=(k:Int)∧l[k]? = some t∧p t=true
theorem zLE.sign {p:MLit→Bool} {l:List MLit} {z:Int} (h:zLE p l z):decide (0≤z)=l.any p:=by
 rcases h with ⟨rfl,h⟩ | ⟨k,t,rfl,ht,hp⟩
 ·rw[h];rfl
 ·rw[zFX p l k t ht hp];simp
set_option maxHeartbeats 800000 in
set_option maxRecDepth 100000 in
theorem zGi (F:Nat) (caps:Array Value) (p:MLit→Bool) (l:List MLit) (v:Value) (w:World) (hv:LArg w v l) (hF:zLD F caps l p w) :
 Calls Tryz.prog 157 #[v,.func (.func F) #[] caps] w fun e w'=>(∃z:Int,e=.returned (.int .i64 z)∧zLE p l z)∧Below w.heap.size w w':=by
 obtain⟨a,c,rfl,hm,hr⟩:=hv
 have HV:Hid (∀(i:Nat) (t:MLit),l[i]? = some t→∃b off,a=some ⟨b,off,none⟩∧b<w.heap.size ∧
  w.cell? ⟨b,off+i * 3,none⟩=some (.int .i64 t.var)∧w.cell? ⟨b,off+i * 3+1,none⟩=some (.int .i64 t.op)∧w.cell? ⟨b,off+i * 3+2,none⟩=some (.int .i64 t.n)):=hr
 have HF:Hid (zLD F caps l p w):=hF
 unfold maxLen at hm
 obtain⟨hm1,hm⟩:=hm
 clear hr hF
 go_enter Tryz.func157,Tryz.ntmps157
 go_wp2_with fail
 go_loopw [8] (fun i wr=>∃m:Nat,m≤l.length∧i=.int .i64 m∧Hid ((l.take m).any p=false)∧Below w.heap.size w wr) (fun i _=>l.length - (intOf i).toNat)
 case atStart=>exact⟨0,by omega,rfl,rfl,Below.refl _ _⟩
 case round =>
  obtain⟨m,hml,rfl,hall,hbw⟩:=hrel
  by_cases hlt:m<l.length
  ·obtain⟨z,hz⟩:∃z,l[m]? = some z:=⟨l[m],by simp[hlt]⟩
   obtain⟨b,off,ha,hb,d0,d1,d2⟩:=HV.out m z hz
   have e0:=(hbw.cell (p:=⟨b,off+m * 3,none⟩) hb).trans d0
   have e1:=(hbw.cell (p:=⟨b,off+m * 3+1,none⟩) hb).trans d1
   have e2:=(hbw.cell (p:=⟨b,off+m * 3+2,none⟩) hb).trans d2
   have HZ:Hid (l[m]? = some z):=hz
   subst ha
   clear hz d0 d1 d2
   cases hq:p z
   ·have HN:Hid ((l.take (m+1)).any p=false):=zEE _ l m z HZ.out hall.out hq
    go_wp2_with fail
    rw[HF.out.1,Oper.upon_enter]
    refine (HF.out.2 z _ (List.mem_of_getElem? HZ.out) hbw).mono ?_
    rintro e w1 ⟨rfl,hb1⟩
    rw[hq]
    clear hq
    go_wp2
    go_roundw
    case rel=>exact⟨m+1,by omega,by go_num,HN,hbw.trans (hb1.mono hbw.size)⟩
    case measure=>simp[intOf];omega
   ·have HP:Hid (p z=true):=hq
    go_wp2_with fail
    rw[HF.out.1,Oper.upon_enter]
    refine (HF.out.2 z _ (List.mem_of_getElem? HZ.out) hbw).mono ?_
    rintro e w1 ⟨rfl,hb1⟩
    rw[hq]
    clear hq
    go_wp2
    go_ret
    exact⟨⟨_,rfl,Or.inr ⟨m,z,rfl,HZ.out,HP.out⟩⟩,hbw.trans (hb1.mono hbw.size)⟩
  ·have HN:Hid (l.any p=false):=zFY _ l m hlt hall.out
   go_wp2
   go_ret
   exact⟨⟨_,rfl,Or.inl ⟨rfl,HN.out⟩⟩,hbw⟩
set_option maxHeartbeats 400000 in
theorem zCo (F:Nat) (caps:Array Value) (p:MLit→Bool) (l:List MLit) (v:Value) (w:World) (hv:LArg w v l) (hF:zLD F caps l p w) :
 Calls Tryz.prog 160 #[v,.func (.func F) #[] caps] w fun e w'=>e=.returned (.bool (l.any p))∧Below w.heap.size w w':=by
 go_enter Tryz.func160,Tryz.ntmps160
 go_wp2_with fail
 refine (zGi F caps p l v _ hv hF).mono ?_
 rintro e w1 ⟨⟨z,rfl,hz⟩,hb1⟩
 have HZ:Hid (decide (0≤z)=l.any p):=hz.sign
 clear hz
 go_wp2
 go_ret
 exact⟨zAB HZ.out,hb1⟩
theorem zE7 (args:Array Value) (w':World):Sem.run Tryz.prog (callFunc 149 args) w'=.ok (.enter 149 args) w':=by
 simp[callFunc,go_sem,Tryz.func149,Tryz.f149]
theorem zGj (args:Array Value) (w':World):Sem.run Tryz.prog (callFunc 208 args) w'=.ok (.enter 208 args) w':=by
 simp[callFunc,go_sem,Tryz.func208,Tryz.f208]
set_option maxHeartbeats 400000 in
set_option maxRecDepth 100000 in
theorem zHR (own r:List Int) (v x:Value) (b:Nat) (w:World) (hv:IArg w v own) (hx:IArg w x r) (hb:w.cell? ⟨b,0,none⟩=some v) :
 Calls Tryz.prog 149 #[x,.pointer (some ⟨b,0,none⟩)] w fun e w'=>e=.returned (.bool (decide (r=own)))∧Below w.heap.size w w':=by
 have HV:Hid (IArg w v own):=hv
 have HX:Hid (IArg w x r):=hx
 obtain⟨a,c,rfl,_,_⟩:=hv
 obtain⟨a',c',rfl,_,_⟩:=hx
 go_enter Tryz.func149,Tryz.ntmps149
 go_wp2_with fail
 refine (zIp r own _ _ _ HX.out HV.out).mono ?_
 rintro e w1 ⟨rfl,n,h1⟩
 have hb1:=zLe h1
 clear h1
 go_wp2
 go_ret
 exact⟨rfl,hb1⟩
set_option maxHeartbeats 800000 in
set_option maxRecDepth 100000 in
theorem zHy (vals:List Int) (l:MLit) (v:Value) (b:Nat) (w:World) (hv:IArg w v vals) (h0:0≤l.var) (h1:l.var<vals.length) (hb:w.cell? ⟨b,0,none⟩=some v) :
 Calls Tryz.prog 208 #[.agg #[.int .i64 l.var,.int .i64 l.op,.int .i64 l.n],.pointer (some ⟨b,0,none⟩)] w fun e w'=>e=.returned (.bool (litB vals l))∧Below w.heap.size w w':=by
 obtain⟨a,c,rfl,hm,hr⟩:=hv
 have hbl:b<w.heap.size:=World.block_lt_of_cell? w _ hb
 obtain⟨j,hj⟩:∃j:Nat,l.var=(j:Int):=⟨l.var.toNat,by omega⟩
 have hjl:j<vals.length:=by omega
 obtain⟨y,hy⟩:∃y,vals[j]? = some y:=⟨vals[j],by simp[hjl]⟩
 obtain⟨b7,off7,rfl,hb7,g7⟩:=hr j y hy
 unfold maxLen at hm
 obtain⟨hm1,hm⟩:=hm
 have HBV:Hid (litB vals l=litV y l):=by show _=_;unfold litB;rw[hj,zDB vals j y hy]
 rw[HBV.out]
 obtain⟨B,HB⟩:∃B:Bool,Hid (litV y l=B):=⟨_,rfl⟩
 rw[HB.out,hj]
 obtain⟨W,hW⟩:∃W:World,W=w.alloc (.cells #[.int .i64 (j:Int),.int .i64 l.op,.int .i64 l.n] 117):=⟨_,rfl⟩
 have HW:Hid (W=w.alloc (.cells #[.int .i64 (j:Int),.int .i64 l.op,.int .i64 l.n] 117)):=hW
 have HBW:Hid (Below w.heap.size w W):=by rw[hW];exact zAA _ _
 have HSW:Hid (W.heap.size=w.heap.size+1):=by show _=_;rw[hW];simp
 have k0:W.cell? ⟨w.heap.size,0,none⟩=some (.int .i64 (j:Int)):=by rw[hW];simp
 have k1:W.cell? ⟨w.heap.size,1,none⟩=some (.int .i64 l.op):=by rw[hW];simp
 have k2:W.cell? ⟨w.heap.size,2,none⟩=some (.int .i64 l.n):=by rw[hW];simp
 have k3:W.cell? ⟨b,0,none⟩=some (.slice (some ⟨b7,off7,none⟩) vals.length c):=by rw[hW];exact (World.cell?_alloc_past _ _ _ hbl).trans hb
 have k4:W.cell? ⟨b7,off7+j,none⟩=some (.int .i64 y):=by rw[hW];exact (World.cell?_alloc_past _ _ _ hb7).trans g7
 have HCL:Hid (∀wq:World,Below W.heap.size W wq→Calls Tryz.prog 153 #[.agg #[.int .i64 (j:Int),.int .i64 l.op,.int .i64 l.n],.int .i64 y] wq fun e w'=>e=.returned (.bool B)∧Below W.heap.size W w'):=by
  intro wq hq
  rw[←hj]
  refine (zD2 l y wq).mono ?_
  rintro e w' ⟨rfl,hb⟩
  exact⟨by rw[HB.out],hq.trans (hb.mono hq.size)⟩
 clear hW hr hy hj g7 hb HBV HB h0 h1
 go_enter Tryz.func208,Tryz.ntmps208
 go_wp2
 rw[←HW.out]
 refine zCQ (by kernel_rfl) (by kernel_rfl) ?_
 go_big_quiet_want
 refine⟨.agg #[.int .i64 (j:Int),.int .i64 l.op,.int .i64 l.n],fun wq hq=>?_,?_⟩
 ·have h0:=(hq.cell (p:=⟨w.heap.size,0,none⟩) (by have:=HSW.out;simp only;omega)).trans k0
  have h1:=(hq.cell (p:=⟨w.heap.size,1,none⟩) (by have:=HSW.out;simp only;omega)).trans k1
  have h2:=(hq.cell (p:=⟨w.heap.size,2,none⟩) (by have:=HSW.out;simp only;omega)).trans k2
  simp[Oper.quietAt,go_sem,h0,h1,h2]
 go_simp
 go_big_quiet_on
 go_big_quiet_want
 refine⟨.slice (some ⟨b7,off7,none⟩) vals.length c,fun wq hq=>?_,?_⟩
 ·have h0:=(hq.cell (p:=⟨b,0,none⟩) (by have:=HSW.out;simp only;omega)).trans k3
  simp[Oper.quietAt,go_sem,h0]
 go_simp
 go_big_quiet_on
 go_big_quiet_want
 go_big_quiet_op
 first | go_big_quiet_on | (refine⟨_,fun _ _=>rfl,?_⟩;go_big_quiet_on)
 go_big_quiet_want
 refine⟨.int .i64 (j:Int),fun wq hq=>?_,?_⟩
 ·have h0:=(hq.cell (p:=⟨w.heap.size,0,none⟩) (by have:=HSW.out;simp only;omega)).trans k0
  simp[Oper.quietAt,go_sem,h0]
 go_simp
 go_big_quiet_on
 go_big_quiet_want
 go_big_quiet_op
 first | go_big_quiet_on | (refine⟨_,fun _ _=>rfl,?_⟩;go_big_quiet_on)
 go_big_quiet_want
 refine⟨.int .i64 y,fun wq hq=>?_,?_⟩
 ·have h0:=(hq.cell (p:=⟨b7,off7+j,none⟩) (by have:=HSW.out;simp only;omega)).trans k4
  simp[Oper.quietAt,go_sem,h0]
 go_simp
 go_big_quiet_on
 go_big_quiet_want
 refine⟨.bool B,fun wq hq=>?_,?_⟩
 ·simp[Oper.quietAt,go_sem]
  exact HCL.out wq hq
 go_simp
 go_big_quiet_on
 go_big_quiet_want
 go_big_quiet_op
 first | go_big_quiet_on | (refine⟨_,fun _ _=>rfl,?_⟩;go_big_quiet_on)
 refine wpQuiet_nil ?_
 intro w' hw'
 have hb4:Below w.heap.size w w':=HBW.out.trans (hw'.mono HBW.out.size)
 clear hw'
 go_wp2
 go_ret
 exact⟨rfl,hb4⟩
set_option maxHeartbeats 400000 in
set_option maxRecDepth 100000 in
theorem zEF (c:List MLit) (vals:List Int) (u v:Value) (w:World) (hu:LArg w u c) (hv:IArg w v vals) (hc:∀l∈c,0≤l.var∧l.var<(vals.length:Int)) :
 Calls Tryz.prog 135 #[u,v] w fun e w'=>e=.returned (.bool (c.any (litB vals)))∧Below w.heap.size w w':=by
 have HUA:Hid (∀w':World,Below w.heap.size w w'→LArg w' u c):=fun w' h=>LArg.below h hu
 have HVA:Hid (∀w':World,Below w.heap.size w w'→IArg w' v vals):=fun w' h=>IArg.below h hv
 have HC:Hid (∀l∈c,0≤l.var∧l.var<(vals.length:Int)):=hc
 obtain⟨a1,c1,rfl,_,_⟩:=hu
 obtain⟨a2,c2,rfl,_,_⟩:=hv
 clear hc
 go_enter Tryz.func135,Tryz.ntmps135
 go_wp2_with fail
 refine (zCo 208 _ (litB vals) c _ _ (HUA.out _ (zAA _ _)) ⟨zGj,?_⟩).mono ?_
 ·intro l w' hl hb'
  exact zHy vals l _ w.heap.size w' (HVA.out _ ((zAA _ _).trans (hb'.mono (by simp)))) (HC.out l hl).1 (HC.out l hl).2 ((hb'.cell (by simp)).trans (by simp))
 rintro e w3 ⟨rfl,hb3⟩
 have hb4:Below w.heap.size w w3:=(zAA _ _).trans (hb3.mono (by simp))
 clear hb3
 go_wp2
 go_ret
 exact⟨rfl,hb4⟩
end Go.Proofs.YtdjbejlbmaiocafGreatDoor
