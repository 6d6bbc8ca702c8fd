/- What the proof leans on, part 9. -/
import Derived.Test.YtndcpnlaadikoaaGreatDoorPartAh
import Derived.BigQuiet
import Derived.Test.YtndcpnlaadikoaaGreatDoorPartAg
import Derived.ProofKit
import Derived.OpenShut
import Derived.ShutString
import Derived.ChangeOld
import Derived.Below
import Derived.SizedLaws
import Derived.Deep.Slices
import Derived.Deep.Strs
import Derived.Lib.SmallJoins
namespace Go.Proofs.YtndcpnlaadikoaaGreatDoor
open Go.RowKit
theorem zEf {P:Program} {id:Nat} {Q:Exit→Act→World→Prop} {a:Act} {W:World} {l:List Oper} (hm:P.follows .mixedOrders=true) (hB:Region.lexB .any l.toArray=true)
 (h:wpQuiet P l.toArray (fun w'=>Below W.heap.size W w') (fun a'=>∀w',Below W.heap.size W w'→Q .normal a' w') l a):(Code.region id l.toArray true).wp P Q a W :=
 wp_region_quiet (C:=fun w'=>Below W.heap.size W w') hm hB ⟨rfl,rfl,rfl,Nat.le_refl _,fun _ _=>rfl⟩ (by simpa using h)
theorem zNx {w w':World} {n:Nat} (h:w'=w.drewN n):Below w.heap.size w w':=by rw[h];exact below_drewN (Below.refl _ _) _
def zNN (F:Nat) (c1:Value) (p:List Int→Bool) (w:World):Prop :=
 (∀(args:Array Value) (w':World),Sem.run Tryz.prog (callFunc F args) w'=.ok (.enter F args) w') ∧
 ∀(r:List Int) (x:Value) (w':World),Below w.heap.size w w'→IArg w' x r→Calls Tryz.prog F #[x,c1] w' fun e w''=>e=.returned (.bool (p r))∧Below w'.heap.size w' w''
def zNO (F:Nat) (caps:Array Value) (ls:List MLit) (p:MLit→Bool) (w:World):Prop :=
 (∀(args:Array Value) (w':World),Sem.run Tryz.prog (callFunc F args) w'=.ok (.enter F args) w') ∧
 ∀(l:MLit) (w':World),l∈ls→Below w.heap.size w w'→Calls Tryz.prog F (#[.agg #[.int .i64 l.var,.int .i64 l.op,.int .i64 l.n]]++caps) w' fun e w''=>e=.returned (.bool (p l))∧Below w'.heap.size w' w''
theorem zJL {α:Type} (p:α→Bool) (l:List α) (m:Nat) (t:α) (ht:l[m]? = some t) (h:p t=true):l.any p=true:=List.any_eq_true.2 ⟨t,List.mem_of_getElem? ht,h⟩
theorem zHO {α:Type} (p:α→Bool) (l:List α) (m:Nat) (t:α) (ht:l[m]? = some t) (h0:(l.take m).any p=false) (h:p t=false):(l.take (m+1)).any p=false:=by
 rw[List.take_add_one,ht,List.any_append,h0];simp[h]
theorem zJM {α:Type} (p:α→Bool) (l:List α) (m:Nat) (h:¬m<l.length) (h0:(l.take m).any p=false):l.any p=false:=by
 rwa [List.take_of_length_le (by omega)] at h0
set_option maxHeartbeats 800000 in
set_option maxRecDepth 100000 in
theorem zIU (F:Nat) (c1:Value) (p:List Int→Bool) (l:List (List Int)) (v:Value) (w:World) (hv:RArg w v l) (hF:zNN F c1 p w) :
 Calls Tryz.prog 236 #[v,.func (.func F) #[] #[c1]] w fun e w'=>(∃z:Int,e=.returned (.int .i64 z)∧decide (0≤z)=l.any p)∧Below w.heap.size w w':=by
 obtain⟨a,c,rfl,hm,hr⟩:=hv
 have HV:Hid (∀(i:Nat) (r:List Int),l[i]? = some r→∃b off x,a=some ⟨b,off,none⟩∧b<w.heap.size∧w.cell? ⟨b,off+i,none⟩=some x∧IArg w x r):=hr
 obtain⟨R,hR⟩:∃R,l.any p=R:=⟨_,rfl⟩
 rw[hR]
 have HR:Hid (l.any p=R):=hR
 have HF:Hid (zNN F c1 p w):=hF
 unfold maxLen at hm
 obtain⟨hm1,hm⟩:=hm
 clear hr hR hF
 go_enter Tryz.func236,Tryz.ntmps236
 go_wp2_with fail
 go_loopw [8] (fun i wr=>∃m:Nat,m≤l.length∧i=.int .i64 m∧Hid ((l.take m).any p=false)∧Below w.heap.size w wr) (fun i _=>l.length - (intOf i).toNat)
 case atStart=>exact⟨0,by omega,rfl,rfl,Below.refl _ _⟩
 case round =>
  obtain⟨m,hml,rfl,hall,hbw⟩:=hrel
  by_cases hlt:m<l.length
  ·obtain⟨z,hz⟩:∃z,l[m]? = some z:=⟨l[m],by simp[hlt]⟩
   obtain⟨b,off,x,ha,hb,hc0,hx⟩:=HV.out m z hz
   have hc:=(hbw.cell (p:=⟨b,off+m,none⟩) hb).trans hc0
   have HZ:Hid (l[m]? = some z):=hz
   have HX:Hid (IArg wr x z):=IArg.below hbw hx
   obtain⟨a5,c5,rfl,_,_⟩:=hx
   subst ha
   clear hz hc0
   cases hq:p z
   ·have HN:Hid ((l.take (m+1)).any p=false):=zHO _ l m z HZ.out hall.out hq
    go_wp2_with fail
    rw[HF.out.1,Oper.upon_enter]
    refine (HF.out.2 z _ _ hbw HX.out).mono ?_
    rintro e w1 ⟨rfl,hb1⟩
    rw[hq]
    clear hq
    go_wp2
    go_roundw
    case rel=>exact⟨m+1,by omega,by go_num,HN,hbw.trans (hb1.mono hbw.size)⟩
    case measure=>simp[intOf];omega
   ·have HN:Hid (R=true):=by rw[←HR.out];exact zJL p l m z HZ.out hq
    go_wp2_with fail
    rw[HF.out.1,Oper.upon_enter]
    refine (HF.out.2 z _ _ hbw HX.out).mono ?_
    rintro e w1 ⟨rfl,hb1⟩
    rw[hq]
    clear hq
    go_wp2
    go_ret
    exact⟨⟨_,rfl,by rw[HN.out];simp⟩,hbw.trans (hb1.mono hbw.size)⟩
  ·have HN:Hid (R=false):=by rw[←HR.out];exact zJM _ l m hlt hall.out
   go_wp2
   go_ret
   exact⟨⟨_,rfl,by rw[HN.out];rfl⟩,hbw⟩
set_option maxHeartbeats 400000 in
theorem zFt (F:Nat) (c1:Value) (p:List Int→Bool) (l:List (List Int)) (v:Value) (w:World) (hv:RArg w v l) (hF:zNN F c1 p w) :
 Calls Tryz.prog 166 #[v,.func (.func F) #[] #[c1]] w fun e w'=>e=.returned (.bool (l.any p))∧Below w.heap.size w w':=by
 go_enter Tryz.func166,Tryz.ntmps166
 go_wp2_with fail
 refine (zIU F c1 p l v _ hv hF).mono ?_
 rintro e w1 ⟨⟨z,rfl,hz⟩,hb1⟩
 have HZ:Hid (decide (0≤z)=l.any p):=hz
 clear hz
 go_wp2
 go_ret
 exact⟨zAB HZ.out,hb1⟩
def zNP (p:MLit→Bool) (l:List MLit) (z:Int):Prop:=(z=-1∧l.any p=false)∨∃(k:Nat) (t:MLit),z=(k:Int)∧l[k]? = some t∧p t=true
theorem zNP.sign {p:MLit→Bool} {l:List MLit} {z:Int} (h:zNP p l z):decide (0≤z)=l.any p:=by
 rcases h with ⟨rfl,h⟩ | ⟨k,t,rfl,ht,hp⟩
 ·rw[h];rfl
 ·rw[zJL p l k t ht hp];simp
set_option maxHeartbeats 800000 in
set_option maxRecDepth 100000 in
theorem zIV (F:Nat) (caps:Array Value) (p:MLit→Bool) (l:List MLit) (v:Value) (w:World) (hv:LArg w v l) (hF:zNO F caps l p w) :
 Calls Tryz.prog 269 #[v,.func (.func F) #[] caps] w fun e w'=>(∃z:Int,e=.returned (.int .i64 z)∧zNP p l z)∧Below w.heap.size w w':=by
 obtain⟨a,c,rfl,hm,hr⟩:=hv
 have HV:Hid (∀(i:Nat) (t:MLit),l[i]? = some t→∃b off,a=some ⟨b,off,none⟩∧b<w.heap.size ∧
  w.cell? ⟨b,off+i * 3,none⟩=some (.int .i64 t.var)∧w.cell? ⟨b,off+i * 3+1,none⟩=some (.int .i64 t.op)∧w.cell? ⟨b,off+i * 3+2,none⟩=some (.int .i64 t.n)):=hr
 have HF:Hid (zNO F caps l p w):=hF
 unfold maxLen at hm
 obtain⟨hm1,hm⟩:=hm
 clear hr hF
 go_enter Tryz.func269,Tryz.ntmps269
 go_wp2_with fail
 go_loopw [8] (fun i wr=>∃m:Nat,m≤l.length∧i=.int .i64 m∧Hid ((l.take m).any p=false)∧Below w.heap.size w wr) (fun i _=>l.length - (intOf i).toNat)
 case atStart=>exact⟨0,by omega,rfl,rfl,Below.refl _ _⟩
 case round =>
  obtain⟨m,hml,rfl,hall,hbw⟩:=hrel
  by_cases hlt:m<l.length
  ·obtain⟨z,hz⟩:∃z,l[m]? = some z:=⟨l[m],by simp[hlt]⟩
   obtain⟨b,off,ha,hb,d0,d1,d2⟩:=HV.out m z hz
   have e0:=(hbw.cell (p:=⟨b,off+m * 3,none⟩) hb).trans d0
   have e1:=(hbw.cell (p:=⟨b,off+m * 3+1,none⟩) hb).trans d1
   have e2:=(hbw.cell (p:=⟨b,off+m * 3+2,none⟩) hb).trans d2
   have HZ:Hid (l[m]? = some z):=hz
   subst ha
   clear hz d0 d1 d2
   cases hq:p z
   ·have HN:Hid ((l.take (m+1)).any p=false):=zHO _ l m z HZ.out hall.out hq
    go_wp2_with fail
    rw[HF.out.1,Oper.upon_enter]
    refine (HF.out.2 z _ (List.mem_of_getElem? HZ.out) hbw).mono ?_
    rintro e w1 ⟨rfl,hb1⟩
    rw[hq]
    clear hq
    go_wp2
    go_roundw
    case rel=>exact⟨m+1,by omega,by go_num,HN,hbw.trans (hb1.mono hbw.size)⟩
    case measure=>simp[intOf];omega
   ·have HP:Hid (p z=true):=hq
    go_wp2_with fail
    rw[HF.out.1,Oper.upon_enter]
    refine (HF.out.2 z _ (List.mem_of_getElem? HZ.out) hbw).mono ?_
    rintro e w1 ⟨rfl,hb1⟩
    rw[hq]
    clear hq
    go_wp2
    go_ret
    exact⟨⟨_,rfl,Or.inr ⟨m,z,rfl,HZ.out,HP.out⟩⟩,hbw.trans (hb1.mono hbw.size)⟩
  ·have HN:Hid (l.any p=false):=zJM _ l m hlt hall.out
   go_wp2
   go_ret
   exact⟨⟨_,rfl,Or.inl ⟨rfl,HN.out⟩⟩,hbw⟩
set_option maxHeartbeats 400000 in
theorem zDY (F:Nat) (caps:Array Value) (p:MLit→Bool) (l:List MLit) (v:Value) (w:World) (hv:LArg w v l) (hF:zNO F caps l p w) :
 Calls Tryz.prog 229 #[v,.func (.func F) #[] caps] w fun e w'=>e=.returned (.bool (l.any p))∧Below w.heap.size w w':=by
 go_enter Tryz.func229,Tryz.ntmps229
 go_wp2_with fail
 refine (zIV F caps p l v _ hv hF).mono ?_
 rintro e w1 ⟨⟨z,rfl,hz⟩,hb1⟩
 have HZ:Hid (decide (0≤z)=l.any p):=hz.sign
 clear hz
 go_wp2
 go_ret
 exact⟨zAB HZ.out,hb1⟩
theorem zJ5 (args:Array Value) (w':World):Sem.run Tryz.prog (callFunc 167 args) w'=.ok (.enter 167 args) w':=by
 simp[callFunc,go_sem,Tryz.func167,Tryz.f167]
theorem zIW (args:Array Value) (w':World):Sem.run Tryz.prog (callFunc 237 args) w'=.ok (.enter 237 args) w':=by
 simp[callFunc,go_sem,Tryz.func237,Tryz.f237]
set_option maxHeartbeats 400000 in
set_option maxRecDepth 100000 in
theorem zMI (own r:List Int) (v x:Value) (b:Nat) (w:World) (hv:IArg w v own) (hx:IArg w x r) (hb:w.cell? ⟨b,0,none⟩=some v) :
 Calls Tryz.prog 167 #[x,.pointer (some ⟨b,0,none⟩)] w fun e w'=>e=.returned (.bool (decide (r=own)))∧Below w.heap.size w w':=by
 have HV:Hid (IArg w v own):=hv
 have HX:Hid (IArg w x r):=hx
 obtain⟨a,c,rfl,_,_⟩:=hv
 obtain⟨a',c',rfl,_,_⟩:=hx
 go_enter Tryz.func167,Tryz.ntmps167
 go_wp2_with fail
 refine (zK0 r own _ _ _ HX.out HV.out).mono ?_
 rintro e w1 ⟨rfl,n,h1⟩
 have hb1:=zNx h1
 clear h1
 go_wp2
 go_ret
 exact⟨rfl,hb1⟩
set_option maxHeartbeats 800000 in
set_option maxRecDepth 100000 in
theorem zJ6 (vals:List Int) (l:MLit) (v:Value) (b:Nat) (w:World) (hv:IArg w v vals) (h0:0≤l.var) (h1:l.var<vals.length) (hb:w.cell? ⟨b,0,none⟩=some v) :
 Calls Tryz.prog 237 #[.agg #[.int .i64 l.var,.int .i64 l.op,.int .i64 l.n],.pointer (some ⟨b,0,none⟩)] w fun e w'=>e=.returned (.bool (litB vals l))∧Below w.heap.size w w':=by
 obtain⟨a,c,rfl,hm,hr⟩:=hv
 have hbl:b<w.heap.size:=World.block_lt_of_cell? w _ hb
 obtain⟨j,hj⟩:∃j:Nat,l.var=(j:Int):=⟨l.var.toNat,by omega⟩
 have hjl:j<vals.length:=by omega
 obtain⟨y,hy⟩:∃y,vals[j]? = some y:=⟨vals[j],by simp[hjl]⟩
 obtain⟨b7,off7,rfl,hb7,g7⟩:=hr j y hy
 unfold maxLen at hm
 obtain⟨hm1,hm⟩:=hm
 have HBV:Hid (litB vals l=litV y l):=by show _=_;unfold litB;rw[hj,zCH vals j y hy]
 rw[HBV.out]
 obtain⟨B,HB⟩:∃B:Bool,Hid (litV y l=B):=⟨_,rfl⟩
 rw[HB.out,hj]
 obtain⟨W,hW⟩:∃W:World,W=w.alloc (.cells #[.int .i64 (j:Int),.int .i64 l.op,.int .i64 l.n] 76):=⟨_,rfl⟩
 have HW:Hid (W=w.alloc (.cells #[.int .i64 (j:Int),.int .i64 l.op,.int .i64 l.n] 76)):=hW
 have HBW:Hid (Below w.heap.size w W):=by rw[hW];exact zAA _ _
 have HSW:Hid (W.heap.size=w.heap.size+1):=by show _=_;rw[hW];simp
 have k0:W.cell? ⟨w.heap.size,0,none⟩=some (.int .i64 (j:Int)):=by rw[hW];simp
 have k1:W.cell? ⟨w.heap.size,1,none⟩=some (.int .i64 l.op):=by rw[hW];simp
 have k2:W.cell? ⟨w.heap.size,2,none⟩=some (.int .i64 l.n):=by rw[hW];simp
 have k3:W.cell? ⟨b,0,none⟩=some (.slice (some ⟨b7,off7,none⟩) vals.length c):=by rw[hW];exact (World.cell?_alloc_past _ _ _ hbl).trans hb
 have k4:W.cell? ⟨b7,off7+j,none⟩=some (.int .i64 y):=by rw[hW];exact (World.cell?_alloc_past _ _ _ hb7).trans g7
 have HCL:Hid (∀wq:World,Below W.heap.size W wq→Calls Tryz.prog 172 #[.agg #[.int .i64 (j:Int),.int .i64 l.op,.int .i64 l.n],.int .i64 y] wq fun e w'=>e=.returned (.bool B)∧Below W.heap.size W w'):=by
  intro wq hq
  rw[←hj]
  refine (zGg l y wq).mono ?_
  rintro e w' ⟨rfl,hb⟩
  exact⟨by rw[HB.out],hq.trans (hb.mono hq.size)⟩
 clear hW hr hy hj g7 hb HBV HB h0 h1
 go_enter Tryz.func237,Tryz.ntmps237
 go_wp2
 rw[←HW.out]
 refine zEf (by kernel_rfl) (by kernel_rfl) ?_
 go_big_quiet_want
 refine⟨.agg #[.int .i64 (j:Int),.int .i64 l.op,.int .i64 l.n],fun wq hq=>?_,?_⟩
 ·have h0:=(hq.cell (p:=⟨w.heap.size,0,none⟩) (by have:=HSW.out;simp only;omega)).trans k0
  have h1:=(hq.cell (p:=⟨w.heap.size,1,none⟩) (by have:=HSW.out;simp only;omega)).trans k1
  have h2:=(hq.cell (p:=⟨w.heap.size,2,none⟩) (by have:=HSW.out;simp only;omega)).trans k2
  simp[Oper.quietAt,go_sem,h0,h1,h2]
 go_simp
 go_big_quiet_on
 go_big_quiet_want
 refine⟨.slice (some ⟨b7,off7,none⟩) vals.length c,fun wq hq=>?_,?_⟩
 ·have h0:=(hq.cell (p:=⟨b,0,none⟩) (by have:=HSW.out;simp only;omega)).trans k3
  simp[Oper.quietAt,go_sem,h0]
 go_simp
 go_big_quiet_on
 go_big_quiet_want
 go_big_quiet_op
 first | go_big_quiet_on | (refine⟨_,fun _ _=>rfl,?_⟩;go_big_quiet_on)
 go_big_quiet_want
 refine⟨.int .i64 (j:Int),fun wq hq=>?_,?_⟩
 ·have h0:=(hq.cell (p:=⟨w.heap.size,0,none⟩) (by have:=HSW.out;simp only;omega)).trans k0
  simp[Oper.quietAt,go_sem,h0]
 go_simp
 go_big_quiet_on
 go_big_quiet_want
 go_big_quiet_op
 first | go_big_quiet_on | (refine⟨_,fun _ _=>rfl,?_⟩;go_big_quiet_on)
 go_big_quiet_want
 refine⟨.int .i64 y,fun wq hq=>?_,?_⟩
 ·have h0:=(hq.cell (p:=⟨b7,off7+j,none⟩) (by have:=HSW.out;simp only;omega)).trans k4
  simp[Oper.quietAt,go_sem,h0]
 go_simp
 go_big_quiet_on
 go_big_quiet_want
 refine⟨.bool B,fun wq hq=>?_,?_⟩
 ·simp[Oper.quietAt,go_sem]
  exact HCL.out wq hq
 go_simp
 go_big_quiet_on
 go_big_quiet_want
 go_big_quiet_op
 first | go_big_quiet_on | (refine⟨_,fun _ _=>rfl,?_⟩;go_big_quiet_on)
 refine wpQuiet_nil ?_
 intro w' hw'
 have hb4:Below w.heap.size w w':=HBW.out.trans (hw'.mono HBW.out.size)
 clear hw'
 go_wp2
 go_ret
 exact⟨rfl,hb4⟩
set_option maxHeartbeats 400000 in
set_option maxRecDepth 100000 in
theorem zIX (c:List MLit) (vals:List Int) (u v:Value) (w:World) (hu:LArg w u c) (hv:IArg w v vals) (hc:∀l∈c,0≤l.var∧l.var<(vals.length:Int)) :
 Calls Tryz.prog 170 #[u,v] w fun e w'=>e=.returned (.bool (c.any (litB vals)))∧Below w.heap.size w w':=by
 have HUA:Hid (∀w':World,Below w.heap.size w w'→LArg w' u c):=fun w' h=>LArg.below h hu
 have HVA:Hid (∀w':World,Below w.heap.size w w'→IArg w' v vals):=fun w' h=>IArg.below h hv
 have HC:Hid (∀l∈c,0≤l.var∧l.var<(vals.length:Int)):=hc
 obtain⟨a1,c1,rfl,_,_⟩:=hu
 obtain⟨a2,c2,rfl,_,_⟩:=hv
 clear hc
 go_enter Tryz.func170,Tryz.ntmps170
 go_wp2_with fail
 refine (zDY 237 _ (litB vals) c _ _ (HUA.out _ (zAA _ _)) ⟨zIW,?_⟩).mono ?_
 ·intro l w' hl hb'
  exact zJ6 vals l _ w.heap.size w' (HVA.out _ ((zAA _ _).trans (hb'.mono (by simp)))) (HC.out l hl).1 (HC.out l hl).2 ((hb'.cell (by simp)).trans (by simp))
 rintro e w3 ⟨rfl,hb3⟩
 have hb4:Below w.heap.size w w3:=(zAA _ _).trans (hb3.mono (by simp))
 clear hb3
 go_wp2
 go_ret
 exact⟨rfl,hb4⟩
open Go.ChangeShapes Go.WideShapes Go.ChangeAt Go.RowKit Go.Deep
section
variable {H:Type} {enc:TypeId×Value→H} {w:World} {base:Nat} {spare:Nat→Bool} {held:Bool}
theorem zBo {α:Type} [Inhabited α] {t e:TypeId} {size:Nat} (ht:Tryz.prog.underlying t=some (.slice e)) (hc:Tryz.prog.cellsOf e=size) (hsz:0<size) (cellsOf:α→List Value) (good:α→Prop)
 (hel:∀(n:Nat) (cs':List Value) (x':DataW H×List MemPlace),DataW.trod enc Tryz.prog w base spare held n e cs'=some x'→∃a:α,cs'=cellsOf a∧good a)
 {fuel:Nat} {cs:List Value} {x:DataW H×List MemPlace} (h:DataW.trod enc Tryz.prog w base spare held fuel t cs=some x) :
 ∃(l:List α) (a:Option Addr) (c:Nat),cs=[.slice a l.length c]∧(l.length≤c∧c≤maxLen)∧∀(i:Nat) (y:α),l[i]? = some y→good y∧∃b off,a=some ⟨b,off,none⟩∧b<w.heap.size∧∀(j:Nat) (u:Value),(cellsOf y)[j]? = some u→w.cell? ⟨b,off+(i * size+j),none⟩=some u:=by
 rcases open_slice ht h with ⟨hcs,_⟩ | ⟨a,len,cap,m,n,D,Pl,hcs,_,hl,hcm,hmm,_,hx⟩
 ·exact⟨[],none,0,hcs,⟨Nat.le_refl _,Nat.zero_le _⟩,fun i y h=>by simp at h⟩
 ·have hlm:len≤m:=by rw[hmm];split <;> omega
  have each:∀i,i<len→∃y:α,good y∧(cellsOf y).length=size∧∀j u,(cellsOf y)[j]? = some u→w.cell? (a.add (i * size+j))=some u:=by
   intro i hi
   obtain⟨cs',hc',ht'⟩:=hx i (by omega)
   obtain⟨y,rfl,hg⟩:=hel n cs' _ ht'
   obtain⟨_,hlen,hcell⟩:=World.cells?_some hc'
   rw[hc] at hlen
   refine⟨y,hg,hlen,fun j u hj=>?_⟩
   have hj3:j<(cellsOf y).length:=(List.getElem?_eq_some_iff.1 hj).1
   have:=hcell j (by rw[hc,←hlen];exact hj3)
   rw[hc,add_add] at this
   rw[this];exact hj
  obtain⟨f,hf⟩:=choose_lt each
  refine⟨(List.range len).map f,some a,cap,by simpa using hcs,⟨by simpa using hl,hcm⟩,fun i y hy=>?_⟩
  have hi:i<len:=by have:=(List.getElem?_eq_some_iff.1 hy).1;simpa using this
  have hyf:y=f i:=by simp[hi] at hy;exact hy.symm
  subst hyf
  obtain⟨hg,hlen,hcell⟩:=hf i hi
  obtain⟨_,hlen0,hcell0⟩:=hf 0 (by omega)
  obtain⟨u0,hu0⟩:∃u0,(cellsOf (f 0))[0]? = some u0:=⟨(cellsOf (f 0))[0]'(by omega),by simp⟩
  have h00:=hcell0 0 u0 hu0
  have hspot:a.spot=none:=by simpa[Addr.add] using World.cell?_spot h00
  have hblk:a.block<w.heap.size:=by simpa[Addr.add] using World.block_lt_of_cell? w _ h00
  refine⟨hg,a.block,a.off,?_,hblk,fun j u hj=>?_⟩
  ·obtain⟨b,off,spot⟩:=a;simp only at hspot;subst hspot;rfl
  ·have:=hcell j u hj
   obtain⟨b,off,spot⟩:=a;simp only at hspot;subst hspot
   rwa [add_plain] at this
theorem Tryz.cInt:Tryz.prog.cellsOf 3=1:=by kernel_rfl
theorem Tryz.cStr:Tryz.prog.cellsOf 9=1:=by kernel_rfl
theorem Tryz.cInts:Tryz.prog.cellsOf 42=1:=by kernel_rfl
theorem Tryz.cRows:Tryz.prog.cellsOf 56=1:=by kernel_rfl
theorem Tryz.cLits:Tryz.prog.cellsOf 27=1:=by kernel_rfl
theorem Tryz.cLit:Tryz.prog.cellsOf 76=3:=by kernel_rfl
theorem Tryz.cVar:Tryz.prog.cellsOf 67=3:=by kernel_rfl
theorem Tryz.cCon:Tryz.prog.cellsOf 69=6:=by kernel_rfl
theorem zER {fuel:Nat} {cs:List Value} {x:DataW H×List MemPlace} (h:DataW.trod enc Tryz.prog w base spare held fuel 42 cs=some x) :
 ∃v l,cs=[v]∧IArg w v l:=by
 obtain⟨l,a,c,hcs,hm,hr⟩:=zBo (α:=Int) Tryz.underlying42 Tryz.cInt (by decide) (fun z=>[.int .i64 z]) (fun _=>True)
  (fun n cs' x' h'=>by obtain⟨z,hz,_,_⟩:=DataW.trod_int Tryz.underlying3 h';exact⟨z,hz,trivial⟩) h
 refine⟨_,l,hcs,a,c,rfl,hm,fun i z hz=>?_⟩
 obtain⟨_,b,off,ha,hb,hc⟩:=hr i z hz
 have:=hc 0 _ rfl
 exact⟨b,off,ha,hb,by simpa using this⟩
theorem zJ7 {fuel:Nat} {cs:List Value} {x:DataW H×List MemPlace} (h:DataW.trod enc Tryz.prog w base spare held fuel 56 cs=some x) :
 ∃v l,cs=[v]∧RArg w v l:=by
 obtain⟨l,a,c,hcs,hm,hr⟩:=zBo (α:=Value×List Int) Tryz.underlying56 Tryz.cInts (by decide) (fun z=>[z.1]) (fun z=>IArg w z.1 z.2)
  (fun n cs' x' h'=>by obtain⟨v,r,hz,hi⟩:=zER h';exact⟨(v,r),hz,hi⟩) h
 refine⟨_,l.map (·.2),hcs,a,c,by simp,by simpa using hm,fun i r hr'=>?_⟩
 rw[List.getElem?_map] at hr'
 obtain⟨⟨v,r2⟩,hz,rfl⟩:=Option.map_eq_some_iff.1 hr'
 obtain⟨hg,b,off,ha,hb,hc⟩:=hr i _ hz
 have:=hc 0 _ rfl
 exact⟨b,off,v,ha,hb,by simpa using this,hg⟩
set_option maxRecDepth 100000 in
theorem zK4 {n:Nat} {cs:List Value} {x:DataW H×List MemPlace} (h:DataW.trod enc Tryz.prog w base spare held n 76 cs=some x) :
 ∃t:MLit,cs=[.int .i64 t.var,.int .i64 t.op,.int .i64 t.n]:=by
 obtain⟨y0,y1,y2,m,_,hl,h0,h1,h2⟩:=trod_struct3 Tryz.underlying76 h
 rw[Tryz.cLit] at hl
 obtain⟨k,hk,_,_⟩:=DataW.trod_int Tryz.underlying3 h0
 obtain⟨p,hp,_,_⟩:=DataW.trod_int Tryz.underlying3 h1
 obtain⟨s,hs,_,_⟩:=DataW.trod_int Tryz.underlying3 h2
 match cs,hl with
 | [c0,c1,c2],_ =>
   change List.take (Tryz.prog.cellsOf 3) [c0,c1,c2]=_ at hk
   change List.take (Tryz.prog.cellsOf 3) [c1,c2]=_ at hp
   change List.take (Tryz.prog.cellsOf 3) [c2]=_ at hs
   rw[Tryz.cInt] at hk hp hs
   simp at hk hp hs
   exact⟨⟨k,p,s⟩,by rw[hk,hp,hs]⟩
theorem zF4 {fuel:Nat} {cs:List Value} {x:DataW H×List MemPlace} (h:DataW.trod enc Tryz.prog w base spare held fuel 27 cs=some x) :
 ∃v l,cs=[v]∧LArg w v l:=by
 have hinh:Inhabited MLit:=⟨⟨0,0,0⟩⟩
 obtain⟨l,a,c,hcs,hm,hr⟩:=zBo (α:=MLit) Tryz.underlying27 Tryz.cLit (by decide) (fun t=>[.int .i64 t.var,.int .i64 t.op,.int .i64 t.n]) (fun _=>True)
  (fun n cs' x' h'=>by obtain⟨t,ht⟩:=zK4 h';exact⟨t,ht,trivial⟩) h
 refine⟨_,l,hcs,a,c,rfl,hm,fun i z hz=>?_⟩
 obtain⟨_,b,off,ha,hb,hc⟩:=hr i z hz
 have e0:=hc 0 _ rfl
 have e1:=hc 1 _ rfl
 have e2:=hc 2 _ rfl
 rw[←Nat.add_assoc] at e0 e1 e2
 exact⟨b,off,ha,hb,e0,e1,e2⟩
set_option maxRecDepth 100000 in
theorem zNQ {n:Nat} {cs:List Value} {x:DataW H×List MemPlace} (h:DataW.trod enc Tryz.prog w base spare held n 67 cs=some x) :
 ∃t:MVar,cs=[.string t.name,.int .i64 t.lo,.int .i64 t.hi]∧t.name.size≤maxLen:=by
 obtain⟨y0,y1,y2,m,_,hl,h0,h1,h2⟩:=trod_struct3 Tryz.underlying67 h
 rw[Tryz.cVar] at hl
 obtain⟨k,hk,_,hsz⟩:=DataW.trod_string Tryz.underlying9 h0
 obtain⟨p,hp,_,_⟩:=DataW.trod_int Tryz.underlying3 h1
 obtain⟨s,hs,_,_⟩:=DataW.trod_int Tryz.underlying3 h2
 match cs,hl with
 | [c0,c1,c2],_ =>
   change List.take (Tryz.prog.cellsOf 9) [c0,c1,c2]=_ at hk
   change List.take (Tryz.prog.cellsOf 3) [c1,c2]=_ at hp
   change List.take (Tryz.prog.cellsOf 3) [c2]=_ at hs
   rw[Tryz.cStr] at hk
   rw[Tryz.cInt] at hp hs
   simp at hk hp hs
   exact⟨⟨k,p,s⟩,by rw[hk,hp,hs],hsz⟩
theorem zJ8 {fuel:Nat} {cs:List Value} {x:DataW H×List MemPlace} (h:DataW.trod enc Tryz.prog w base spare held fuel 22 cs=some x) :
 ∃v l,cs=[v]∧VArg w v l:=by
 have hinh:Inhabited MVar:=⟨⟨ByteArray.empty,0,0⟩⟩
 obtain⟨l,a,c,hcs,hm,hr⟩:=zBo (α:=MVar) Tryz.underlying22 Tryz.cVar (by decide) (fun t=>[.string t.name,.int .i64 t.lo,.int .i64 t.hi]) (fun t=>t.name.size≤maxLen)
  (fun n cs' x' h'=>by obtain⟨t,ht,hs⟩:=zNQ h';exact⟨t,ht,hs⟩) h
 refine⟨_,l,hcs,a,c,rfl,hm,fun i z hz=>?_⟩
 obtain⟨hg,b,off,ha,hb,hc⟩:=hr i z hz
 have e0:=hc 0 _ rfl
 have e1:=hc 1 _ rfl
 have e2:=hc 2 _ rfl
 rw[←Nat.add_assoc] at e0 e1 e2
 exact⟨hg,b,off,ha,hb,e0,e1,e2⟩
set_option maxRecDepth 100000 in
theorem zNR {n:Nat} {cs:List Value} {x:DataW H×List MemPlace} (h:DataW.trod enc Tryz.prog w base spare held n 69 cs=some x) :
 ∃(t:MCon) (vv vc vr vl:Value),cs=[.int .i64 t.kind,vv,vc,.int .i64 t.n,vr,vl]∧KArg w vv vc vr vl t:=by
 obtain⟨xs,k,_,_,hl,hxl,hf⟩:=DataW.trod_struct Tryz.underlying69 h
 rw[Tryz.cCon] at hl
 match cs,hl,xs,hxl with
 | [c0,c1,c2,c3,c4,c5],_,[y0,y1,y2,y3,y4,y5],_ =>
   have g0:=hf 0 _ rfl
   have g1:=hf 1 _ rfl
   have g2:=hf 2 _ rfl
   have g3:=hf 3 _ rfl
   have g4:=hf 4 _ rfl
   have g5:=hf 5 _ rfl
   obtain⟨kd,hk,_,_⟩:=DataW.trod_int Tryz.underlying3 g0
   obtain⟨v1,l1,hv1,i1⟩:=zER g1
   obtain⟨v2,l2,hv2,i2⟩:=zER g2
   obtain⟨nn,hn,_,_⟩:=DataW.trod_int Tryz.underlying3 g3
   obtain⟨v4,l4,hv4,i4⟩:=zJ7 g4
   obtain⟨v5,l5,hv5,i5⟩:=zF4 g5
   change List.take (Tryz.prog.cellsOf 3) [c0,c1,c2,c3,c4,c5]=_ at hk
   change List.take (Tryz.prog.cellsOf 42) [c1,c2,c3,c4,c5]=_ at hv1
   change List.take (Tryz.prog.cellsOf 42) [c2,c3,c4,c5]=_ at hv2
   change List.take (Tryz.prog.cellsOf 3) [c3,c4,c5]=_ at hn
   change List.take (Tryz.prog.cellsOf 56) [c4,c5]=_ at hv4
   change List.take (Tryz.prog.cellsOf 27) [c5]=_ at hv5
   rw[Tryz.cInt] at hk hn
   rw[Tryz.cInts] at hv1 hv2
   rw[Tryz.cRows] at hv4
   rw[Tryz.cLits] at hv5
   simp at hk hv1 hv2 hn hv4 hv5
   exact⟨⟨kd,l1,l2,nn,l4,l5⟩,v1,v2,v4,v5,by rw[hk,hv1,hv2,hn,hv4,hv5],i1,i2,i4,i5⟩
theorem zJ9 {fuel:Nat} {cs:List Value} {x:DataW H×List MemPlace} (h:DataW.trod enc Tryz.prog w base spare held fuel 23 cs=some x) :
 ∃v l,cs=[v]∧CArg w v l:=by
 have hinh:Inhabited (MCon×Value×Value×Value×Value):=⟨⟨0,[],[],0,[],[]⟩,.bool false,.bool false,.bool false,.bool false⟩
 obtain⟨l,a,c,hcs,hm,hr⟩:=zBo (α:=MCon×Value×Value×Value×Value) Tryz.underlying23 Tryz.cCon (by decide)
  (fun t=>[.int .i64 t.1.kind,t.2.1,t.2.2.1,.int .i64 t.1.n,t.2.2.2.1,t.2.2.2.2]) (fun t=>KArg w t.2.1 t.2.2.1 t.2.2.2.1 t.2.2.2.2 t.1)
  (fun n cs' x' h'=>by obtain⟨t,vv,vc,vr,vl,ht,hk⟩:=zNR h';exact⟨(t,vv,vc,vr,vl),ht,hk⟩) h
 refine⟨_,l.map (·.1),hcs,a,c,by simp,by simpa using hm,fun i r hr'=>?_⟩
 rw[List.getElem?_map] at hr'
 obtain⟨⟨t,vv,vc,vr,vl⟩,hz,rfl⟩:=Option.map_eq_some_iff.1 hr'
 obtain⟨hg,b,off,ha,hb,hc⟩:=hr i _ hz
 have e0:=hc 0 _ rfl
 have e1:=hc 1 _ rfl
 have e2:=hc 2 _ rfl
 have e3:=hc 3 _ rfl
 have e4:=hc 4 _ rfl
 have e5:=hc 5 _ rfl
 rw[←Nat.add_assoc] at e0 e1 e2 e3 e4 e5
 exact⟨b,off,vv,vc,vr,vl,ha,hb,e0,e1,e2,e3,e4,e5,hg⟩
theorem Tryz.cModel:Tryz.prog.cellsOf 25=4:=by kernel_rfl
set_option maxRecDepth 100000 in
theorem zKA {r:Reach} {b0:Nat} {v:Value} {d:DataW H} {p:List MemPlace} (hv:Value.okWide Tryz.prog w r b0 25 v) (h:DataW.Trod enc Tryz.prog w base spare held 25 v d p) :
 ∃vs cs m,v=modV vs cs m∧MArg w vs cs m:=by
 obtain⟨v0,v1,v2,v3,y0,y1,y2,y3,n,rfl,_,_,h0,h1,h2,h3⟩:=Go.Joins.open_agg4 Tryz.underlying25 (by kernel_rfl) Tryz.cModel hv h
 obtain⟨a0,l0,e0,i0⟩:=zJ8 h0
 obtain⟨a1,l1,e1,i1⟩:=zJ9 h1
 obtain⟨g,hg,_,_⟩:=DataW.trod_int Tryz.underlying3 h2
 obtain⟨q,hq,_,_⟩:=DataW.trod_int Tryz.underlying3 h3
 cases e0;cases e1;cases hg;cases hq
 exact⟨v0,v1,⟨l0,l1,g,q⟩,rfl,i0,i1⟩
end
end Go.Proofs.YtndcpnlaadikoaaGreatDoor
