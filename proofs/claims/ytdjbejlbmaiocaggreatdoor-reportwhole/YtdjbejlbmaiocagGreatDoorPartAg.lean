/- What the proof leans on, part 7. -/
import Derived.Test.YtdjbejlbmaiocagGreatDoorPartAf
import Derived.BigQuiet
namespace Go.Proofs.YtdjbejlbmaiocagGreatDoor
open Go.RowKit
theorem zGz {P:Program} {id:Nat} {Q:Exit→Act→World→Prop} {a:Act} {W:World} {l:List Oper} (hm:P.follows .mixedOrders=true) (hB:Region.lexB .any l.toArray=true)
 (h:wpQuiet P l.toArray (fun w'=>Below W.heap.size W w') (fun a'=>∀w',Below W.heap.size W w'→Q .normal a' w') l a):(Code.region id l.toArray true).wp P Q a W :=
 wp_region_quiet (C:=fun w'=>Below W.heap.size W w') hm hB ⟨rfl,rfl,rfl,Nat.le_refl _,fun _ _=>rfl⟩ (by simpa using h)
theorem zSf {w w':World} {n:Nat} (h:w'=w.drewN n):Below w.heap.size w w':=by rw[h];exact below_drewN (Below.refl _ _) _
def zSy (F:Nat) (c1:Value) (p:List Int→Bool) (w:World):Prop :=
 (∀(args:Array Value) (w':World),Sem.run Tryz.prog (callFunc F args) w'=.ok (.enter F args) w') ∧
 ∀(r:List Int) (x:Value) (w':World),Below w.heap.size w w'→IArg w' x r→Calls Tryz.prog F #[x,c1] w' fun e w''=>e=.returned (.bool (p r))∧Below w'.heap.size w' w''
def zSz (F:Nat) (caps:Array Value) (ls:List MLit) (p:MLit→Bool) (w:World):Prop :=
 (∀(args:Array Value) (w':World),Sem.run Tryz.prog (callFunc F args) w'=.ok (.enter F args) w') ∧
 ∀(l:MLit) (w':World),l∈ls→Below w.heap.size w w'→Calls Tryz.prog F (#[.agg #[.int .i64 l.var,.int .i64 l.op,.int .i64 l.n]]++caps) w' fun e w''=>e=.returned (.bool (p l))∧Below w'.heap.size w' w''
theorem zNK {α:Type} (p:α→Bool) (l:List α) (m:Nat) (t:α) (ht:l[m]? = some t) (h:p t=true):l.any p=true:=List.any_eq_true.2 ⟨t,List.mem_of_getElem? ht,h⟩
theorem zKc {α:Type} (p:α→Bool) (l:List α) (m:Nat) (t:α) (ht:l[m]? = some t) (h0:(l.take m).any p=false) (h:p t=false):(l.take (m+1)).any p=false:=by
 rw[List.take_add_one,ht,List.any_append,h0];simp[h]
theorem zNL {α:Type} (p:α→Bool) (l:List α) (m:Nat) (h:¬m<l.length) (h0:(l.take m).any p=false):l.any p=false:=by
 rwa [List.take_of_length_le (by omega)] at h0
set_option maxHeartbeats 800000 in
set_option maxRecDepth 100000 in
theorem zL3 (F:Nat) (c1:Value) (p:List Int→Bool) (l:List (List Int)) (v:Value) (w:World) (hv:RArg w v l) (hF:zSy F c1 p w) :
 Calls Tryz.prog 158 #[v,.func (.func F) #[] #[c1]] w fun e w'=>(∃z:Int,e=.returned (.int .i64 z)∧decide (0≤z)=l.any p)∧Below w.heap.size w w':=by
 obtain⟨a,c,rfl,hm,hr⟩:=hv
 have HV:Hid (∀(i:Nat) (r:List Int),l[i]? = some r→∃b off x,a=some ⟨b,off,none⟩∧b<w.heap.size∧w.cell? ⟨b,off+i,none⟩=some x∧IArg w x r):=hr
 obtain⟨R,hR⟩:∃R,l.any p=R:=⟨_,rfl⟩
 rw[hR]
 have HR:Hid (l.any p=R):=hR
 have HF:Hid (zSy F c1 p w):=hF
 unfold maxLen at hm
 obtain⟨hm1,hm⟩:=hm
 clear hr hR hF
 go_enter Tryz.func158,Tryz.ntmps158
 go_wp2_with fail
 go_loopw [8] (fun i wr=>∃m:Nat,m≤l.length∧i=.int .i64 m∧Hid ((l.take m).any p=false)∧Below w.heap.size w wr) (fun i _=>l.length - (intOf i).toNat)
 case atStart=>exact⟨0,by omega,rfl,rfl,Below.refl _ _⟩
 case round =>
  obtain⟨m,hml,rfl,hall,hbw⟩:=hrel
  by_cases hlt:m<l.length
  ·obtain⟨z,hz⟩:∃z,l[m]? = some z:=⟨l[m],by simp[hlt]⟩
   obtain⟨b,off,x,ha,hb,hc0,hx⟩:=HV.out m z hz
   have hc:=(hbw.cell (p:=⟨b,off+m,none⟩) hb).trans hc0
   have HZ:Hid (l[m]? = some z):=hz
   have HX:Hid (IArg wr x z):=IArg.below hbw hx
   obtain⟨a5,c5,rfl,_,_⟩:=hx
   subst ha
   clear hz hc0
   cases hq:p z
   ·have HN:Hid ((l.take (m+1)).any p=false):=zKc _ l m z HZ.out hall.out hq
    go_wp2_with fail
    rw[HF.out.1,Oper.upon_enter]
    refine (HF.out.2 z _ _ hbw HX.out).mono ?_
    rintro e w1 ⟨rfl,hb1⟩
    rw[hq]
    clear hq
    go_wp2
    go_roundw
    case rel=>exact⟨m+1,by omega,by go_num,HN,hbw.trans (hb1.mono hbw.size)⟩
    case measure=>simp[intOf];omega
   ·have HN:Hid (R=true):=by rw[←HR.out];exact zNK p l m z HZ.out hq
    go_wp2_with fail
    rw[HF.out.1,Oper.upon_enter]
    refine (HF.out.2 z _ _ hbw HX.out).mono ?_
    rintro e w1 ⟨rfl,hb1⟩
    rw[hq]
    clear hq
    go_wp2
    go_ret
    exact⟨⟨_,rfl,by rw[HN.out];simp⟩,hbw.trans (hb1.mono hbw.size)⟩
  ·have HN:Hid (R=false):=by rw[←HR.out];exact zNL _ l m hlt hall.out
   go_wp2
   go_ret
   exact⟨⟨_,rfl,by rw[HN.out];rfl⟩,hbw⟩
set_option maxHeartbeats 400000 in
theorem zIX (F:Nat) (c1:Value) (p:List Int→Bool) (l:List (List Int)) (v:Value) (w:World) (hv:RArg w v l) (hF:zSy F c1 p w) :
 Calls Tryz.prog 102 #[v,.func (.func F) #[] #[c1]] w fun e w'=>e=.returned (.bool (l.any p))∧Below w.heap.size w w':=by
 go_enter Tryz.func102,Tryz.ntmps102
 go_wp2_with fail
 refine (zL3 F c1 p l v _ hv hF).mono ?_
 rintro e w1 ⟨⟨z,rfl,hz⟩,hb1⟩
 have HZ:Hid (decide (0≤z)=l.any p):=hz
 clear hz
 go_wp2
 go_ret
 exact⟨zAG HZ.out,hb1⟩
def zS0 (p:MLit→Bool) (l:List MLit) (z:Int):Prop:=(z=-1∧l.any p=false)∨∃(k:Nat) (t:MLit),z=(k:Int)∧l[k]? = some t∧p t=true
theorem zS0.sign {p:MLit→Bool} {l:List MLit} {z:Int} (h:zS0 p l z):decide (0≤z)=l.any p:=by
 rcases h with ⟨rfl,h⟩ | ⟨k,t,rfl,ht,hp⟩
 ·rw[h];rfl
 ·rw[zNK p l k t ht hp];simp
set_option maxHeartbeats 800000 in
set_option maxRecDepth 100000 in
theorem zL4 (F:Nat) (caps:Array Value) (p:MLit→Bool) (l:List MLit) (v:Value) (w:World) (hv:LArg w v l) (hF:zSz F caps l p w) :
 Calls Tryz.prog 223 #[v,.func (.func F) #[] caps] w fun e w'=>(∃z:Int,e=.returned (.int .i64 z)∧zS0 p l z)∧Below w.heap.size w w':=by
 obtain⟨a,c,rfl,hm,hr⟩:=hv
 have HV:Hid (∀(i:Nat) (t:MLit),l[i]? = some t→∃b off,a=some ⟨b,off,none⟩∧b<w.heap.size ∧
  w.cell? ⟨b,off+i * 3,none⟩=some (.int .i64 t.var)∧w.cell? ⟨b,off+i * 3+1,none⟩=some (.int .i64 t.op)∧w.cell? ⟨b,off+i * 3+2,none⟩=some (.int .i64 t.n)):=hr
 have HF:Hid (zSz F caps l p w):=hF
 unfold maxLen at hm
 obtain⟨hm1,hm⟩:=hm
 clear hr hF
 go_enter Tryz.func223,Tryz.ntmps223
 go_wp2_with fail
 go_loopw [8] (fun i wr=>∃m:Nat,m≤l.length∧i=.int .i64 m∧Hid ((l.take m).any p=false)∧Below w.heap.size w wr) (fun i _=>l.length - (intOf i).toNat)
 case atStart=>exact⟨0,by omega,rfl,rfl,Below.refl _ _⟩
 case round =>
  obtain⟨m,hml,rfl,hall,hbw⟩:=hrel
  by_cases hlt:m<l.length
  ·obtain⟨z,hz⟩:∃z,l[m]? = some z:=⟨l[m],by simp[hlt]⟩
   obtain⟨b,off,ha,hb,d0,d1,d2⟩:=HV.out m z hz
   have e0:=(hbw.cell (p:=⟨b,off+m * 3,none⟩) hb).trans d0
   have e1:=(hbw.cell (p:=⟨b,off+m * 3+1,none⟩) hb).trans d1
   have e2:=(hbw.cell (p:=⟨b,off+m * 3+2,none⟩) hb).trans d2
   have HZ:Hid (l[m]? = some z):=hz
   subst ha
   clear hz d0 d1 d2
   cases hq:p z
   ·have HN:Hid ((l.take (m+1)).any p=false):=zKc _ l m z HZ.out hall.out hq
    go_wp2_with fail
    rw[HF.out.1,Oper.upon_enter]
    refine (HF.out.2 z _ (List.mem_of_getElem? HZ.out) hbw).mono ?_
    rintro e w1 ⟨rfl,hb1⟩
    rw[hq]
    clear hq
    go_wp2
    go_roundw
    case rel=>exact⟨m+1,by omega,by go_num,HN,hbw.trans (hb1.mono hbw.size)⟩
    case measure=>simp[intOf];omega
   ·have HP:Hid (p z=true):=hq
    go_wp2_with fail
    rw[HF.out.1,Oper.upon_enter]
    refine (HF.out.2 z _ (List.mem_of_getElem? HZ.out) hbw).mono ?_
    rintro e w1 ⟨rfl,hb1⟩
    rw[hq]
    clear hq
    go_wp2
    go_ret
    exact⟨⟨_,rfl,Or.inr ⟨m,z,rfl,HZ.out,HP.out⟩⟩,hbw.trans (hb1.mono hbw.size)⟩
  ·have HN:Hid (l.any p=false):=zNL _ l m hlt hall.out
   go_wp2
   go_ret
   exact⟨⟨_,rfl,Or.inl ⟨rfl,HN.out⟩⟩,hbw⟩
set_option maxHeartbeats 400000 in
theorem zFV (F:Nat) (caps:Array Value) (p:MLit→Bool) (l:List MLit) (v:Value) (w:World) (hv:LArg w v l) (hF:zSz F caps l p w) :
 Calls Tryz.prog 159 #[v,.func (.func F) #[] caps] w fun e w'=>e=.returned (.bool (l.any p))∧Below w.heap.size w w':=by
 go_enter Tryz.func159,Tryz.ntmps159
 go_wp2_with fail
 refine (zL4 F caps p l v _ hv hF).mono ?_
 rintro e w1 ⟨⟨z,rfl,hz⟩,hb1⟩
 have HZ:Hid (decide (0≤z)=l.any p):=hz.sign
 clear hz
 go_wp2
 go_ret
 exact⟨zAG HZ.out,hb1⟩
theorem zOA (args:Array Value) (w':World):Sem.run Tryz.prog (callFunc 103 args) w'=.ok (.enter 103 args) w':=by
 simp[callFunc,go_sem,Tryz.func103,Tryz.f103]
theorem zL5 (args:Array Value) (w':World):Sem.run Tryz.prog (callFunc 160 args) w'=.ok (.enter 160 args) w':=by
 simp[callFunc,go_sem,Tryz.func160,Tryz.f160]
set_option maxHeartbeats 400000 in
set_option maxRecDepth 100000 in
theorem zRS (own r:List Int) (v x:Value) (b:Nat) (w:World) (hv:IArg w v own) (hx:IArg w x r) (hb:w.cell? ⟨b,0,none⟩=some v) :
 Calls Tryz.prog 103 #[x,.pointer (some ⟨b,0,none⟩)] w fun e w'=>e=.returned (.bool (decide (r=own)))∧Below w.heap.size w w':=by
 have HV:Hid (IArg w v own):=hv
 have HX:Hid (IArg w x r):=hx
 obtain⟨a,c,rfl,_,_⟩:=hv
 obtain⟨a',c',rfl,_,_⟩:=hx
 go_enter Tryz.func103,Tryz.ntmps103
 go_wp2_with fail
 refine (zPW r own _ _ _ HX.out HV.out).mono ?_
 rintro e w1 ⟨rfl,n,h1⟩
 have hb1:=zSf h1
 clear h1
 go_wp2
 go_ret
 exact⟨rfl,hb1⟩
set_option maxHeartbeats 800000 in
set_option maxRecDepth 100000 in
theorem zOB (vals:List Int) (l:MLit) (v:Value) (b:Nat) (w:World) (hv:IArg w v vals) (h0:0≤l.var) (h1:l.var<vals.length) (hb:w.cell? ⟨b,0,none⟩=some v) :
 Calls Tryz.prog 160 #[.agg #[.int .i64 l.var,.int .i64 l.op,.int .i64 l.n],.pointer (some ⟨b,0,none⟩)] w fun e w'=>e=.returned (.bool (litB vals l))∧Below w.heap.size w w':=by
 obtain⟨a,c,rfl,hm,hr⟩:=hv
 have hbl:b<w.heap.size:=World.block_lt_of_cell? w _ hb
 obtain⟨j,hj⟩:∃j:Nat,l.var=(j:Int):=⟨l.var.toNat,by omega⟩
 have hjl:j<vals.length:=by omega
 obtain⟨y,hy⟩:∃y,vals[j]? = some y:=⟨vals[j],by simp[hjl]⟩
 obtain⟨b7,off7,rfl,hb7,g7⟩:=hr j y hy
 unfold maxLen at hm
 obtain⟨hm1,hm⟩:=hm
 have HBV:Hid (litB vals l=litV y l):=by show _=_;unfold litB;rw[hj,zHU vals j y hy]
 rw[HBV.out]
 obtain⟨B,HB⟩:∃B:Bool,Hid (litV y l=B):=⟨_,rfl⟩
 rw[HB.out,hj]
 obtain⟨W,hW⟩:∃W:World,W=w.alloc (.cells #[.int .i64 (j:Int),.int .i64 l.op,.int .i64 l.n] 88):=⟨_,rfl⟩
 have HW:Hid (W=w.alloc (.cells #[.int .i64 (j:Int),.int .i64 l.op,.int .i64 l.n] 88)):=hW
 have HBW:Hid (Below w.heap.size w W):=by rw[hW];exact zAA _ _
 have HSW:Hid (W.heap.size=w.heap.size+1):=by show _=_;rw[hW];simp
 have k0:W.cell? ⟨w.heap.size,0,none⟩=some (.int .i64 (j:Int)):=by rw[hW];simp
 have k1:W.cell? ⟨w.heap.size,1,none⟩=some (.int .i64 l.op):=by rw[hW];simp
 have k2:W.cell? ⟨w.heap.size,2,none⟩=some (.int .i64 l.n):=by rw[hW];simp
 have k3:W.cell? ⟨b,0,none⟩=some (.slice (some ⟨b7,off7,none⟩) vals.length c):=by rw[hW];exact (World.cell?_alloc_past _ _ _ hbl).trans hb
 have k4:W.cell? ⟨b7,off7+j,none⟩=some (.int .i64 y):=by rw[hW];exact (World.cell?_alloc_past _ _ _ hb7).trans g7
 have HCL:Hid (∀wq:World,Below W.heap.size W wq→Calls Tryz.prog 108 #[.agg #[.int .i64 (j:Int),.int .i64 l.op,.int .i64 l.n],.int .i64 y] wq fun e w'=>e=.returned (.bool B)∧Below W.heap.size W w'):=by
  intro wq hq
  rw[←hj]
  refine (zJz l y wq).mono ?_
  rintro e w' ⟨rfl,hb⟩
  exact⟨by rw[HB.out],hq.trans (hb.mono hq.size)⟩
 clear hW hr hy hj g7 hb HBV HB h0 h1
 go_enter Tryz.func160,Tryz.ntmps160
 go_wp2
 rw[←HW.out]
 refine zGz (by kernel_rfl) (by kernel_rfl) ?_
 go_big_quiet_want
 refine⟨.agg #[.int .i64 (j:Int),.int .i64 l.op,.int .i64 l.n],fun wq hq=>?_,?_⟩
 ·have h0:=(hq.cell (p:=⟨w.heap.size,0,none⟩) (by have:=HSW.out;simp only;omega)).trans k0
  have h1:=(hq.cell (p:=⟨w.heap.size,1,none⟩) (by have:=HSW.out;simp only;omega)).trans k1
  have h2:=(hq.cell (p:=⟨w.heap.size,2,none⟩) (by have:=HSW.out;simp only;omega)).trans k2
  simp[Oper.quietAt,go_sem,h0,h1,h2]
 go_simp
 go_big_quiet_on
 go_big_quiet_want
 refine⟨.slice (some ⟨b7,off7,none⟩) vals.length c,fun wq hq=>?_,?_⟩
 ·have h0:=(hq.cell (p:=⟨b,0,none⟩) (by have:=HSW.out;simp only;omega)).trans k3
  simp[Oper.quietAt,go_sem,h0]
 go_simp
 go_big_quiet_on
 go_big_quiet_want
 go_big_quiet_op
 first | go_big_quiet_on | (refine⟨_,fun _ _=>rfl,?_⟩;go_big_quiet_on)
 go_big_quiet_want
 refine⟨.int .i64 (j:Int),fun wq hq=>?_,?_⟩
 ·have h0:=(hq.cell (p:=⟨w.heap.size,0,none⟩) (by have:=HSW.out;simp only;omega)).trans k0
  simp[Oper.quietAt,go_sem,h0]
 go_simp
 go_big_quiet_on
 go_big_quiet_want
 go_big_quiet_op
 first | go_big_quiet_on | (refine⟨_,fun _ _=>rfl,?_⟩;go_big_quiet_on)
 go_big_quiet_want
 refine⟨.int .i64 y,fun wq hq=>?_,?_⟩
 ·have h0:=(hq.cell (p:=⟨b7,off7+j,none⟩) (by have:=HSW.out;simp only;omega)).trans k4
  simp[Oper.quietAt,go_sem,h0]
 go_simp
 go_big_quiet_on
 go_big_quiet_want
 refine⟨.bool B,fun wq hq=>?_,?_⟩
 ·simp[Oper.quietAt,go_sem]
  exact HCL.out wq hq
 go_simp
 go_big_quiet_on
 go_big_quiet_want
 go_big_quiet_op
 first | go_big_quiet_on | (refine⟨_,fun _ _=>rfl,?_⟩;go_big_quiet_on)
 refine wpQuiet_nil ?_
 intro w' hw'
 have hb4:Below w.heap.size w w':=HBW.out.trans (hw'.mono HBW.out.size)
 clear hw'
 go_wp2
 go_ret
 exact⟨rfl,hb4⟩
set_option maxHeartbeats 400000 in
set_option maxRecDepth 100000 in
theorem zL6 (c:List MLit) (vals:List Int) (u v:Value) (w:World) (hu:LArg w u c) (hv:IArg w v vals) (hc:∀l∈c,0≤l.var∧l.var<(vals.length:Int)) :
 Calls Tryz.prog 106 #[u,v] w fun e w'=>e=.returned (.bool (c.any (litB vals)))∧Below w.heap.size w w':=by
 have HUA:Hid (∀w':World,Below w.heap.size w w'→LArg w' u c):=fun w' h=>LArg.below h hu
 have HVA:Hid (∀w':World,Below w.heap.size w w'→IArg w' v vals):=fun w' h=>IArg.below h hv
 have HC:Hid (∀l∈c,0≤l.var∧l.var<(vals.length:Int)):=hc
 obtain⟨a1,c1,rfl,_,_⟩:=hu
 obtain⟨a2,c2,rfl,_,_⟩:=hv
 clear hc
 go_enter Tryz.func106,Tryz.ntmps106
 go_wp2_with fail
 refine (zFV 160 _ (litB vals) c _ _ (HUA.out _ (zAA _ _)) ⟨zL5,?_⟩).mono ?_
 ·intro l w' hl hb'
  exact zOB vals l _ w.heap.size w' (HVA.out _ ((zAA _ _).trans (hb'.mono (by simp)))) (HC.out l hl).1 (HC.out l hl).2 ((hb'.cell (by simp)).trans (by simp))
 rintro e w3 ⟨rfl,hb3⟩
 have hb4:Below w.heap.size w w3:=(zAA _ _).trans (hb3.mono (by simp))
 clear hb3
 go_wp2
 go_ret
 exact⟨rfl,hb4⟩
theorem zF4 (n:Int) (c:MCon) (h:conE n c=0):(1≤c.kind∧c.kind≤10)∧zF0 c=false∧zDS c=true∧zHR c n=true∧zDT c=true∧zN4 c.lits=0:=by
 unfold conE at h
 split at h
 ·rename_i hk
  cases h1:zF0 c
  ·cases h2:zDS c
   ·rw[h1,h2] at h;simp at h
   ·cases h3:zHR c n
    ·rw[h1,h2,h3] at h;simp at h
    ·cases h4:zDT c
     ·rw[h1,h2,h3,h4] at h;simp at h
     ·rw[h1,h2,h3,h4] at h;simp at h
      exact⟨hk,rfl,rfl,rfl,rfl,h⟩
  ·rw[h1] at h;simp at h
 ·cases h
theorem zOC (vars vals:List Int) (h:∀x∈vals,-50≤x∧x≤50) (x:Int) (hx:x∈ownV vars vals):-50≤x∧x≤50:=by
 obtain⟨v,_,rfl⟩:=List.mem_map.1 hx
 unfold zAO
 rw[List.getD_eq_getElem?_getD]
 cases hq:vals[v.toNat]? with
 | none=>simp
 | some y=>exact h y (List.mem_of_getElem? hq)
theorem zRT (vars vals:List Int):(ownV vars vals).length=vars.length:=by simp[ownV]
theorem zL7 (c:MCon) (n:Int) (h:zHR c n=true):(∀x∈c.vars,0≤x∧x<n)∧∀l∈c.lits,0≤l.var∧l.var<n:=by
 unfold zHR at h
 rw[Bool.and_eq_true,List.all_eq_true,List.all_eq_true] at h
 exact⟨fun x hx=>by simpa[zBu] using h.1 x hx,fun l hl=>by simpa[zBu] using h.2 l hl⟩
theorem zPa (c:MCon) (h:zDT c=true):∀x∈c.consts,-1000≤x∧x≤1000:=by
 unfold zDT at h
 rw[Bool.and_eq_true,List.all_eq_true] at h
 exact fun x hx=>by simpa[zAT,inB] using h.1 x hx
theorem zJ0 (c:MCon) (h:zF0 c=false):c.vars.length≤4∧c.lits.length≤4∧c.consts.length≤8∧c.rows.length≤20:=by
 unfold zF0 at h
 simp at h
 omega
set_option maxHeartbeats 3200000 in
set_option maxRecDepth 100000 in
theorem zF5 (c:MCon) (vals:List Int) (vv vc vr vl v:Value) (w:World) (hk:KArg w vv vc vr vl c) (hv:IArg w v vals) (hc:conE vals.length c=0) (hb:∀x∈vals,-50≤x∧x≤50) :
 Calls Tryz.prog 54 #[conV vv vc vr vl c,v] w fun e w'=>e=.returned (.bool (zAo c vals))∧Below w.heap.size w w':=by
 obtain⟨⟨hk1,hk10⟩,hmany,hform,hvars,hconsts,hlits⟩:=zF4 _ _ hc
 obtain⟨hn4,hl4,hc8,_⟩:=zJ0 c hmany
 have HVI:Hid (∀x∈c.vars,0≤x∧x<(vals.length:Int)):=(zL7 c _ hvars).1
 have HLI:Hid (∀l∈c.lits,0≤l.var∧l.var<(vals.length:Int)):=(zL7 c _ hvars).2
 have HCI:Hid (∀x∈c.consts,-1000≤x∧x≤1000):=zPa c hconsts
 have HOB:Hid (∀x∈ownV c.vars vals,-50≤x∧x≤50):=zOC c.vars vals hb
 have HKA:Hid (∀w':World,Below w.heap.size w w'→KArg w' vv vc vr vl c):=fun w' h=>KArg.below h hk
 have HVA:Hid (∀w':World,Below w.heap.size w w'→IArg w' v vals):=fun w' h=>IArg.below h hv
 have HFO:Hid (zDS c=true):=hform
 obtain⟨⟨a1,c1,rfl,_,_⟩,⟨a2,c2,rfl,hm2,_⟩,⟨a3,c3,rfl,_,_⟩,⟨a4,c4,rfl,hm4,_⟩⟩:=hk
 obtain⟨a5,c5,rfl,_,_⟩:=hv
 unfold maxLen at hm2 hm4
 obtain⟨hm21,hm2⟩:=hm2
 obtain⟨hm41,hm4⟩:=hm4
 obtain⟨R,hR⟩:∃R,zAo c vals=R:=⟨_,rfl⟩
 rw[hR]
 have HR:Hid (zAo c vals=R):=hR
 unfold conV
 clear hR hc hb hmany hform hvars hconsts hlits
 go_enter Tryz.func54,Tryz.ntmps54
 go_wp2_with fail
 refine (zPS c.vars vals _ _ _ ?_ ?_ hn4 HVI.out).mono ?_
 ·exact (HKA.out _ (zAA _ _)).1
 ·exact HVA.out _ (zAA _ _)
 rintro e w1 ⟨x,rfl,hx,hb1⟩
 have d0:w1.cell? ⟨w.heap.size,0,none⟩=some (.int .i64 c.kind):=(hb1.cell (by simp)).trans (by simp)
 have d2:w1.cell? ⟨w.heap.size,2,none⟩=some (.slice a2 c.consts.length c2):=(hb1.cell (by simp)).trans (by simp)
 have d3:w1.cell? ⟨w.heap.size,3,none⟩=some (.int .i64 c.n):=(hb1.cell (by simp)).trans (by simp)
 have d4:w1.cell? ⟨w.heap.size,4,none⟩=some (.slice a3 c.rows.length c3):=(hb1.cell (by simp)).trans (by simp)
 have d5:w1.cell? ⟨w.heap.size,5,none⟩=some (.slice a4 c.lits.length c4):=(hb1.cell (by simp)).trans (by simp)
 have hs1:w.heap.size+1≤w1.heap.size:=by simpa using hb1.size
 have HB1:Hid (Below w.heap.size w w1):=(zAA _ _).trans (hb1.mono (by simp))
 have HX:Hid (∀w':World,Below w1.heap.size w1 w'→IArg w' x (ownV c.vars vals)):=fun w' h=>IArg.below h hx
 obtain⟨own,HOWN⟩:∃own,Hid (ownV c.vars vals=own):=⟨_,rfl⟩
 have HOL:Hid (own.length=c.vars.length):=by rw[←HOWN.out];exact zRT _ _
 rw[HOWN.out] at HX HOB hx
 obtain⟨a6,c6,rfl,hm6,h6⟩:=hx
 unfold maxLen at hm6
 obtain⟨hm61,hm6⟩:=hm6
 have H6:Hid (∀(i:Nat) (z:Int),own[i]? = some z→∃b off,a6=some ⟨b,off,none⟩∧b<w1.heap.size∧w1.cell? ⟨b,off+i,none⟩=some (.int .i64 z)):=h6
 clear hb1 h6
 have hl0:w.heap.size<w1.heap.size:=by omega
 have HB2:Hid (Below w.heap.size w (w1.alloc (.cells #[.slice a6 own.length c6] 26))):=HB1.out.trans ((zAA _ _).mono (by omega))
 obtain⟨kd,hkd⟩:∃kd,c.kind=kd:=⟨_,rfl⟩
 have HKD:Hid (c.kind=kd):=hkd
 rw[hkd] at d0 hk1 hk10
 clear hkd hs1
 have HN:Hid (R=true∨R=false):=by cases R <;> simp[Hid]
 have hcases:kd=1∨kd=2∨kd=3∨kd=4∨kd=5∨kd=6∨kd=7∨kd=8∨kd=9∨kd=10:=by omega
 clear hk1 hk10
 rcases hcases with rfl | rfl | rfl | rfl | rfl | rfl | rfl | rfl | rfl | rfl
 ·
  have HL:Hid (c.consts.length=own.length):=by
   have h:=HFO.out
   unfold zDS at h
   rw[HKD.out] at h
   simp at h
   exact h.2.1.trans HOL.out.symm
  have HE:Hid (R=decide (sumV c.consts own≤c.n)):=by rw[←HR.out,←HOWN.out];unfold zAo;rw[HKD.out];rfl
  have HS:Hid (∀n,Calls Tryz.prog 100 #[.slice a2 c.consts.length c2,.slice a6 own.length c6] ((w1.alloc (.cells #[.slice a6 own.length c6] 26)).drewN n) fun e w'=>e=.returned (.int .i64 (sumV c.consts own))∧∃k,w'=(w1.alloc (.cells #[.slice a6 own.length c6] 26)).drewN k):=by
   intro n
   refine (zL2 c.consts own _ _ _ ((HKA.out _ (below_drewN HB2.out n)).2.1) (HX.out _ (below_drewN (zAA _ _) n)) HL.out hc8 HCI.out HOB.out).mono ?_
   rintro e w' ⟨rfl,rfl⟩
   exact⟨rfl,n,rfl⟩
  go_wp2
  go_quiet ((go_at_call 100;exact HS.out _))
  go_wp2
  go_ret
  exact⟨zAG HE.out.symm,below_drewN HB2.out _⟩
 ·
  have HL:Hid (c.consts.length=own.length):=by
   have h:=HFO.out
   unfold zDS at h
   rw[HKD.out] at h
   simp at h
   exact h.2.1.trans HOL.out.symm
  have HE:Hid (R=(sumV c.consts own==c.n)):=by rw[←HR.out,←HOWN.out];unfold zAo;rw[HKD.out];rfl
  have HS:Hid (∀n,Calls Tryz.prog 100 #[.slice a2 c.consts.length c2,.slice a6 own.length c6] ((w1.alloc (.cells #[.slice a6 own.length c6] 26)).drewN n) fun e w'=>e=.returned (.int .i64 (sumV c.consts own))∧∃k,w'=(w1.alloc (.cells #[.slice a6 own.length c6] 26)).drewN k):=by
   intro n
   refine (zL2 c.consts own _ _ _ ((HKA.out _ (below_drewN HB2.out n)).2.1) (HX.out _ (below_drewN (zAA _ _) n)) HL.out hc8 HCI.out HOB.out).mono ?_
   rintro e w' ⟨rfl,rfl⟩
   exact⟨rfl,n,rfl⟩
  go_wp2
  go_quiet ((go_at_call 100;exact HS.out _))
  go_wp2
  go_ret
  exact⟨zAG HE.out.symm,below_drewN HB2.out _⟩
 ·
  have HL:Hid (c.consts.length=own.length):=by
   have h:=HFO.out
   unfold zDS at h
   rw[HKD.out] at h
   simp at h
   exact h.2.1.trans HOL.out.symm
  have HE:Hid (R=(sumV c.consts own != c.n)):=by rw[←HR.out,←HOWN.out];unfold zAo;rw[HKD.out];rfl
  have HS:Hid (∀n,Calls Tryz.prog 100 #[.slice a2 c.consts.length c2,.slice a6 own.length c6] ((w1.alloc (.cells #[.slice a6 own.length c6] 26)).drewN n) fun e w'=>e=.returned (.int .i64 (sumV c.consts own))∧∃k,w'=(w1.alloc (.cells #[.slice a6 own.length c6] 26)).drewN k):=by
   intro n
   refine (zL2 c.consts own _ _ _ ((HKA.out _ (below_drewN HB2.out n)).2.1) (HX.out _ (below_drewN (zAA _ _) n)) HL.out hc8 HCI.out HOB.out).mono ?_
   rintro e w' ⟨rfl,rfl⟩
   exact⟨rfl,n,rfl⟩
  go_wp2
  go_quiet ((go_at_call 100;exact HS.out _))
  go_wp2
  go_ret
  exact⟨zAG HE.out.symm,below_drewN HB2.out _⟩
 ·
  have HE:Hid (R=decide own.Nodup):=by rw[←HR.out,←HOWN.out];unfold zAo;rw[HKD.out];rfl
  have ho4:own.length≤4:=by have:=HOL.out;omega
  go_wp2_with fail
  refine (zN9 own _ _ (HX.out _ (zAA _ _)) ho4 HOB.out).mono ?_
  rintro e w3 ⟨rfl,hb3⟩
  have hb4:Below w.heap.size w w3:=HB2.out.trans (hb3.mono (by simp;omega))
  clear hb3
  go_wp2
  go_ret
  exact⟨zAG HE.out.symm,hb4⟩
 ·
  have HL:Hid (own.length=2):=by
   have h:=HFO.out
   unfold zDS at h
   rw[HKD.out] at h
   simp at h
   exact HOL.out.trans h.2.1
  obtain⟨p,q,rfl⟩:∃p q,own=[p,q]:=by
   match own,HL.out with
   | [p,q],_=>exact⟨p,q,rfl⟩
  obtain⟨b,off,rfl,hb,e0⟩:=H6.out 0 p rfl
  obtain⟨b',off',hab,hb',e1⟩:=H6.out 1 q rfl
  cases hab
  rw[Nat.add_zero] at e0
  have HE:Hid (R=(decide (0≤p)&&(decide (p<c.consts.length)&&(c.consts.getD p.toNat 0==q)))):=by rw[←HR.out];unfold zAo;rw[HKD.out,HOWN.out];rfl
  by_cases q1:0≤p
  ·obtain⟨j,rfl⟩:∃j:Nat,p=(j:Int):=⟨p.toNat,by omega⟩
   by_cases q2:j<c.consts.length
   ·obtain⟨y,hy⟩:∃y,c.consts[j]? = some y:=⟨c.consts[j],by simp[q2]⟩
    obtain⟨a2',c2',hva,_,hrc⟩:=(HKA.out _ HB1.out).2.1
    obtain⟨b2,off2,hax,hb2,e2⟩:=hrc j y hy
    have ha2:a2=some ⟨b2,off2,none⟩:=by cases hva;exact hax
    subst ha2
    have HE2:Hid (R=(y==q)):=by
     show _=_
     rw[HE.out,decide_eq_true q1,decide_eq_true (show (j:Int)<c.consts.length by omega),Int.toNat_natCast,List.getD_eq_getElem?_getD,hy];rfl
    have q2':(j:Int)<(c.consts.length:Int):=by omega
    clear hy hva hrc hax
    go_wp2
    go_quiet (fail)
    go_wp2
    go_ret
    exact⟨zAG HE2.out.symm,below_drewN HB2.out _⟩
   ·have HE2:Hid (R=false):=by
     show _=_
     rw[HE.out,decide_eq_true q1,decide_eq_false (show ¬(j:Int)<c.consts.length by omega)];rfl
    have q3:decide (j<c.consts.length)=false:=decide_eq_false q2
    have q4:decide ((j:Int)<(c.consts.length:Int))=false:=decide_eq_false (by omega)
    clear q2
    go_wp2
    go_quiet (fail)
    go_wp2
    go_ret
    exact⟨zAG HE2.out.symm,below_drewN HB2.out _⟩
  ·have HE2:Hid (R=false):=by
    show _=_
    rw[HE.out,decide_eq_false q1];rfl
   have q3:decide (0≤p)=false:=decide_eq_false q1
   go_wp2
   go_quiet (fail)
   go_wp2
   go_ret
   exact⟨zAG HE2.out.symm,below_drewN HB2.out _⟩
 ·
  have HE:Hid (R=c.rows.any fun r=>decide (r=own)):=by rw[←HR.out,←HOWN.out];unfold zAo;rw[HKD.out];rfl
  go_wp2_with fail
  refine (zIX 103 _ (fun r=>decide (r=own)) c.rows _ _ ((HKA.out _ HB2.out).2.2.1) ⟨zOA,?_⟩).mono ?_
  ·intro r x w' hb' hx'
   exact zRS own r _ x w1.heap.size w' (HX.out _ ((zAA _ _).trans (hb'.mono (by simp)))) hx' ((hb'.cell (by simp)).trans (by simp))
  rintro e w3 ⟨rfl,hb3⟩
  have hb4:Below w.heap.size w w3:=HB2.out.trans (hb3.mono (by simp;omega))
  clear hb3
  go_wp2
  go_ret
  exact⟨zAG HE.out.symm,hb4⟩
 ·
  have HL:Hid (own.length=3):=by
   have h:=HFO.out
   unfold zDS at h
   rw[HKD.out] at h
   simp at h
   exact HOL.out.trans h.2.1
  obtain⟨p,q,r,rfl⟩:∃p q r,own=[p,q,r]:=by
   match own,HL.out with
   | [p,q,r],_=>exact⟨p,q,r,rfl⟩
  obtain⟨b,off,rfl,hb,e0⟩:=H6.out 0 p rfl
  obtain⟨b',off',hab,hb',e1⟩:=H6.out 1 q rfl
  cases hab
  obtain⟨b',off',hab,hb',e2⟩:=H6.out 2 r rfl
  cases hab
  rw[Nat.add_zero] at e0
  have HE:Hid (R=(p * q==r)):=by rw[←HR.out];unfold zAo;rw[HKD.out,HOWN.out];rfl
  obtain⟨g1,g2⟩:=zKb p q (by have:=HOB.out p (by simp);omega) (by have:=HOB.out p (by simp);omega) (HOB.out q (by simp)).1 (HOB.out q (by simp)).2
  go_wp2
  go_quiet (fail)
  go_wp2
  go_ret
  exact⟨zAG HE.out.symm,below_drewN HB2.out _⟩
 ·
  have HL:Hid (2≤own.length):=by
   have h:=HFO.out
   unfold zDS at h
   rw[HKD.out] at h
   simp at h
   have:=HOL.out
   show 2≤_
   omega
  obtain⟨p,q,r,rfl⟩:∃p q r,own=p :: q :: r:=by
   match own,HL.out with
   | p :: q :: r,_=>exact⟨p,q,r,rfl⟩
  obtain⟨b,off,rfl,hb,e0⟩:=H6.out 0 p rfl
  rw[Nat.add_zero] at e0
  have HE:Hid (R=(p==r.foldl max q)):=by rw[←HR.out];unfold zAo;rw[HKD.out,HOWN.out];rfl
  obtain⟨n,hn⟩:∃n,(p :: q :: r).length=n:=⟨_,rfl⟩
  have hn2:2≤n:=by rw[←hn];simp
  have HT:Hid (IArg w1 (.slice (some ⟨b,off+1,none⟩) (n - 1) (c6 - 1)) (q :: r)):=by
   refine⟨_,_,by rw[←hn];rfl,⟨by rw[←hn] at *;simp at *;omega,by unfold maxLen;omega⟩,fun i z hz=>?_⟩
   obtain⟨b',off',hab,hb',e1⟩:=H6.out (i+1) z (by simpa using hz)
   cases hab
   exact⟨b,off+1,rfl,hb,by rw[Nat.add_assoc,Nat.add_comm 1 i];exact e1⟩
  rw[hn] at hm61 HB2 ⊢
  clear hn
  go_wp2
  go_quiet ((go_at_call 105;exact (zSx q r _ _ (IArg.below (below_drewN (zAA _ _) _) HT.out)).mono (fun _ _ h=>⟨h.1,_,h.2⟩)))
  go_wp2
  go_ret
  exact⟨zAG HE.out.symm,below_drewN HB2.out _⟩
 ·
  have HE:Hid (R=c.lits.any (litB vals)):=by rw[←HR.out];unfold zAo;rw[HKD.out];rfl
  go_wp2_with fail
  refine (zL6 c.lits vals _ _ _ ((HKA.out _ HB2.out).2.2.2) (HVA.out _ HB2.out) HLI.out).mono ?_
  rintro e w3 ⟨rfl,hb3⟩
  have hb4:Below w.heap.size w w3:=HB2.out.trans (hb3.mono (by simp;omega))
  clear hb3
  go_wp2
  go_ret
  exact⟨zAG HE.out.symm,hb4⟩
 ·
  have HFF:Hid (own.length=1∧c.lits.length=1):=by
   have h:=HFO.out
   unfold zDS at h
   rw[HKD.out] at h
   simp at h
   exact⟨HOL.out.trans h.2.1,h.2.2.1⟩
  obtain⟨p,rfl⟩:∃p,own=[p]:=by
   match own,HFF.out.1 with
   | [p],_=>exact⟨p,rfl⟩
  obtain⟨l,hl⟩:∃l,c.lits=[l]:=by
   match c.lits,HFF.out.2 with
   | [l],_=>exact⟨l,rfl⟩
  obtain⟨b,off,rfl,hb,e0⟩:=H6.out 0 p rfl
  rw[Nat.add_zero] at e0
  have HE:Hid (R=(p==(if litB vals l then 1 else 0))):=by rw[←HR.out];unfold zAo;rw[HKD.out,HOWN.out,hl];rfl
  obtain⟨a2',c2',hva,_,hrc⟩:=(HKA.out _ HB1.out).2.2.2
  obtain⟨b2,off2,hax,hb2,g0,g1,g2⟩:=hrc 0 l (by rw[hl];rfl)
  have ha2:a4=some ⟨b2,off2,none⟩:=by cases hva;exact hax
  subst ha2
  simp only[Nat.zero_mul,Nat.add_zero] at g0 g1 g2
  have HLL:=HLI.out l (by rw[hl];simp)
  have hlen:c.lits.length=1:=by rw[hl];rfl
  obtain⟨j,hj⟩:∃j:Nat,l.var=(j:Int):=⟨l.var.toNat,by omega⟩
  have hjl:j<vals.length:=by omega
  obtain⟨y,hy⟩:∃y,vals[j]? = some y:=⟨vals[j],by simp[hjl]⟩
  obtain⟨a7,c7,hva7,hm7,hrc7⟩:=HVA.out _ HB1.out
  obtain⟨b7,off7,hax7,hb7,g7⟩:=hrc7 j y hy
  have ha5:a5=some ⟨b7,off7,none⟩:=by cases hva7;exact hax7
  have hm75:vals.length≤c5∧c5≤maxLen:=by cases hva7;exact hm7
  unfold maxLen at hm75
  obtain⟨hm71,hm72⟩:=hm75
  subst ha5
  obtain⟨B,HB⟩:∃B:Bool,Hid (litB vals l=B):=⟨_,rfl⟩
  rw[HB.out] at HE
  have HBV:Hid (litV y l=B):=by
   have h:=HB.out
   unfold litB at h
   rwa [hj,zHU vals j y hy] at h
  obtain⟨N,hN⟩:∃N:Int,(if B then (1:Int) else 0)=N:=⟨_,rfl⟩
  have HOI:Hid (∀W':World,Calls Tryz.prog 107 #[.bool B] W' fun e w'=>e=.returned (.int .i64 N)∧w'=W'):=by
   intro W';rw[←hN];exact zPQ B W'
  rw[hN] at HE
  clear hN
  obtain⟨W,hW⟩:∃W:World,W=w1.alloc (.cells #[.slice (some ⟨b,off,none⟩) 1 c6] 26):=⟨_,rfl⟩
  have HW:Hid (W=w1.alloc (.cells #[.slice (some ⟨b,off,none⟩) 1 c6] 26)):=hW
  have HB2W:Hid (Below w.heap.size w W):=by rw[hW];exact HB2.out
  have HCL:Hid (∀wq:World,Below W.heap.size W wq→Calls Tryz.prog 108 #[.agg #[.int .i64 (j:Int),.int .i64 l.op,.int .i64 l.n],.int .i64 y] wq fun e w'=>e=.returned (.bool B)∧Below W.heap.size W w'):=by
   intro wq hq
   rw[←hj]
   refine (zJz l y wq).mono ?_
   rintro e w' ⟨rfl,hb⟩
   exact⟨by rw[HBV.out],hq.trans (hb.mono hq.size)⟩
  have k0:W.cell? ⟨w1.heap.size,0,none⟩=some (.slice (some ⟨b,off,none⟩) 1 c6):=by rw[hW];simp
  have k1:W.cell? ⟨b,off,none⟩=some (.int .i64 p):=by rw[hW];exact (World.cell?_alloc_past _ _ _ hb).trans e0
  have k2:W.cell? ⟨w.heap.size,5,none⟩=some (.slice (some ⟨b2,off2,none⟩) 1 c4):=by rw[hW,←hlen];exact (World.cell?_alloc_past _ _ _ hl0).trans d5
  have k3:W.cell? ⟨b2,off2,none⟩=some (.int .i64 (j:Int)):=by rw[hW,←hj];exact (World.cell?_alloc_past _ _ _ hb2).trans g0
  have k4:W.cell? ⟨b2,off2+1,none⟩=some (.int .i64 l.op):=by rw[hW];exact (World.cell?_alloc_past _ _ _ hb2).trans g1
  have k5:W.cell? ⟨b2,off2+2,none⟩=some (.int .i64 l.n):=by rw[hW];exact (World.cell?_alloc_past _ _ _ hb2).trans g2
  have k7:W.cell? ⟨b7,off7+j,none⟩=some (.int .i64 y):=by rw[hW];exact (World.cell?_alloc_past _ _ _ hb7).trans g7
  have hsW:W.heap.size=w1.heap.size+1:=by rw[hW];simp
  have HSW:Hid (W.heap.size=w1.heap.size+1):=hsW
  clear hW hsW hva hrc hax hl hva7 hrc7 hax7 hm7 hy hj
  go_wp2
  rw[←HW.out]
  clear d0 d2 d3 d4 d5 e0 g0 g1 g2 g7 H6 HX HKA HVA HVI HLI HCI HOB HFO HFF HOL HOWN HLL HR HKD HB1 hm21 hm41 hm2 hm4 hm61 hm6
  refine zGz (by kernel_rfl) (by kernel_rfl) ?_
  go_big_quiet_want
  refine⟨.slice (some ⟨b,off,none⟩) 1 c6,fun wq hq=>?_,?_⟩
  ·have h0:=(hq.cell (p:=⟨w1.heap.size,0,none⟩) (by have:=HSW.out;simp only;omega)).trans k0
   simp[Oper.quietAt,go_sem,h0]
  go_simp
  go_big_quiet_on
  go_big_quiet_want
  go_big_quiet_op
  first | go_big_quiet_on | (refine⟨_,fun _ _=>rfl,?_⟩;go_big_quiet_on)
  go_big_quiet_want
  refine⟨.int .i64 p,fun wq hq=>?_,?_⟩
  ·have h0:=(hq.cell (p:=⟨b,off,none⟩) (by have:=HSW.out;simp only;omega)).trans k1
   simp[Oper.quietAt,go_sem,h0]
  go_simp
  go_big_quiet_on
  go_big_quiet_want
  go_big_quiet_op
  first | go_big_quiet_on | (refine⟨_,fun _ _=>rfl,?_⟩;go_big_quiet_on)
  go_big_quiet_want
  refine⟨.slice (some ⟨b2,off2,none⟩) 1 c4,fun wq hq=>?_,?_⟩
  ·have h0:=(hq.cell (p:=⟨w.heap.size,5,none⟩) (by have:=HSW.out;simp only;omega)).trans k2
   simp[Oper.quietAt,go_sem,h0]
  go_simp
  go_big_quiet_on
  go_big_quiet_want
  go_big_quiet_op
  first | go_big_quiet_on | (refine⟨_,fun _ _=>rfl,?_⟩;go_big_quiet_on)
  go_big_quiet_want
  refine⟨.agg #[.int .i64 (j:Int),.int .i64 l.op,.int .i64 l.n],fun wq hq=>?_,?_⟩
  ·have h0:=(hq.cell (p:=⟨b2,off2,none⟩) (by have:=HSW.out;simp only;omega)).trans k3
   have h1:=(hq.cell (p:=⟨b2,off2+1,none⟩) (by have:=HSW.out;simp only;omega)).trans k4
   have h2:=(hq.cell (p:=⟨b2,off2+2,none⟩) (by have:=HSW.out;simp only;omega)).trans k5
   simp[Oper.quietAt,go_sem,h0,h1,h2]
  go_simp
  go_big_quiet_on
  go_big_quiet_want
  go_big_quiet_op
  first | go_big_quiet_on | (refine⟨_,fun _ _=>rfl,?_⟩;go_big_quiet_on)
  go_big_quiet_want
  go_big_quiet_op
  first | go_big_quiet_on | (refine⟨_,fun _ _=>rfl,?_⟩;go_big_quiet_on)
  go_big_quiet_want
  refine⟨.slice (some ⟨b2,off2,none⟩) 1 c4,fun wq hq=>?_,?_⟩
  ·have h0:=(hq.cell (p:=⟨w.heap.size,5,none⟩) (by have:=HSW.out;simp only;omega)).trans k2
   simp[Oper.quietAt,go_sem,h0]
  go_simp
  go_big_quiet_on
  go_big_quiet_want
  go_big_quiet_op
  first | go_big_quiet_on | (refine⟨_,fun _ _=>rfl,?_⟩;go_big_quiet_on)
  go_big_quiet_want
  go_big_quiet_op
  first | go_big_quiet_on | (refine⟨_,fun _ _=>rfl,?_⟩;go_big_quiet_on)
  go_big_quiet_want
  refine⟨.int .i64 (j:Int),fun wq hq=>?_,?_⟩
  ·have h0:=(hq.cell (p:=⟨b2,off2,none⟩) (by have:=HSW.out;simp only;omega)).trans k3
   simp[Oper.quietAt,go_sem,h0]
  go_simp
  go_big_quiet_on
  go_big_quiet_want
  go_big_quiet_op
  first | go_big_quiet_on | (refine⟨_,fun _ _=>rfl,?_⟩;go_big_quiet_on)
  go_big_quiet_want
  refine⟨.int .i64 y,fun wq hq=>?_,?_⟩
  ·have h0:=(hq.cell (p:=⟨b7,off7+j,none⟩) (by have:=HSW.out;simp only;omega)).trans k7
   simp[Oper.quietAt,go_sem,h0]
  go_simp
  go_big_quiet_on
  go_big_quiet_want
  refine⟨.bool B,fun wq hq=>?_,?_⟩
  ·simp[Oper.quietAt,go_sem]
   exact HCL.out wq hq
  go_simp
  go_big_quiet_on
  go_big_quiet_want
  refine⟨.int .i64 N,fun wq hq=>?_,?_⟩
  ·simp[Oper.quietAt,go_sem]
   exact (HOI.out wq).mono (fun e w' h=>⟨h.1,by rw[h.2];exact hq⟩)
  go_simp
  go_big_quiet_on
  go_big_quiet_want
  go_big_quiet_op
  first | go_big_quiet_on | (refine⟨_,fun _ _=>rfl,?_⟩;go_big_quiet_on)
  go_big_quiet_want
  go_big_quiet_op
  first | go_big_quiet_on | (refine⟨_,fun _ _=>rfl,?_⟩;go_big_quiet_on)
  refine wpQuiet_nil ?_
  intro w' hw'
  have hb4:Below w.heap.size w w':=HB2W.out.trans (hw'.mono HB2W.out.size)
  clear hw'
  go_wp2
  go_ret
  exact⟨zAG HE.out.symm,hb4⟩
end Go.Proofs.YtdjbejlbmaiocagGreatDoor
