/- What the proof leans on, part 6. -/
import Derived.Test.YtdjbejlbmaiocagGreatDoorPartAe
import Derived.Maps.OwnSet
import Derived.Maps.AppendAt
import Derived.WalkKit
import Derived.BigQuiet
set_option maxRecDepth 100000
set_option maxHeartbeats 1600000
namespace Go.Proofs.YtdjbejlbmaiocagGreatDoor
open Go.RowKit Go.Maps
theorem Tryz.intKey:Keyed Tryz.prog 3:=int_keyed Tryz.underlying3
theorem Tryz.zeroUnit (w:World):(zeroValue 211).run Tryz.prog w=.ok (.agg #[]) w:=by kernel_rfl
def setD {H:Type} (l:List Int):DataW H:=setOf (.agg []) (l.map (Lit.int .i64))
theorem zPi (x:Int):∀l:List Int,l.any ((fun y:Lit=>y.sameKey (.int .i64 x)) ∘ Lit.int .i64)=l.contains x
 | []=>rfl
 | a :: r=>by
   rw[List.any_cons,List.contains_cons,zPi x r]
   congr 1
   show decide (IntKind.i64=IntKind.i64∧a=x)=(x==a);by_cases e:a=x
   ·subst e
    simp
   ·have e':¬x=a:=fun h=>e h.symm
    simp[e,e']
theorem zNf {H:Type} (l:List Int) (x:Int):Maps.has (setD (H:=H) l) (.int .i64 x)=l.contains x:=by
 unfold setD;rw[has_setOf _ _ _ (fun y hy=>by obtain⟨_,_,rfl⟩:=List.mem_map.1 hy;trivial),List.any_map]
 exact zPi x _
theorem zPj {H:Type} (l:List Int) (x:Int):setD (H:=H) (l++[x])=(setD l).put (.int .i64 x) (.agg []):=by
 unfold setD;rw[List.map_append];exact setOf_snoc _ _ _
theorem zOO (l:List Int) (k:Nat) (x:Int) (hx:l[k]? = some x) (h:(l.take k).Nodup) (hc:(l.take k).contains x=false):(l.take (k+1)).Nodup:=by
 rw[List.take_add_one,hx];rw[List.nodup_append];refine⟨h,by simp,fun a ha b hb=>?_⟩
 simp at hb;subst hb;intro e;subst e;have:(l.take k).contains a=true:=by simpa using ha
 rw[hc] at this;cases this
theorem zPk (l:List Int) (k:Nat) (x:Int) (hx:l[k]? = some x) (hc:(l.take k).contains x=true):¬l.Nodup:=by
 intro hn;have hk:k<l.length:=(List.getElem?_eq_some_iff.1 hx).1;have h1:x∈l.take k:=by simpa using hc
 have h2:x∈l.drop k:=by rw[List.drop_eq_getElem_cons hk];have:l[k]=x:=by simpa[hk] using hx
                        rw[this];exact List.mem_cons_self ..
 have h3:=hn;rw[←List.take_append_drop k l,List.nodup_append] at h3;exact h3.2.2 x h1 x h2 rfl
theorem zOP (l:List Int) (v:Value) (w:World) (hv:IArg w v l) (hn:l.length≤4) (hb0:∀x∈l,-50≤x∧x≤50) :
 Calls Tryz.prog 101 #[v] w fun e w'=>e=.returned (.bool (decide l.Nodup))∧Below w.heap.size w w':=by
 obtain⟨a,c,rfl,hm,hr⟩:=hv;have HV:Hid (∀(i:Nat) (z:Int),l[i]? = some z→∃b off,a=some ⟨b,off,none⟩∧b<w.heap.size∧w.cell? ⟨b,off+i,none⟩=some (.int .i64 z)):=hr;have HB:Hid (∀x∈l,-50≤x∧x≤50):=hb0;obtain⟨R,hR⟩:∃R,decide l.Nodup=R:=⟨_,rfl⟩;rw[hR];have HR:Hid (decide l.Nodup=R):=hR;unfold maxLen at hm;obtain⟨hm1,hm⟩:=hm;clear hr hR hb0;have hmm:=@run_makeMap Tryz.prog;go_enter Tryz.func101,Tryz.ntmps101
 go_wp2_with fail
 clear hmm;go_loopw [11] (fun i wr=>∃k:Nat,k≤l.length∧i=.int .i64 k∧wr.ownsMap Tryz.prog 3 unitElem w.heap.size k (setD (H:=Unit) (l.take k))∧Hid ((l.take k).Nodup)∧Below w.heap.size w wr∧w.heap.size+1≤wr.heap.size) (fun i _=>l.length - (intOf i).toNat)
 case atStart=>exact⟨0,by omega,rfl,World.ownsMap_made _ _ _ _,by show List.Nodup _;simp,(Below.refl _ _).alloc (Nat.le_refl _) _,by simp⟩
 case round =>
  obtain⟨k,hk,rfl,hown,hnd,hbw,hws⟩:=hrel;by_cases hlt:k<l.length
  ·obtain⟨x,hx⟩:∃x,l[k]? = some x:=⟨l[k],by simp[hlt]⟩
   obtain⟨b,off,rfl,hb,hc⟩:=HV.out k x hx;have e1:=(hbw.cell (p:=⟨b,off+k,none⟩) hb).trans hc;have hxb:=HB.out x (List.mem_of_getElem? hx);have hkey:keyOf Tryz.prog 3 (.int .i64 x)=some (.int .i64 x):=keyOf_int_mk Tryz.underlying3 (WalkArith.wf_i64 (by omega))
   have HX:Hid (l[k]? = some x):=hx;clear hx hc hb;cases hq:(l.take k).contains x
   ·have HN:Hid ((l.take (k+1)).Nodup):=zOO l k x HX.out hnd.out hq
    have HD:Hid (setD (H:=Unit) (l.take (k+1))=(setD (l.take k)).put (.int .i64 x) (.agg [])):=by
     show _=_;rw[List.take_add_one,HX.out];exact zPj _ _
    have hh:Maps.has (setD (H:=Unit) (l.take k)) (.int .i64 x)=false:=by rw[zNf];exact hq
    clear hq;go_wp2_with (first
     | (at_lookup;refine wpList_lookup_own_unit _ rfl _ _ 210 rfl 3 211 Tryz.intKey Tryz.underlying210 (Tryz.zeroUnit _) w.heap.size k _ rfl hown _ _ rfl hkey ?_)
     | (at_mapUpdate;refine wpList_mapUpdate_own _ rfl _ _ _ 210 rfl 3 211 Tryz.intKey Tryz.underlying210 (unitElem (H:=Unit)) w.heap.size k _ rfl (hown.alloc _) (by unfold maxLen;omega) _ _ _ rfl rfl hkey _ [] unitElem_mk ?_;intro w1 hown1 hgrow1)
     | go_in)
    have s1:=hgrow1.size;simp at s1;go_roundw
    case rel=>exact⟨k+1,by omega,by go_num,by rw[HD.out];exact hown1,HN,(hbw.alloc hbw.size _).grown hgrow1 (by simp;omega) (fun j hj=>by cases hj;exact Nat.le_refl _),by omega⟩
    case measure=>simp[intOf];omega
   ·have HN:Hid (R=false):=by rw[←HR.out];exact decide_eq_false (zPk l k x HX.out hq)
    have hh:Maps.has (setD (H:=Unit) (l.take k)) (.int .i64 x)=true:=by rw[zNf];exact hq
    clear hq;go_wp2_with (first
     | (at_lookup;refine wpList_lookup_own_unit _ rfl _ _ 210 rfl 3 211 Tryz.intKey Tryz.underlying210 (Tryz.zeroUnit _) w.heap.size k _ rfl hown _ _ rfl hkey ?_)
     | go_in)
    go_ret
    exact⟨zAC HN.out.symm,hbw.alloc hbw.size _⟩
  ·have HN:Hid (R=true):=by
    have:=hnd.out;rw[List.take_of_length_le (by omega)] at this;rw[←HR.out];exact decide_eq_true this
   go_wp2
   go_ret
   exact⟨zAC HN.out.symm,hbw⟩
open Go.RowKit
theorem zHG {P:Program} {id:Nat} {Q:Exit→Act→World→Prop} {a:Act} {W:World} {l:List Oper} (hm:P.follows .mixedOrders=true) (hB:Region.lexB .any l.toArray=true)
 (h:wpQuiet P l.toArray (fun w'=>Below W.heap.size W w') (fun a'=>∀w',Below W.heap.size W w'→Q .normal a' w') l a):(Code.region id l.toArray true).wp P Q a W :=
 wp_region_quiet (C:=fun w'=>Below W.heap.size W w') hm hB ⟨rfl,rfl,rfl,Nat.le_refl _,fun _ _=>rfl⟩ (by simpa using h)
theorem zT5 {w w':World} {n:Nat} (h:w'=w.drewN n):Below w.heap.size w w':=by rw[h];exact below_drewN (Below.refl _ _) _
def zTM (F:Nat) (c1:Value) (p:List Int→Bool) (w:World):Prop :=
 (∀(args:Array Value) (w':World),Sem.run Tryz.prog (callFunc F args) w'=.ok (.enter F args) w') ∧
 ∀(r:List Int) (x:Value) (w':World),Below w.heap.size w w'→IArg w' x r→Calls Tryz.prog F #[x,c1] w' fun e w''=>e=.returned (.bool (p r))∧Below w'.heap.size w' w''
def zTN (F:Nat) (caps:Array Value) (ls:List MLit) (p:MLit→Bool) (w:World):Prop :=
 (∀(args:Array Value) (w':World),Sem.run Tryz.prog (callFunc F args) w'=.ok (.enter F args) w') ∧
 ∀(l:MLit) (w':World),l∈ls→Below w.heap.size w w'→Calls Tryz.prog F (#[.agg #[.int .i64 l.var,.int .i64 l.op,.int .i64 l.n]]++caps) w' fun e w''=>e=.returned (.bool (p l))∧Below w'.heap.size w' w''
theorem zNg {α:Type} (p:α→Bool) (l:List α) (m:Nat) (t:α) (ht:l[m]? = some t) (h:p t=true):l.any p=true:=List.any_eq_true.2 ⟨t,List.mem_of_getElem? ht,h⟩
theorem zKz {α:Type} (p:α→Bool) (l:List α) (m:Nat) (t:α) (ht:l[m]? = some t) (h0:(l.take m).any p=false) (h:p t=false):(l.take (m+1)).any p=false:=by
 rw[List.take_add_one,ht,List.any_append,h0];simp[h]
theorem zNh {α:Type} (p:α→Bool) (l:List α) (m:Nat) (h:¬m<l.length) (h0:(l.take m).any p=false):l.any p=false:=by
 rwa [List.take_of_length_le (by omega)] at h0
theorem zMR (F:Nat) (c1:Value) (p:List Int→Bool) (l:List (List Int)) (v:Value) (w:World) (hv:RArg w v l) (hF:zTM F c1 p w) :
 Calls Tryz.prog 158 #[v,.func (.func F) #[] #[c1]] w fun e w'=>(∃z:Int,e=.returned (.int .i64 z)∧decide (0≤z)=l.any p)∧Below w.heap.size w w':=by
 obtain⟨a,c,rfl,hm,hr⟩:=hv;have HV:Hid (∀(i:Nat) (r:List Int),l[i]? = some r→∃b off x,a=some ⟨b,off,none⟩∧b<w.heap.size∧w.cell? ⟨b,off+i,none⟩=some x∧IArg w x r):=hr;obtain⟨R,hR⟩:∃R,l.any p=R:=⟨_,rfl⟩;rw[hR];have HR:Hid (l.any p=R):=hR;have HF:Hid (zTM F c1 p w):=hF;unfold maxLen at hm;obtain⟨hm1,hm⟩:=hm;clear hr hR hF;go_enter Tryz.func158,Tryz.ntmps158
 go_wp2_with fail
 go_loopw [8] (fun i wr=>∃m:Nat,m≤l.length∧i=.int .i64 m∧Hid ((l.take m).any p=false)∧Below w.heap.size w wr) (fun i _=>l.length - (intOf i).toNat)
 case atStart=>exact⟨0,by omega,rfl,rfl,Below.refl _ _⟩
 case round =>
  obtain⟨m,hml,rfl,hall,hbw⟩:=hrel;by_cases hlt:m<l.length
  ·obtain⟨z,hz⟩:∃z,l[m]? = some z:=⟨l[m],by simp[hlt]⟩
   obtain⟨b,off,x,ha,hb,hc0,hx⟩:=HV.out m z hz;have hc:=(hbw.cell (p:=⟨b,off+m,none⟩) hb).trans hc0;have HZ:Hid (l[m]? = some z):=hz;have HX:Hid (IArg wr x z):=IArg.below hbw hx;obtain⟨a5,c5,rfl,_,_⟩:=hx;subst ha;clear hz hc0;cases hq:p z
   ·have HN:Hid ((l.take (m+1)).any p=false):=zKz _ l m z HZ.out hall.out hq
    go_wp2_with fail
    rw[HF.out.1,Oper.upon_enter];refine (HF.out.2 z _ _ hbw HX.out).mono ?_;rintro e w1 ⟨rfl,hb1⟩;rw[hq];clear hq;go_wp2
    go_roundw
    case rel=>exact⟨m+1,by omega,by go_num,HN,hbw.trans (hb1.mono hbw.size)⟩
    case measure=>simp[intOf];omega
   ·have HN:Hid (R=true):=by rw[←HR.out];exact zNg p l m z HZ.out hq
    go_wp2_with fail
    rw[HF.out.1,Oper.upon_enter];refine (HF.out.2 z _ _ hbw HX.out).mono ?_;rintro e w1 ⟨rfl,hb1⟩;rw[hq];clear hq;go_wp2
    go_ret
    exact⟨⟨_,rfl,by rw[HN.out];simp⟩,hbw.trans (hb1.mono hbw.size)⟩
  ·have HN:Hid (R=false):=by rw[←HR.out];exact zNh _ l m hlt hall.out
   go_wp2
   go_ret
   exact⟨⟨_,rfl,by rw[HN.out];rfl⟩,hbw⟩
theorem zI9 (F:Nat) (c1:Value) (p:List Int→Bool) (l:List (List Int)) (v:Value) (w:World) (hv:RArg w v l) (hF:zTM F c1 p w) :
 Calls Tryz.prog 102 #[v,.func (.func F) #[] #[c1]] w fun e w'=>e=.returned (.bool (l.any p))∧Below w.heap.size w w':=by
 go_enter Tryz.func102,Tryz.ntmps102
 go_wp2_with fail
 refine (zMR F c1 p l v _ hv hF).mono ?_;rintro e w1 ⟨⟨z,rfl,hz⟩,hb1⟩;have HZ:Hid (decide (0≤z)=l.any p):=hz;clear hz;go_wp2
 go_ret
 exact⟨zAC HZ.out,hb1⟩
def zTO (p:MLit→Bool) (l:List MLit) (z:Int):Prop:=(z=-1∧l.any p=false)∨∃(k:Nat) (t:MLit),z=(k:Int)∧l[k]? = some t∧p t=true
theorem zTO.sign {p:MLit→Bool} {l:List MLit} {z:Int} (h:zTO p l z):decide (0≤z)=l.any p:=by
 rcases h with ⟨rfl,h⟩ | ⟨k,t,rfl,ht,hp⟩
 ·rw[h];rfl
 ·rw[zNg p l k t ht hp];simp
theorem zMS (F:Nat) (caps:Array Value) (p:MLit→Bool) (l:List MLit) (v:Value) (w:World) (hv:LArg w v l) (hF:zTN F caps l p w) :
 Calls Tryz.prog 223 #[v,.func (.func F) #[] caps] w fun e w'=>(∃z:Int,e=.returned (.int .i64 z)∧zTO p l z)∧Below w.heap.size w w':=by
 obtain⟨a,c,rfl,hm,hr⟩:=hv;have HV:Hid (∀(i:Nat) (t:MLit),l[i]? = some t→∃b off,a=some ⟨b,off,none⟩∧b<w.heap.size ∧
  w.cell? ⟨b,off+i * 3,none⟩=some (.int .i64 t.var)∧w.cell? ⟨b,off+i * 3+1,none⟩=some (.int .i64 t.op)∧w.cell? ⟨b,off+i * 3+2,none⟩=some (.int .i64 t.n)):=hr
 have HF:Hid (zTN F caps l p w):=hF;unfold maxLen at hm;obtain⟨hm1,hm⟩:=hm;clear hr hF;go_enter Tryz.func223,Tryz.ntmps223
 go_wp2_with fail
 go_loopw [8] (fun i wr=>∃m:Nat,m≤l.length∧i=.int .i64 m∧Hid ((l.take m).any p=false)∧Below w.heap.size w wr) (fun i _=>l.length - (intOf i).toNat)
 case atStart=>exact⟨0,by omega,rfl,rfl,Below.refl _ _⟩
 case round =>
  obtain⟨m,hml,rfl,hall,hbw⟩:=hrel;by_cases hlt:m<l.length
  ·obtain⟨z,hz⟩:∃z,l[m]? = some z:=⟨l[m],by simp[hlt]⟩
   obtain⟨b,off,ha,hb,d0,d1,d2⟩:=HV.out m z hz;have e0:=(hbw.cell (p:=⟨b,off+m * 3,none⟩) hb).trans d0;have e1:=(hbw.cell (p:=⟨b,off+m * 3+1,none⟩) hb).trans d1;have e2:=(hbw.cell (p:=⟨b,off+m * 3+2,none⟩) hb).trans d2;have HZ:Hid (l[m]? = some z):=hz;subst ha;clear hz d0 d1 d2;cases hq:p z
   ·have HN:Hid ((l.take (m+1)).any p=false):=zKz _ l m z HZ.out hall.out hq
    go_wp2_with fail
    rw[HF.out.1,Oper.upon_enter];refine (HF.out.2 z _ (List.mem_of_getElem? HZ.out) hbw).mono ?_;rintro e w1 ⟨rfl,hb1⟩;rw[hq];clear hq;go_wp2
    go_roundw
    case rel=>exact⟨m+1,by omega,by go_num,HN,hbw.trans (hb1.mono hbw.size)⟩
    case measure=>simp[intOf];omega
   ·have HP:Hid (p z=true):=hq
    go_wp2_with fail
    rw[HF.out.1,Oper.upon_enter];refine (HF.out.2 z _ (List.mem_of_getElem? HZ.out) hbw).mono ?_;rintro e w1 ⟨rfl,hb1⟩;rw[hq];clear hq;go_wp2
    go_ret
    exact⟨⟨_,rfl,Or.inr ⟨m,z,rfl,HZ.out,HP.out⟩⟩,hbw.trans (hb1.mono hbw.size)⟩
  ·have HN:Hid (l.any p=false):=zNh _ l m hlt hall.out
   go_wp2
   go_ret
   exact⟨⟨_,rfl,Or.inl ⟨rfl,HN.out⟩⟩,hbw⟩
theorem zFq (F:Nat) (caps:Array Value) (p:MLit→Bool) (l:List MLit) (v:Value) (w:World) (hv:LArg w v l) (hF:zTN F caps l p w) :
 Calls Tryz.prog 159 #[v,.func (.func F) #[] caps] w fun e w'=>e=.returned (.bool (l.any p))∧Below w.heap.size w w':=by
 go_enter Tryz.func159,Tryz.ntmps159
 go_wp2_with fail
 refine (zMS F caps p l v _ hv hF).mono ?_;rintro e w1 ⟨⟨z,rfl,hz⟩,hb1⟩;have HZ:Hid (decide (0≤z)=l.any p):=hz.sign;clear hz;go_wp2
 go_ret
 exact⟨zAC HZ.out,hb1⟩
theorem zOQ (args:Array Value) (w':World):Sem.run Tryz.prog (callFunc 103 args) w'=.ok (.enter 103 args) w':=by
 simp[callFunc,go_sem,Tryz.func103,Tryz.f103]
theorem zMT (args:Array Value) (w':World):Sem.run Tryz.prog (callFunc 160 args) w'=.ok (.enter 160 args) w':=by
 simp[callFunc,go_sem,Tryz.func160,Tryz.f160]
theorem zRn (own r:List Int) (v x:Value) (b:Nat) (w:World) (hv:IArg w v own) (hx:IArg w x r) (hb:w.cell? ⟨b,0,none⟩=some v) :
 Calls Tryz.prog 103 #[x,.pointer (some ⟨b,0,none⟩)] w fun e w'=>e=.returned (.bool (decide (r=own)))∧Below w.heap.size w w':=by
 have HV:Hid (IArg w v own):=hv;have HX:Hid (IArg w x r):=hx;obtain⟨a,c,rfl,_,_⟩:=hv;obtain⟨a',c',rfl,_,_⟩:=hx;go_enter Tryz.func103,Tryz.ntmps103
 go_wp2_with fail
 refine (zPh r own _ _ _ HX.out HV.out).mono ?_;rintro e w1 ⟨rfl,n,h1⟩;have hb1:=zT5 h1;clear h1;go_wp2
 go_ret
 exact⟨rfl,hb1⟩
theorem zOR (vals:List Int) (l:MLit) (v:Value) (b:Nat) (w:World) (hv:IArg w v vals) (h0:0≤l.var) (h1:l.var<vals.length) (hb:w.cell? ⟨b,0,none⟩=some v) :
 Calls Tryz.prog 160 #[.agg #[.int .i64 l.var,.int .i64 l.op,.int .i64 l.n],.pointer (some ⟨b,0,none⟩)] w fun e w'=>e=.returned (.bool (litB vals l))∧Below w.heap.size w w':=by
 obtain⟨a,c,rfl,hm,hr⟩:=hv;have hbl:b<w.heap.size:=World.block_lt_of_cell? w _ hb;obtain⟨j,hj⟩:∃j:Nat,l.var=(j:Int):=⟨l.var.toNat,by omega⟩
 have hjl:j<vals.length:=by omega
 obtain⟨y,hy⟩:∃y,vals[j]? = some y:=⟨vals[j],by simp[hjl]⟩
 obtain⟨b7,off7,rfl,hb7,g7⟩:=hr j y hy;unfold maxLen at hm;obtain⟨hm1,hm⟩:=hm;have HBV:Hid (litB vals l=litV y l):=by show _=_;unfold litB;rw[hj,zHr vals j y hy]
 rw[HBV.out];obtain⟨B,HB⟩:∃B:Bool,Hid (litV y l=B):=⟨_,rfl⟩;rw[HB.out,hj];obtain⟨W,hW⟩:∃W:World,W=w.alloc (.cells #[.int .i64 (j:Int),.int .i64 l.op,.int .i64 l.n] 88):=⟨_,rfl⟩;have HW:Hid (W=w.alloc (.cells #[.int .i64 (j:Int),.int .i64 l.op,.int .i64 l.n] 88)):=hW;have HBW:Hid (Below w.heap.size w W):=by rw[hW];exact zAA _ _
 have HSW:Hid (W.heap.size=w.heap.size+1):=by show _=_;rw[hW];simp
 have k0:W.cell? ⟨w.heap.size,0,none⟩=some (.int .i64 (j:Int)):=by rw[hW];simp
 have k1:W.cell? ⟨w.heap.size,1,none⟩=some (.int .i64 l.op):=by rw[hW];simp
 have k2:W.cell? ⟨w.heap.size,2,none⟩=some (.int .i64 l.n):=by rw[hW];simp
 have k3:W.cell? ⟨b,0,none⟩=some (.slice (some ⟨b7,off7,none⟩) vals.length c):=by rw[hW];exact (World.cell?_alloc_past _ _ _ hbl).trans hb
 have k4:W.cell? ⟨b7,off7+j,none⟩=some (.int .i64 y):=by rw[hW];exact (World.cell?_alloc_past _ _ _ hb7).trans g7
 have HCL:Hid (∀wq:World,Below W.heap.size W wq→Calls Tryz.prog 108 #[.agg #[.int .i64 (j:Int),.int .i64 l.op,.int .i64 l.n],.int .i64 y] wq fun e w'=>e=.returned (.bool B)∧Below W.heap.size W w'):=by
  intro wq hq;rw[←hj];refine (zKJ l y wq).mono ?_;rintro e w' ⟨rfl,hb⟩;exact⟨by rw[HB.out],hq.trans (hb.mono hq.size)⟩
 clear hW hr hy hj g7 hb HBV HB h0 h1;go_enter Tryz.func160,Tryz.ntmps160
 go_wp2
 rw[←HW.out];refine zHG (by kernel_rfl) (by kernel_rfl) ?_
 go_big_quiet_want
 refine⟨.agg #[.int .i64 (j:Int),.int .i64 l.op,.int .i64 l.n],fun wq hq=>?_,?_⟩
 ·have h0:=(hq.cell (p:=⟨w.heap.size,0,none⟩) (by have:=HSW.out;simp only;omega)).trans k0
  have h1:=(hq.cell (p:=⟨w.heap.size,1,none⟩) (by have:=HSW.out;simp only;omega)).trans k1
  have h2:=(hq.cell (p:=⟨w.heap.size,2,none⟩) (by have:=HSW.out;simp only;omega)).trans k2
  simp[Oper.quietAt,go_sem,h0,h1,h2]
 go_simp
 go_big_quiet_on
 go_big_quiet_want
 refine⟨.slice (some ⟨b7,off7,none⟩) vals.length c,fun wq hq=>?_,?_⟩
 ·have h0:=(hq.cell (p:=⟨b,0,none⟩) (by have:=HSW.out;simp only;omega)).trans k3
  simp[Oper.quietAt,go_sem,h0]
 go_simp
 go_big_quiet_on
 go_big_quiet_want
 go_big_quiet_op
 first | go_big_quiet_on | (refine⟨_,fun _ _=>rfl,?_⟩;go_big_quiet_on)
 go_big_quiet_want
 refine⟨.int .i64 (j:Int),fun wq hq=>?_,?_⟩
 ·have h0:=(hq.cell (p:=⟨w.heap.size,0,none⟩) (by have:=HSW.out;simp only;omega)).trans k0
  simp[Oper.quietAt,go_sem,h0]
 go_simp
 go_big_quiet_on
 go_big_quiet_want
 go_big_quiet_op
 first | go_big_quiet_on | (refine⟨_,fun _ _=>rfl,?_⟩;go_big_quiet_on)
 go_big_quiet_want
 refine⟨.int .i64 y,fun wq hq=>?_,?_⟩
 ·have h0:=(hq.cell (p:=⟨b7,off7+j,none⟩) (by have:=HSW.out;simp only;omega)).trans k4
  simp[Oper.quietAt,go_sem,h0]
 go_simp
 go_big_quiet_on
 go_big_quiet_want
 refine⟨.bool B,fun wq hq=>?_,?_⟩
 ·simp[Oper.quietAt,go_sem]
  exact HCL.out wq hq
 go_simp
 go_big_quiet_on
 go_big_quiet_want
 go_big_quiet_op
 first | go_big_quiet_on | (refine⟨_,fun _ _=>rfl,?_⟩;go_big_quiet_on)
 refine wpQuiet_nil ?_;intro w' hw';have hb4:Below w.heap.size w w':=HBW.out.trans (hw'.mono HBW.out.size);clear hw';go_wp2
 go_ret
 exact⟨rfl,hb4⟩
theorem zMU (c:List MLit) (vals:List Int) (u v:Value) (w:World) (hu:LArg w u c) (hv:IArg w v vals) (hc:∀l∈c,0≤l.var∧l.var<(vals.length:Int)) :
 Calls Tryz.prog 106 #[u,v] w fun e w'=>e=.returned (.bool (c.any (litB vals)))∧Below w.heap.size w w':=by
 have HUA:Hid (∀w':World,Below w.heap.size w w'→LArg w' u c):=fun w' h=>LArg.below h hu
 have HVA:Hid (∀w':World,Below w.heap.size w w'→IArg w' v vals):=fun w' h=>IArg.below h hv
 have HC:Hid (∀l∈c,0≤l.var∧l.var<(vals.length:Int)):=hc;obtain⟨a1,c1,rfl,_,_⟩:=hu;obtain⟨a2,c2,rfl,_,_⟩:=hv;clear hc;go_enter Tryz.func106,Tryz.ntmps106
 go_wp2_with fail
 refine (zFq 160 _ (litB vals) c _ _ (HUA.out _ (zAA _ _)) ⟨zMT,?_⟩).mono ?_
 ·intro l w' hl hb'
  exact zOR vals l _ w.heap.size w' (HVA.out _ ((zAA _ _).trans (hb'.mono (by simp)))) (HC.out l hl).1 (HC.out l hl).2 ((hb'.cell (by simp)).trans (by simp))
 rintro e w3 ⟨rfl,hb3⟩;have hb4:Below w.heap.size w w3:=(zAA _ _).trans (hb3.mono (by simp))
 clear hb3;go_wp2
 go_ret
 exact⟨rfl,hb4⟩
end Go.Proofs.YtdjbejlbmaiocagGreatDoor
