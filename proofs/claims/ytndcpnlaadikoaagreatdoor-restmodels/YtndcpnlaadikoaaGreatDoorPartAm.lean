/- What the proof leans on, part 13. -/
import Derived.Test.YtndcpnlaadikoaaGreatDoorPartAl
import Derived.Maps.OwnSet
import Derived.Maps.AppendAt
import Derived.WalkKit
import Derived.BigQuiet
import Derived.Test.YtndcpnlaadikoaaGreatDoorPartAf
import Derived.ProofKit
import Derived.OpenShut
import Derived.ShutString
import Derived.ChangeOld
import Derived.Below
import Derived.SizedLaws
import Derived.Deep.Slices
import Derived.Deep.Strs
import Derived.Lib.SmallJoins
set_option maxRecDepth 100000
set_option maxHeartbeats 1600000
namespace Go.Proofs.YtndcpnlaadikoaaGreatDoor
open Go.RowKit Go.Maps
theorem Tryz.intKey:Keyed Tryz.prog 3:=int_keyed Tryz.underlying3
theorem Tryz.zeroUnit (w:World):(zeroValue 282).run Tryz.prog w=.ok (.agg #[]) w:=by kernel_rfl
def setD {H:Type} (l:List Int):DataW H:=setOf (.agg []) (l.map (Lit.int .i64))
theorem zO6 (x:Int):∀l:List Int,l.any ((fun y:Lit=>y.sameKey (.int .i64 x)) ∘ Lit.int .i64)=l.contains x
 | []=>rfl
 | a :: r=>by
   rw[List.any_cons,List.contains_cons,zO6 x r]
   congr 1
   show decide (IntKind.i64=IntKind.i64∧a=x)=(x==a);by_cases e:a=x
   ·subst e
    simp
   ·have e':¬x=a:=fun h=>e h.symm
    simp[e,e']
theorem zMo {H:Type} (l:List Int) (x:Int):Maps.has (setD (H:=H) l) (.int .i64 x)=l.contains x:=by
 unfold setD;rw[has_setOf _ _ _ (fun y hy=>by obtain⟨_,_,rfl⟩:=List.mem_map.1 hy;trivial),List.any_map]
 exact zO6 x _
theorem zO7 {H:Type} (l:List Int) (x:Int):setD (H:=H) (l++[x])=(setD l).put (.int .i64 x) (.agg []):=by
 unfold setD;rw[List.map_append];exact setOf_snoc _ _ _
theorem zNl (l:List Int) (k:Nat) (x:Int) (hx:l[k]? = some x) (h:(l.take k).Nodup) (hc:(l.take k).contains x=false):(l.take (k+1)).Nodup:=by
 rw[List.take_add_one,hx];rw[List.nodup_append];refine⟨h,by simp,fun a ha b hb=>?_⟩
 simp at hb;subst hb;intro e;subst e;have:(l.take k).contains a=true:=by simpa using ha
 rw[hc] at this;cases this
theorem zO8 (l:List Int) (k:Nat) (x:Int) (hx:l[k]? = some x) (hc:(l.take k).contains x=true):¬l.Nodup:=by
 intro hn;have hk:k<l.length:=(List.getElem?_eq_some_iff.1 hx).1;have h1:x∈l.take k:=by simpa using hc
 have h2:x∈l.drop k:=by rw[List.drop_eq_getElem_cons hk];have:l[k]=x:=by simpa[hk] using hx
                        rw[this];exact List.mem_cons_self ..
 have h3:=hn;rw[←List.take_append_drop k l,List.nodup_append] at h3;exact h3.2.2 x h1 x h2 rfl
theorem zIg (l:List Int) (v:Value) (w:World) (hv:IArg w v l) (hn:l.length≤4) (hb0:∀x∈l,-50≤x∧x≤50) :
 Calls Tryz.prog 165 #[v] w fun e w'=>e=.returned (.bool (decide l.Nodup))∧Below w.heap.size w w':=by
 obtain⟨a,c,rfl,hm,hr⟩:=hv;have HV:Hid (∀(i:Nat) (z:Int),l[i]? = some z→∃b off,a=some ⟨b,off,none⟩∧b<w.heap.size∧w.cell? ⟨b,off+i,none⟩=some (.int .i64 z)):=hr;have HB:Hid (∀x∈l,-50≤x∧x≤50):=hb0;obtain⟨R,hR⟩:∃R,decide l.Nodup=R:=⟨_,rfl⟩;rw[hR];have HR:Hid (decide l.Nodup=R):=hR;unfold maxLen at hm;obtain⟨hm1,hm⟩:=hm;clear hr hR hb0;have hmm:=@run_makeMap Tryz.prog;go_enter Tryz.func165,Tryz.ntmps165
 go_wp2_with fail
 clear hmm;go_loopw [11] (fun i wr=>∃k:Nat,k≤l.length∧i=.int .i64 k∧wr.ownsMap Tryz.prog 3 unitElem w.heap.size k (setD (H:=Unit) (l.take k))∧Hid ((l.take k).Nodup)∧Below w.heap.size w wr∧w.heap.size+1≤wr.heap.size) (fun i _=>l.length - (intOf i).toNat)
 case atStart=>exact⟨0,by omega,rfl,World.ownsMap_made _ _ _ _,by show List.Nodup _;simp,(Below.refl _ _).alloc (Nat.le_refl _) _,by simp⟩
 case round =>
  obtain⟨k,hk,rfl,hown,hnd,hbw,hws⟩:=hrel;by_cases hlt:k<l.length
  ·obtain⟨x,hx⟩:∃x,l[k]? = some x:=⟨l[k],by simp[hlt]⟩
   obtain⟨b,off,rfl,hb,hc⟩:=HV.out k x hx;have e1:=(hbw.cell (p:=⟨b,off+k,none⟩) hb).trans hc;have hxb:=HB.out x (List.mem_of_getElem? hx);have hkey:keyOf Tryz.prog 3 (.int .i64 x)=some (.int .i64 x):=keyOf_int_mk Tryz.underlying3 (WalkArith.wf_i64 (by omega))
   have HX:Hid (l[k]? = some x):=hx;clear hx hc hb;cases hq:(l.take k).contains x
   ·have HN:Hid ((l.take (k+1)).Nodup):=zNl l k x HX.out hnd.out hq
    have HD:Hid (setD (H:=Unit) (l.take (k+1))=(setD (l.take k)).put (.int .i64 x) (.agg [])):=by
     show _=_;rw[List.take_add_one,HX.out];exact zO7 _ _
    have hh:Maps.has (setD (H:=Unit) (l.take k)) (.int .i64 x)=false:=by rw[zMo];exact hq
    clear hq;go_wp2_with (first
     | (at_lookup;refine wpList_lookup_own_unit _ rfl _ _ 281 rfl 3 282 Tryz.intKey Tryz.underlying281 (Tryz.zeroUnit _) w.heap.size k _ rfl hown _ _ rfl hkey ?_)
     | (at_mapUpdate;refine wpList_mapUpdate_own _ rfl _ _ _ 281 rfl 3 282 Tryz.intKey Tryz.underlying281 (unitElem (H:=Unit)) w.heap.size k _ rfl (hown.alloc _) (by unfold maxLen;omega) _ _ _ rfl rfl hkey _ [] unitElem_mk ?_;intro w1 hown1 hgrow1)
     | go_in)
    have s1:=hgrow1.size;simp at s1;go_roundw
    case rel=>exact⟨k+1,by omega,by go_num,by rw[HD.out];exact hown1,HN,(hbw.alloc hbw.size _).grown hgrow1 (by simp;omega) (fun j hj=>by cases hj;exact Nat.le_refl _),by omega⟩
    case measure=>simp[intOf];omega
   ·have HN:Hid (R=false):=by rw[←HR.out];exact decide_eq_false (zO8 l k x HX.out hq)
    have hh:Maps.has (setD (H:=Unit) (l.take k)) (.int .i64 x)=true:=by rw[zMo];exact hq
    clear hq;go_wp2_with (first
     | (at_lookup;refine wpList_lookup_own_unit _ rfl _ _ 281 rfl 3 282 Tryz.intKey Tryz.underlying281 (Tryz.zeroUnit _) w.heap.size k _ rfl hown _ _ rfl hkey ?_)
     | go_in)
    go_ret
    exact⟨zAD HN.out.symm,hbw.alloc hbw.size _⟩
  ·have HN:Hid (R=true):=by
    have:=hnd.out;rw[List.take_of_length_le (by omega)] at this;rw[←HR.out];exact decide_eq_true this
   go_wp2
   go_ret
   exact⟨zAD HN.out.symm,hbw⟩
open Go.RowKit
theorem zEW {P:Program} {id:Nat} {Q:Exit→Act→World→Prop} {a:Act} {W:World} {l:List Oper} (hm:P.follows .mixedOrders=true) (hB:Region.lexB .any l.toArray=true)
 (h:wpQuiet P l.toArray (fun w'=>Below W.heap.size W w') (fun a'=>∀w',Below W.heap.size W w'→Q .normal a' w') l a):(Code.region id l.toArray true).wp P Q a W :=
 wp_region_quiet (C:=fun w'=>Below W.heap.size W w') hm hB ⟨rfl,rfl,rfl,Nat.le_refl _,fun _ _=>rfl⟩ (by simpa using h)
theorem zR3 {w w':World} {n:Nat} (h:w'=w.drewN n):Below w.heap.size w w':=by rw[h];exact below_drewN (Below.refl _ _) _
def zSM (F:Nat) (c1:Value) (p:List Int→Bool) (w:World):Prop :=
 (∀(args:Array Value) (w':World),Sem.run Tryz.prog (callFunc F args) w'=.ok (.enter F args) w') ∧
 ∀(r:List Int) (x:Value) (w':World),Below w.heap.size w w'→IArg w' x r→Calls Tryz.prog F #[x,c1] w' fun e w''=>e=.returned (.bool (p r))∧Below w'.heap.size w' w''
def zSN (F:Nat) (caps:Array Value) (ls:List MLit) (p:MLit→Bool) (w:World):Prop :=
 (∀(args:Array Value) (w':World),Sem.run Tryz.prog (callFunc F args) w'=.ok (.enter F args) w') ∧
 ∀(l:MLit) (w':World),l∈ls→Below w.heap.size w w'→Calls Tryz.prog F (#[.agg #[.int .i64 l.var,.int .i64 l.op,.int .i64 l.n]]++caps) w' fun e w''=>e=.returned (.bool (p l))∧Below w'.heap.size w' w''
theorem zJc {α:Type} (p:α→Bool) (l:List α) (m:Nat) (t:α) (ht:l[m]? = some t) (h:p t=true):l.any p=true:=List.any_eq_true.2 ⟨t,List.mem_of_getElem? ht,h⟩
theorem zHR {α:Type} (p:α→Bool) (l:List α) (m:Nat) (t:α) (ht:l[m]? = some t) (h0:(l.take m).any p=false) (h:p t=false):(l.take (m+1)).any p=false:=by
 rw[List.take_add_one,ht,List.any_append,h0];simp[h]
theorem zJd {α:Type} (p:α→Bool) (l:List α) (m:Nat) (h:¬m<l.length) (h0:(l.take m).any p=false):l.any p=false:=by
 rwa [List.take_of_length_le (by omega)] at h0
theorem zLW (F:Nat) (c1:Value) (p:List Int→Bool) (l:List (List Int)) (v:Value) (w:World) (hv:RArg w v l) (hF:zSM F c1 p w) :
 Calls Tryz.prog 236 #[v,.func (.func F) #[] #[c1]] w fun e w'=>(∃z:Int,e=.returned (.int .i64 z)∧decide (0≤z)=l.any p)∧Below w.heap.size w w':=by
 obtain⟨a,c,rfl,hm,hr⟩:=hv;have HV:Hid (∀(i:Nat) (r:List Int),l[i]? = some r→∃b off x,a=some ⟨b,off,none⟩∧b<w.heap.size∧w.cell? ⟨b,off+i,none⟩=some x∧IArg w x r):=hr;obtain⟨R,hR⟩:∃R,l.any p=R:=⟨_,rfl⟩;rw[hR];have HR:Hid (l.any p=R):=hR;have HF:Hid (zSM F c1 p w):=hF;unfold maxLen at hm;obtain⟨hm1,hm⟩:=hm;clear hr hR hF;go_enter Tryz.func236,Tryz.ntmps236
 go_wp2_with fail
 go_loopw [8] (fun i wr=>∃m:Nat,m≤l.length∧i=.int .i64 m∧Hid ((l.take m).any p=false)∧Below w.heap.size w wr) (fun i _=>l.length - (intOf i).toNat)
 case atStart=>exact⟨0,by omega,rfl,rfl,Below.refl _ _⟩
 case round =>
  obtain⟨m,hml,rfl,hall,hbw⟩:=hrel;by_cases hlt:m<l.length
  ·obtain⟨z,hz⟩:∃z,l[m]? = some z:=⟨l[m],by simp[hlt]⟩
   obtain⟨b,off,x,ha,hb,hc0,hx⟩:=HV.out m z hz;have hc:=(hbw.cell (p:=⟨b,off+m,none⟩) hb).trans hc0;have HZ:Hid (l[m]? = some z):=hz;have HX:Hid (IArg wr x z):=IArg.below hbw hx;obtain⟨a5,c5,rfl,_,_⟩:=hx;subst ha;clear hz hc0;cases hq:p z
   ·have HN:Hid ((l.take (m+1)).any p=false):=zHR _ l m z HZ.out hall.out hq
    go_wp2_with fail
    rw[HF.out.1,Oper.upon_enter];refine (HF.out.2 z _ _ hbw HX.out).mono ?_;rintro e w1 ⟨rfl,hb1⟩;rw[hq];clear hq;go_wp2
    go_roundw
    case rel=>exact⟨m+1,by omega,by go_num,HN,hbw.trans (hb1.mono hbw.size)⟩
    case measure=>simp[intOf];omega
   ·have HN:Hid (R=true):=by rw[←HR.out];exact zJc p l m z HZ.out hq
    go_wp2_with fail
    rw[HF.out.1,Oper.upon_enter];refine (HF.out.2 z _ _ hbw HX.out).mono ?_;rintro e w1 ⟨rfl,hb1⟩;rw[hq];clear hq;go_wp2
    go_ret
    exact⟨⟨_,rfl,by rw[HN.out];simp⟩,hbw.trans (hb1.mono hbw.size)⟩
  ·have HN:Hid (R=false):=by rw[←HR.out];exact zJd _ l m hlt hall.out
   go_wp2
   go_ret
   exact⟨⟨_,rfl,by rw[HN.out];rfl⟩,hbw⟩
theorem zE6 (F:Nat) (c1:Value) (p:List Int→Bool) (l:List (List Int)) (v:Value) (w:World) (hv:RArg w v l) (hF:zSM F c1 p w) :
 Calls Tryz.prog 166 #[v,.func (.func F) #[] #[c1]] w fun e w'=>e=.returned (.bool (l.any p))∧Below w.heap.size w w':=by
 go_enter Tryz.func166,Tryz.ntmps166
 go_wp2_with fail
 refine (zLW F c1 p l v _ hv hF).mono ?_;rintro e w1 ⟨⟨z,rfl,hz⟩,hb1⟩;have HZ:Hid (decide (0≤z)=l.any p):=hz;clear hz;go_wp2
 go_ret
 exact⟨zAD HZ.out,hb1⟩
def zSO (p:MLit→Bool) (l:List MLit) (z:Int):Prop:=(z=-1∧l.any p=false)∨∃(k:Nat) (t:MLit),z=(k:Int)∧l[k]? = some t∧p t=true
theorem zSO.sign {p:MLit→Bool} {l:List MLit} {z:Int} (h:zSO p l z):decide (0≤z)=l.any p:=by
 rcases h with ⟨rfl,h⟩ | ⟨k,t,rfl,ht,hp⟩
 ·rw[h];rfl
 ·rw[zJc p l k t ht hp];simp
theorem zLX (F:Nat) (caps:Array Value) (p:MLit→Bool) (l:List MLit) (v:Value) (w:World) (hv:LArg w v l) (hF:zSN F caps l p w) :
 Calls Tryz.prog 269 #[v,.func (.func F) #[] caps] w fun e w'=>(∃z:Int,e=.returned (.int .i64 z)∧zSO p l z)∧Below w.heap.size w w':=by
 obtain⟨a,c,rfl,hm,hr⟩:=hv;have HV:Hid (∀(i:Nat) (t:MLit),l[i]? = some t→∃b off,a=some ⟨b,off,none⟩∧b<w.heap.size ∧
  w.cell? ⟨b,off+i * 3,none⟩=some (.int .i64 t.var)∧w.cell? ⟨b,off+i * 3+1,none⟩=some (.int .i64 t.op)∧w.cell? ⟨b,off+i * 3+2,none⟩=some (.int .i64 t.n)):=hr
 have HF:Hid (zSN F caps l p w):=hF;unfold maxLen at hm;obtain⟨hm1,hm⟩:=hm;clear hr hF;go_enter Tryz.func269,Tryz.ntmps269
 go_wp2_with fail
 go_loopw [8] (fun i wr=>∃m:Nat,m≤l.length∧i=.int .i64 m∧Hid ((l.take m).any p=false)∧Below w.heap.size w wr) (fun i _=>l.length - (intOf i).toNat)
 case atStart=>exact⟨0,by omega,rfl,rfl,Below.refl _ _⟩
 case round =>
  obtain⟨m,hml,rfl,hall,hbw⟩:=hrel;by_cases hlt:m<l.length
  ·obtain⟨z,hz⟩:∃z,l[m]? = some z:=⟨l[m],by simp[hlt]⟩
   obtain⟨b,off,ha,hb,d0,d1,d2⟩:=HV.out m z hz;have e0:=(hbw.cell (p:=⟨b,off+m * 3,none⟩) hb).trans d0;have e1:=(hbw.cell (p:=⟨b,off+m * 3+1,none⟩) hb).trans d1;have e2:=(hbw.cell (p:=⟨b,off+m * 3+2,none⟩) hb).trans d2;have HZ:Hid (l[m]? = some z):=hz;subst ha;clear hz d0 d1 d2;cases hq:p z
   ·have HN:Hid ((l.take (m+1)).any p=false):=zHR _ l m z HZ.out hall.out hq
    go_wp2_with fail
    rw[HF.out.1,Oper.upon_enter];refine (HF.out.2 z _ (List.mem_of_getElem? HZ.out) hbw).mono ?_;rintro e w1 ⟨rfl,hb1⟩;rw[hq];clear hq;go_wp2
    go_roundw
    case rel=>exact⟨m+1,by omega,by go_num,HN,hbw.trans (hb1.mono hbw.size)⟩
    case measure=>simp[intOf];omega
   ·have HP:Hid (p z=true):=hq
    go_wp2_with fail
    rw[HF.out.1,Oper.upon_enter];refine (HF.out.2 z _ (List.mem_of_getElem? HZ.out) hbw).mono ?_;rintro e w1 ⟨rfl,hb1⟩;rw[hq];clear hq;go_wp2
    go_ret
    exact⟨⟨_,rfl,Or.inr ⟨m,z,rfl,HZ.out,HP.out⟩⟩,hbw.trans (hb1.mono hbw.size)⟩
  ·have HN:Hid (l.any p=false):=zJd _ l m hlt hall.out
   go_wp2
   go_ret
   exact⟨⟨_,rfl,Or.inl ⟨rfl,HN.out⟩⟩,hbw⟩
theorem zE7 (F:Nat) (caps:Array Value) (p:MLit→Bool) (l:List MLit) (v:Value) (w:World) (hv:LArg w v l) (hF:zSN F caps l p w) :
 Calls Tryz.prog 229 #[v,.func (.func F) #[] caps] w fun e w'=>e=.returned (.bool (l.any p))∧Below w.heap.size w w':=by
 go_enter Tryz.func229,Tryz.ntmps229
 go_wp2_with fail
 refine (zLX F caps p l v _ hv hF).mono ?_;rintro e w1 ⟨⟨z,rfl,hz⟩,hb1⟩;have HZ:Hid (decide (0≤z)=l.any p):=hz.sign;clear hz;go_wp2
 go_ret
 exact⟨zAD HZ.out,hb1⟩
theorem zIh (args:Array Value) (w':World):Sem.run Tryz.prog (callFunc 167 args) w'=.ok (.enter 167 args) w':=by
 simp[callFunc,go_sem,Tryz.func167,Tryz.f167]
theorem zLY (args:Array Value) (w':World):Sem.run Tryz.prog (callFunc 237 args) w'=.ok (.enter 237 args) w':=by
 simp[callFunc,go_sem,Tryz.func237,Tryz.f237]
theorem zMp (own r:List Int) (v x:Value) (b:Nat) (w:World) (hv:IArg w v own) (hx:IArg w x r) (hb:w.cell? ⟨b,0,none⟩=some v) :
 Calls Tryz.prog 167 #[x,.pointer (some ⟨b,0,none⟩)] w fun e w'=>e=.returned (.bool (decide (r=own)))∧Below w.heap.size w w':=by
 have HV:Hid (IArg w v own):=hv;have HX:Hid (IArg w x r):=hx;obtain⟨a,c,rfl,_,_⟩:=hv;obtain⟨a',c',rfl,_,_⟩:=hx;go_enter Tryz.func167,Tryz.ntmps167
 go_wp2_with fail
 refine (zO4 r own _ _ _ HX.out HV.out).mono ?_;rintro e w1 ⟨rfl,n,h1⟩;have hb1:=zR3 h1;clear h1;go_wp2
 go_ret
 exact⟨rfl,hb1⟩
theorem zNm (vals:List Int) (l:MLit) (v:Value) (b:Nat) (w:World) (hv:IArg w v vals) (h0:0≤l.var) (h1:l.var<vals.length) (hb:w.cell? ⟨b,0,none⟩=some v) :
 Calls Tryz.prog 237 #[.agg #[.int .i64 l.var,.int .i64 l.op,.int .i64 l.n],.pointer (some ⟨b,0,none⟩)] w fun e w'=>e=.returned (.bool (litB vals l))∧Below w.heap.size w w':=by
 obtain⟨a,c,rfl,hm,hr⟩:=hv;have hbl:b<w.heap.size:=World.block_lt_of_cell? w _ hb;obtain⟨j,hj⟩:∃j:Nat,l.var=(j:Int):=⟨l.var.toNat,by omega⟩
 have hjl:j<vals.length:=by omega
 obtain⟨y,hy⟩:∃y,vals[j]? = some y:=⟨vals[j],by simp[hjl]⟩
 obtain⟨b7,off7,rfl,hb7,g7⟩:=hr j y hy;unfold maxLen at hm;obtain⟨hm1,hm⟩:=hm;have HBV:Hid (litB vals l=litV y l):=by show _=_;unfold litB;rw[hj,zFf vals j y hy]
 rw[HBV.out];obtain⟨B,HB⟩:∃B:Bool,Hid (litV y l=B):=⟨_,rfl⟩;rw[HB.out,hj];obtain⟨W,hW⟩:∃W:World,W=w.alloc (.cells #[.int .i64 (j:Int),.int .i64 l.op,.int .i64 l.n] 76):=⟨_,rfl⟩;have HW:Hid (W=w.alloc (.cells #[.int .i64 (j:Int),.int .i64 l.op,.int .i64 l.n] 76)):=hW;have HBW:Hid (Below w.heap.size w W):=by rw[hW];exact zAA _ _
 have HSW:Hid (W.heap.size=w.heap.size+1):=by show _=_;rw[hW];simp
 have k0:W.cell? ⟨w.heap.size,0,none⟩=some (.int .i64 (j:Int)):=by rw[hW];simp
 have k1:W.cell? ⟨w.heap.size,1,none⟩=some (.int .i64 l.op):=by rw[hW];simp
 have k2:W.cell? ⟨w.heap.size,2,none⟩=some (.int .i64 l.n):=by rw[hW];simp
 have k3:W.cell? ⟨b,0,none⟩=some (.slice (some ⟨b7,off7,none⟩) vals.length c):=by rw[hW];exact (World.cell?_alloc_past _ _ _ hbl).trans hb
 have k4:W.cell? ⟨b7,off7+j,none⟩=some (.int .i64 y):=by rw[hW];exact (World.cell?_alloc_past _ _ _ hb7).trans g7
 have HCL:Hid (∀wq:World,Below W.heap.size W wq→Calls Tryz.prog 172 #[.agg #[.int .i64 (j:Int),.int .i64 l.op,.int .i64 l.n],.int .i64 y] wq fun e w'=>e=.returned (.bool B)∧Below W.heap.size W w'):=by
  intro wq hq;rw[←hj];refine (zG3 l y wq).mono ?_;rintro e w' ⟨rfl,hb⟩;exact⟨by rw[HB.out],hq.trans (hb.mono hq.size)⟩
 clear hW hr hy hj g7 hb HBV HB h0 h1;go_enter Tryz.func237,Tryz.ntmps237
 go_wp2
 rw[←HW.out];refine zEW (by kernel_rfl) (by kernel_rfl) ?_
 go_big_quiet_want
 refine⟨.agg #[.int .i64 (j:Int),.int .i64 l.op,.int .i64 l.n],fun wq hq=>?_,?_⟩
 ·have h0:=(hq.cell (p:=⟨w.heap.size,0,none⟩) (by have:=HSW.out;simp only;omega)).trans k0
  have h1:=(hq.cell (p:=⟨w.heap.size,1,none⟩) (by have:=HSW.out;simp only;omega)).trans k1
  have h2:=(hq.cell (p:=⟨w.heap.size,2,none⟩) (by have:=HSW.out;simp only;omega)).trans k2
  simp[Oper.quietAt,go_sem,h0,h1,h2]
 go_simp
 go_big_quiet_on
 go_big_quiet_want
 refine⟨.slice (some ⟨b7,off7,none⟩) vals.length c,fun wq hq=>?_,?_⟩
 ·have h0:=(hq.cell (p:=⟨b,0,none⟩) (by have:=HSW.out;simp only;omega)).trans k3
  simp[Oper.quietAt,go_sem,h0]
 go_simp
 go_big_quiet_on
 go_big_quiet_want
 go_big_quiet_op
 first | go_big_quiet_on | (refine⟨_,fun _ _=>rfl,?_⟩;go_big_quiet_on)
 go_big_quiet_want
 refine⟨.int .i64 (j:Int),fun wq hq=>?_,?_⟩
 ·have h0:=(hq.cell (p:=⟨w.heap.size,0,none⟩) (by have:=HSW.out;simp only;omega)).trans k0
  simp[Oper.quietAt,go_sem,h0]
 go_simp
 go_big_quiet_on
 go_big_quiet_want
 go_big_quiet_op
 first | go_big_quiet_on | (refine⟨_,fun _ _=>rfl,?_⟩;go_big_quiet_on)
 go_big_quiet_want
 refine⟨.int .i64 y,fun wq hq=>?_,?_⟩
 ·have h0:=(hq.cell (p:=⟨b7,off7+j,none⟩) (by have:=HSW.out;simp only;omega)).trans k4
  simp[Oper.quietAt,go_sem,h0]
 go_simp
 go_big_quiet_on
 go_big_quiet_want
 refine⟨.bool B,fun wq hq=>?_,?_⟩
 ·simp[Oper.quietAt,go_sem]
  exact HCL.out wq hq
 go_simp
 go_big_quiet_on
 go_big_quiet_want
 go_big_quiet_op
 first | go_big_quiet_on | (refine⟨_,fun _ _=>rfl,?_⟩;go_big_quiet_on)
 refine wpQuiet_nil ?_;intro w' hw';have hb4:Below w.heap.size w w':=HBW.out.trans (hw'.mono HBW.out.size);clear hw';go_wp2
 go_ret
 exact⟨rfl,hb4⟩
theorem zHS (c:List MLit) (vals:List Int) (u v:Value) (w:World) (hu:LArg w u c) (hv:IArg w v vals) (hc:∀l∈c,0≤l.var∧l.var<(vals.length:Int)) :
 Calls Tryz.prog 170 #[u,v] w fun e w'=>e=.returned (.bool (c.any (litB vals)))∧Below w.heap.size w w':=by
 have HUA:Hid (∀w':World,Below w.heap.size w w'→LArg w' u c):=fun w' h=>LArg.below h hu
 have HVA:Hid (∀w':World,Below w.heap.size w w'→IArg w' v vals):=fun w' h=>IArg.below h hv
 have HC:Hid (∀l∈c,0≤l.var∧l.var<(vals.length:Int)):=hc;obtain⟨a1,c1,rfl,_,_⟩:=hu;obtain⟨a2,c2,rfl,_,_⟩:=hv;clear hc;go_enter Tryz.func170,Tryz.ntmps170
 go_wp2_with fail
 refine (zE7 237 _ (litB vals) c _ _ (HUA.out _ (zAA _ _)) ⟨zLY,?_⟩).mono ?_
 ·intro l w' hl hb'
  exact zNm vals l _ w.heap.size w' (HVA.out _ ((zAA _ _).trans (hb'.mono (by simp)))) (HC.out l hl).1 (HC.out l hl).2 ((hb'.cell (by simp)).trans (by simp))
 rintro e w3 ⟨rfl,hb3⟩;have hb4:Below w.heap.size w w3:=(zAA _ _).trans (hb3.mono (by simp))
 clear hb3;go_wp2
 go_ret
 exact⟨rfl,hb4⟩
open Go.ChangeShapes Go.WideShapes Go.ChangeAt Go.RowKit Go.Deep
section
variable {H:Type} {enc:TypeId×Value→H} {w:World} {base:Nat} {spare:Nat→Bool} {held:Bool}
theorem Tryz.cInt:Tryz.prog.cellsOf 3=1:=by kernel_rfl
theorem Tryz.cStr:Tryz.prog.cellsOf 9=1:=by kernel_rfl
theorem Tryz.cInts:Tryz.prog.cellsOf 42=1:=by kernel_rfl
theorem Tryz.cRows:Tryz.prog.cellsOf 56=1:=by kernel_rfl
theorem Tryz.cLits:Tryz.prog.cellsOf 27=1:=by kernel_rfl
theorem Tryz.cLit:Tryz.prog.cellsOf 76=3:=by kernel_rfl
theorem Tryz.cVar:Tryz.prog.cellsOf 67=3:=by kernel_rfl
theorem Tryz.cCon:Tryz.prog.cellsOf 69=6:=by kernel_rfl
theorem zSP {n:Nat} {cs:List Value} {x:DataW H×List MemPlace} (h:DataW.trod enc Tryz.prog w base spare held n 76 cs=some x) :
 ∃t:MLit,cs=[.int .i64 t.var,.int .i64 t.op,.int .i64 t.n]:=by
 obtain⟨y0,y1,y2,m,_,hl,h0,h1,h2⟩:=trod_struct3 Tryz.underlying76 h;rw[Tryz.cLit] at hl;obtain⟨k,hk,_,_⟩:=DataW.trod_int Tryz.underlying3 h0;obtain⟨p,hp,_,_⟩:=DataW.trod_int Tryz.underlying3 h1;obtain⟨s,hs,_,_⟩:=DataW.trod_int Tryz.underlying3 h2
 match cs,hl with
 | [c0,c1,c2],_ =>
   change List.take (Tryz.prog.cellsOf 3) [c0,c1,c2]=_ at hk
   change List.take (Tryz.prog.cellsOf 3) [c1,c2]=_ at hp
   change List.take (Tryz.prog.cellsOf 3) [c2]=_ at hs
   rw[Tryz.cInt] at hk hp hs;simp at hk hp hs;exact⟨⟨k,p,s⟩,by rw[hk,hp,hs]⟩
theorem zSQ {n:Nat} {cs:List Value} {x:DataW H×List MemPlace} (h:DataW.trod enc Tryz.prog w base spare held n 67 cs=some x) :
 ∃t:MVar,cs=[.string t.name,.int .i64 t.lo,.int .i64 t.hi]∧t.name.size≤maxLen:=by
 obtain⟨y0,y1,y2,m,_,hl,h0,h1,h2⟩:=trod_struct3 Tryz.underlying67 h;rw[Tryz.cVar] at hl;obtain⟨k,hk,_,hsz⟩:=DataW.trod_string Tryz.underlying9 h0;obtain⟨p,hp,_,_⟩:=DataW.trod_int Tryz.underlying3 h1;obtain⟨s,hs,_,_⟩:=DataW.trod_int Tryz.underlying3 h2
 match cs,hl with
 | [c0,c1,c2],_ =>
   change List.take (Tryz.prog.cellsOf 9) [c0,c1,c2]=_ at hk
   change List.take (Tryz.prog.cellsOf 3) [c1,c2]=_ at hp
   change List.take (Tryz.prog.cellsOf 3) [c2]=_ at hs
   rw[Tryz.cStr] at hk;rw[Tryz.cInt] at hp hs;simp at hk hp hs;exact⟨⟨k,p,s⟩,by rw[hk,hp,hs],hsz⟩
theorem Tryz.cModel:Tryz.prog.cellsOf 25=4:=by kernel_rfl
end
def twoM:Mod:=⟨[⟨⟨#[120]⟩,0,2⟩,⟨⟨#[121]⟩,0,2⟩],[⟨1,[0,1],[1,-1],-1,[],[]⟩],1,1⟩
theorem zBD:zAG twoM=0:=by kernel_rfl
theorem zHT (w:World) (o1 o2 o3 o4 o5:Obj) :
 (((((w.alloc o1).alloc o2).alloc o3).alloc o4).alloc o5).heap[w.heap.size+1]? = some o2∧(((((w.alloc o1).alloc o2).alloc o3).alloc o4).alloc o5).heap[w.heap.size+1+1]? = some o3 ∧
 (((((w.alloc o1).alloc o2).alloc o3).alloc o4).alloc o5).heap[w.heap.size+1+1+1]? = some o4∧(((((w.alloc o1).alloc o2).alloc o3).alloc o4).alloc o5).heap[w.heap.size+1+1+1+1]? = some o5:=by
 refine⟨?_,?_,?_,?_⟩
 all_goals
  show (((((w.heap.push _).push _).push _).push _).push _)[_]? = _;simp only[Array.getElem?_push,Array.size_push]
  repeat first | rw[if_pos (by omega)] | rw[if_neg (by omega)]
 all_goals rfl
theorem zCN (w:World) :
 Calls Tryz.prog 37 #[] w fun e w'=>∃vs cs,e=.returned (modV vs cs twoM)∧MArg w' vs cs twoM∧Below w.heap.size w w':=by
 go_enter Tryz.func37,Tryz.ntmps37
 go_wp2
 refine bodyPost_ret (v:=modV (.slice (some ⟨w.heap.size+1,0,none⟩) 2 2) (.slice (some ⟨w.heap.size+1+1+1+1,0,none⟩) 1 1) twoM) (by simp[results,Tryz.results37,go_sem,modV,twoM]) rfl ⟨_,_,rfl,⟨?_,?_⟩,?_⟩
 ·refine⟨_,_,rfl,⟨by decide,by unfold maxLen;decide⟩,fun i t ht=>?_⟩
  have hb:=(zHT w (.cells #[.slice (some ⟨w.heap.size+1,0,none⟩) 2 2,.slice (some ⟨w.heap.size+1+1+1+1,0,none⟩) 1 1,.int .i64 1,.int .i64 1] 25) (.cells #[.string ⟨#[120]⟩,.int .i64 0,.int .i64 2,.string ⟨#[121]⟩,.int .i64 0,.int .i64 2] 67) (.cells #[.int .i64 0,.int .i64 1] 3) (.cells #[.int .i64 1,.int .i64 (-1)] 3) (.cells #[.int .i64 1,.slice (some ⟨w.heap.size+1+1,0,none⟩) 2 2,.slice (some ⟨w.heap.size+1+1+1,0,none⟩) 2 2,.int .i64 (-1),.slice none 0 0,.slice none 0 0] 69)).1
  match i,ht with
  | 0,ht=>cases ht;exact⟨by unfold maxLen;decide,_,_,rfl,by simp,by rw[Lib.cell_of_heap hb];rfl,by rw[Lib.cell_of_heap hb];rfl,by rw[Lib.cell_of_heap hb];rfl⟩
  | 1,ht=>cases ht;exact⟨by unfold maxLen;decide,_,_,rfl,by simp,by rw[Lib.cell_of_heap hb];rfl,by rw[Lib.cell_of_heap hb];rfl,by rw[Lib.cell_of_heap hb];rfl⟩
 ·refine⟨_,_,rfl,⟨by decide,by unfold maxLen;decide⟩,fun i t ht=>?_⟩
  obtain⟨_,hb2,hb3,hb4⟩:=zHT w (.cells #[.slice (some ⟨w.heap.size+1,0,none⟩) 2 2,.slice (some ⟨w.heap.size+1+1+1+1,0,none⟩) 1 1,.int .i64 1,.int .i64 1] 25) (.cells #[.string ⟨#[120]⟩,.int .i64 0,.int .i64 2,.string ⟨#[121]⟩,.int .i64 0,.int .i64 2] 67) (.cells #[.int .i64 0,.int .i64 1] 3) (.cells #[.int .i64 1,.int .i64 (-1)] 3) (.cells #[.int .i64 1,.slice (some ⟨w.heap.size+1+1,0,none⟩) 2 2,.slice (some ⟨w.heap.size+1+1+1,0,none⟩) 2 2,.int .i64 (-1),.slice none 0 0,.slice none 0 0] 69)
  match i,ht with
  | 0,ht =>
    cases ht
    refine⟨_,_,.slice (some ⟨w.heap.size+1+1,0,none⟩) 2 2,.slice (some ⟨w.heap.size+1+1+1,0,none⟩) 2 2,.slice none 0 0,.slice none 0 0,rfl,by simp,by rw[Lib.cell_of_heap hb4];rfl,by rw[Lib.cell_of_heap hb4];rfl,by rw[Lib.cell_of_heap hb4];rfl,by rw[Lib.cell_of_heap hb4];rfl,by rw[Lib.cell_of_heap hb4];rfl,by rw[Lib.cell_of_heap hb4];rfl,?_⟩
    refine⟨⟨_,_,rfl,⟨by decide,by unfold maxLen;decide⟩,fun i z hz=>?_⟩,⟨_,_,rfl,⟨by decide,by unfold maxLen;decide⟩,fun i z hz=>?_⟩,⟨_,_,rfl,⟨by decide,by unfold maxLen;decide⟩,fun i z hz=>by simp at hz⟩,⟨_,_,rfl,⟨by decide,by unfold maxLen;decide⟩,fun i z hz=>by simp at hz⟩⟩
    ·match i,hz with
     | 0,hz=>cases hz;exact⟨_,_,rfl,by simp,by rw[Lib.cell_of_heap hb2];rfl⟩
     | 1,hz=>cases hz;exact⟨_,_,rfl,by simp,by rw[Lib.cell_of_heap hb2];rfl⟩
    ·match i,hz with
     | 0,hz=>cases hz;exact⟨_,_,rfl,by simp,by rw[Lib.cell_of_heap hb3];rfl⟩
     | 1,hz=>cases hz;exact⟨_,_,rfl,by simp,by rw[Lib.cell_of_heap hb3];rfl⟩
 ·exact (((((Below.refl _ _).alloc (Nat.le_refl _) _).alloc (by simp) _).alloc (by simp;omega) _).alloc (by simp;omega) _).alloc (by simp;omega) _
abbrev Sto:=List (List Int)
def zIJ (lo hi:Int):List Int:=(List.range (hi+1 - lo).toNat).map fun (k:Nat)=>lo+(k:Int)
def litE (vs:List MVar) (l:MLit):Int :=
 if l.var<0∨(vs.length:Int)≤l.var then 5 else if l.op<1∨4<l.op then 7 else if l.n < -1000∨1000<l.n then 3 else 0
def zTS:MLit:=⟨0,0,0⟩
abbrev Cla:=List MLit
def claB (c:Cla) (vals:List Int):Bool:=c.any fun l=>litV (vals.getD l.var.toNat 0) l
def claE (vs:List MVar) (c:Cla):Int:=if 40<c.length then 2 else zAj (c.map (litE vs))
def oneB (c:Cla) (k:Nat) (z:Int):Bool:=c.any fun l=>decide (l.var=(k:Int))&&litV z l
def zEK (vs:List MVar) (l:List Cla):Int:=if 600<l.length then 2 else zAj (l.map (claE vs))
theorem zMq (c:Cla) (k:Nat) (z:Int):oneB c k z=true↔∃l∈c,l.var=(k:Int)∧litV z l=true:=by
 unfold oneB;rw[List.any_eq_true];exact⟨fun⟨l,h1,h2⟩=>⟨l,h1,by simpa using h2⟩,fun⟨l,h1,h2⟩=>⟨l,h1,by simpa using h2⟩⟩
theorem zQq (c:Cla) (vals:List Int):claB c vals=true↔∃l∈c,litV (vals.getD l.var.toNat 0) l=true:=by unfold claB;rw[List.any_eq_true]
def SubS (t s:Sto):Prop:=t.length=s.length∧∀(k:Nat) r q,t[k]? = some r→s[k]? = some q→∀x∈r,x∈q
theorem SubS.refl (s:Sto):SubS s s:=⟨rfl,fun k r q hr hq x hx=>by rw[hr] at hq;cases hq;exact hx⟩
theorem SubS.trans {a b c:Sto} (h:SubS a b) (k:SubS b c):SubS a c:=by
 refine⟨h.1.trans k.1,fun i r q hr hq x hx=>?_⟩
 have hi:i<b.length:=by rw[←h.1];exact (List.getElem?_eq_some_iff.1 hr).1
 have e:b[i]? = some b[i]:=by simp[hi]
 exact k.2 i _ q e hq x (h.2 i r _ hr e x hx)
theorem zSR (l:MLit) (x z:Int) (b1 b2:Nat) (w:World) (h1:w.cell? ⟨b1,0,none⟩=some (.int .i64 x)) (h2:w.cell? ⟨b2,0,none⟩=some (.int .i64 z)) :
 Calls Tryz.prog 230 #[.agg #[.int .i64 l.var,.int .i64 l.op,.int .i64 l.n],.pointer (some ⟨b1,0,none⟩),.pointer (some ⟨b2,0,none⟩)] w fun e w'=>e=.returned (.bool (decide (l.var=x)&&litV z l))∧Below w.heap.size w w':=by
 have l1:b1<w.heap.size:=World.block_lt_of_cell? w _ h1;have l2:b2<w.heap.size:=World.block_lt_of_cell? w _ h2;by_cases hq:l.var=x
 ·have g0:(l.var==x)=true:=by simpa using hq
  have HN:Hid ((decide (l.var=x)&&litV z l)=litV z l):=by show _=_;rw[decide_eq_true hq];rfl
  rw[HN.out];clear hq;go_enter Tryz.func230,Tryz.ntmps230
  go_wp2_with fail
  refine (zG3 l z _).mono ?_;rintro e w1 ⟨rfl,hb1⟩;have hb2:Below w.heap.size w w1:=(zAA _ _).trans (hb1.mono (by simp))
  clear hb1;go_wp2
  go_ret
  exact⟨rfl,hb2⟩
 ·have g0:(l.var==x)=false:=by simpa using hq
  have HN:Hid ((decide (l.var=x)&&litV z l)=false):=by show _=_;rw[decide_eq_false hq];rfl
  rw[HN.out];clear hq;go_enter Tryz.func230,Tryz.ntmps230
  go_wp2
  go_ret
  exact⟨rfl,zAA _ _⟩
theorem zNn (args:Array Value) (w':World):Sem.run Tryz.prog (callFunc 230 args) w'=.ok (.enter 230 args) w':=by
 simp[callFunc,go_sem,Tryz.func230,Tryz.f230]
theorem zS8 (c:Cla) (k:Nat) (z:Int) (u:Value) (w:World) (hu:LArg w u c) :
 Calls Tryz.prog 145 #[u,.int .i64 k,.int .i64 z] w fun e w'=>e=.returned (.bool (oneB c k z))∧Below w.heap.size w w':=by
 have HUA:Hid (∀w':World,Below w.heap.size w w'→LArg w' u c):=fun w' h=>LArg.below h hu
 obtain⟨a1,c1,rfl,_,_⟩:=hu;go_enter Tryz.func145,Tryz.ntmps145
 go_wp2_with fail
 refine (zE7 230 _ (fun l=>decide (l.var=(k:Int))&&litV z l) c _ _ (HUA.out _ ((zAA _ _).alloc (by simp) _)) ⟨zNn,?_⟩).mono ?_
 ·intro l w' hl hb'
  refine zSR l k z w.heap.size (w.heap.size+1) w' ?_ ?_
  ·exact (hb'.cell (by simp;omega)).trans ((World.cell?_alloc_past _ _ _ (by simp)).trans (World.cell?_alloc_at _ _ _ 0 (by simp)))
  ·exact (hb'.cell (by simp)).trans (World.cell?_alloc_at _ _ _ 0 (by simp))
 rintro e w3 ⟨rfl,hb3⟩;have hb4:Below w.heap.size w w3:=((zAA _ _).alloc (by simp) _).trans (hb3.mono (by simp;omega))
 clear hb3;go_wp2
 go_ret
 exact⟨rfl,hb4⟩
def zIi (t s:Sto):Prop:=t.length=s.length∧∀(k:Nat) r q,t[k]? = some r→s[k]? = some q→r.Sublist q
theorem zIi.refl (s:Sto):zIi s s:=⟨rfl,fun k r q hr hq=>by rw[hr] at hq;cases hq;exact List.Sublist.refl _⟩
theorem zIi.trans {a b c:Sto} (h:zIi a b) (k:zIi b c):zIi a c:=by
 refine⟨h.1.trans k.1,fun i r q hr hq=>?_⟩
 have hi:i<b.length:=by rw[←h.1];exact (List.getElem?_eq_some_iff.1 hr).1
 have e:b[i]? = some b[i]:=by simp[hi]
 exact (h.2 i r _ hr e).trans (k.2 i _ q e hq)
end Go.Proofs.YtndcpnlaadikoaaGreatDoor
