/- What the proof leans on, part 20. -/
import Derived.Test.YtdjbejlbmaiocafGreatDoorPartAs
import Derived.Test.YtdjbejlbmaiocafGreatDoorPartAk
import Derived.Test.YtdjbejlbmaiocafGreatDoorPartAi
import Derived.Test.YtdjbejlbmaiocafGreatDoorPartAo
import Derived.Laws.ShiftsVarLaws
namespace Go.Proofs.YtdjbejlbmaiocafGreatDoor
open Go.RowKit
def zLG (F:Nat) (c1:Value) (l:List MCon) (p:MCon→Bool) (w:World):Prop :=
 (∀(args:Array Value) (w':World),Sem.run Tryz.prog (callFunc F args) w'=.ok (.enter F args) w') ∧
 ∀(t:MCon) (vv vc vr vl:Value) (w':World),t∈l→Below w.heap.size w w'→KArg w' vv vc vr vl t→Calls Tryz.prog F #[conV vv vc vr vl t,c1] w' fun e w''=>e=.returned (.bool (p t))∧Below w'.heap.size w' w''
set_option maxHeartbeats 800000 in
set_option maxRecDepth 100000 in
theorem zG0 (F:Nat) (c1:Value) (p:MCon→Bool) (l:List MCon) (v:Value) (w:World) (hv:CArg w v l) (hF:zLG F c1 l p w) :
 Calls Tryz.prog 206 #[v,.func (.func F) #[] #[c1]] w fun e w'=>(∃z:Int,e=.returned (.int .i64 z)∧decide (0≤z)=l.any p)∧Below w.heap.size w w':=by
 obtain⟨a,c,rfl,hm,hr⟩:=hv
 have HV:Hid (∀(i:Nat) (t:MCon),l[i]? = some t→∃b off vv vc vr vl,a=some ⟨b,off,none⟩∧b<w.heap.size ∧
  w.cell? ⟨b,off+i * 6,none⟩=some (.int .i64 t.kind)∧w.cell? ⟨b,off+i * 6+1,none⟩=some vv∧w.cell? ⟨b,off+i * 6+2,none⟩=some vc ∧
  w.cell? ⟨b,off+i * 6+3,none⟩=some (.int .i64 t.n)∧w.cell? ⟨b,off+i * 6+4,none⟩=some vr∧w.cell? ⟨b,off+i * 6+5,none⟩=some vl∧KArg w vv vc vr vl t):=hr
 obtain⟨R,hR⟩:∃R,l.any p=R:=⟨_,rfl⟩
 rw[hR]
 have HR:Hid (l.any p=R):=hR
 have HF:Hid (zLG F c1 l p w):=hF
 unfold maxLen at hm
 obtain⟨hm1,hm⟩:=hm
 clear hr hR hF
 go_enter Tryz.func206,Tryz.ntmps206
 go_wp2_with fail
 go_loopw [8] (fun i wr=>∃m:Nat,m≤l.length∧i=.int .i64 m∧Hid ((l.take m).any p=false)∧Below w.heap.size w wr) (fun i _=>l.length - (intOf i).toNat)
 case atStart=>exact⟨0,by omega,rfl,rfl,Below.refl _ _⟩
 case round =>
  obtain⟨m,hml,rfl,hall,hbw⟩:=hrel
  by_cases hlt:m<l.length
  ·obtain⟨z,hz⟩:∃z,l[m]? = some z:=⟨l[m],by simp[hlt]⟩
   obtain⟨b,off,vv,vc,vr,vl,ha,hb,d0,d1,d2,d3,d4,d5,hk⟩:=HV.out m z hz
   have e0:=(hbw.cell (p:=⟨b,off+m * 6,none⟩) hb).trans d0
   have e1:=(hbw.cell (p:=⟨b,off+m * 6+1,none⟩) hb).trans d1
   have e2:=(hbw.cell (p:=⟨b,off+m * 6+2,none⟩) hb).trans d2
   have e3:=(hbw.cell (p:=⟨b,off+m * 6+3,none⟩) hb).trans d3
   have e4:=(hbw.cell (p:=⟨b,off+m * 6+4,none⟩) hb).trans d4
   have e5:=(hbw.cell (p:=⟨b,off+m * 6+5,none⟩) hb).trans d5
   have HK:Hid (KArg wr vv vc vr vl z):=KArg.below hbw hk
   have HZ:Hid (l[m]? = some z):=hz
   obtain⟨⟨a1,c1',rfl,_,_⟩,⟨a2,c2,rfl,_,_⟩,⟨a3,c3,rfl,_,_⟩,⟨a4,c4,rfl,_,_⟩⟩:=hk
   subst ha
   clear hz d0 d1 d2 d3 d4 d5
   cases hq:p z
   ·have HN:Hid ((l.take (m+1)).any p=false):=zEE _ l m z HZ.out hall.out hq
    go_wp2_with fail
    rw[HF.out.1,Oper.upon_enter]
    refine (HF.out.2 z _ _ _ _ _ (List.mem_of_getElem? HZ.out) hbw HK.out).mono ?_
    rintro e w1 ⟨rfl,hb1⟩
    rw[hq]
    clear hq
    go_wp2
    go_roundw
    case rel=>exact⟨m+1,by omega,by go_num,HN,hbw.trans (hb1.mono hbw.size)⟩
    case measure=>simp[intOf];omega
   ·have HN:Hid (R=true):=by rw[←HR.out];exact zFX p l m z HZ.out hq
    go_wp2_with fail
    rw[HF.out.1,Oper.upon_enter]
    refine (HF.out.2 z _ _ _ _ _ (List.mem_of_getElem? HZ.out) hbw HK.out).mono ?_
    rintro e w1 ⟨rfl,hb1⟩
    rw[hq]
    clear hq
    go_wp2
    go_ret
    exact⟨⟨_,rfl,by rw[HN.out];simp⟩,hbw.trans (hb1.mono hbw.size)⟩
  ·have HN:Hid (R=false):=by rw[←HR.out];exact zFY _ l m hlt hall.out
   go_wp2
   go_ret
   exact⟨⟨_,rfl,by rw[HN.out];rfl⟩,hbw⟩
set_option maxHeartbeats 400000 in
theorem zEv (F:Nat) (c1:Value) (p:MCon→Bool) (l:List MCon) (v:Value) (w:World) (hv:CArg w v l) (hF:zLG F c1 l p w) :
 Calls Tryz.prog 132 #[v,.func (.func F) #[] #[c1]] w fun e w'=>e=.returned (.bool (l.any p))∧Below w.heap.size w w':=by
 go_enter Tryz.func132,Tryz.ntmps132
 go_wp2_with fail
 refine (zG0 F c1 p l v _ hv hF).mono ?_
 rintro e w1 ⟨⟨z,rfl,hz⟩,hb1⟩
 have HZ:Hid (decide (0≤z)=l.any p):=hz
 clear hz
 go_wp2
 go_ret
 exact⟨zAB HZ.out,hb1⟩
theorem zFe (args:Array Value) (w':World):Sem.run Tryz.prog (callFunc 130 args) w'=.ok (.enter 130 args) w':=by
 simp[callFunc,go_sem,Tryz.func130,Tryz.f130]
set_option maxHeartbeats 800000 in
set_option maxRecDepth 100000 in
theorem zIC (c:MCon) (vals:List Int) (vv vc vr vl v:Value) (b:Nat) (w:World) (hk:KArg w vv vc vr vl c) (hv:IArg w v vals) (hc:conE vals.length c=0) (hob:∀x∈ownV c.vars vals,-50≤x∧x≤50) (hb:w.cell? ⟨b,0,none⟩=some v) :
 Calls Tryz.prog 130 #[conV vv vc vr vl c,.pointer (some ⟨b,0,none⟩)] w fun e w'=>e=.returned (.bool (!zAN c vals))∧Below w.heap.size w w':=by
 have hbl:b<w.heap.size:=World.block_lt_of_cell? w _ hb
 have HK:Hid (∀w',Below w.heap.size w w'→KArg w' vv vc vr vl c):=fun w' h=>KArg.below h hk
 have HV:Hid (∀w',Below w.heap.size w w'→IArg w' v vals):=fun w' h=>IArg.below h hv
 have HC:Hid (conE vals.length c=0):=hc
 have HO:Hid (∀x∈ownV c.vars vals,-50≤x∧x≤50):=hob
 obtain⟨⟨a1,c1,rfl,_,_⟩,⟨a2,c2,rfl,_,_⟩,⟨a3,c3,rfl,_,_⟩,⟨a4,c4,rfl,_,_⟩⟩:=hk
 obtain⟨a5,c5,rfl,_,_⟩:=hv
 obtain⟨R,hR⟩:∃R,zAN c vals=R:=⟨_,rfl⟩
 rw[hR]
 have HR:Hid (zAN c vals=R):=hR
 unfold conV
 clear hR hc hob
 go_enter Tryz.func130,Tryz.ntmps130
 go_wp2_with fail
 refine (zJJ c vals (.slice a1 c.vars.length c1) (.slice a2 c.consts.length c2) (.slice a3 c.rows.length c3) (.slice a4 c.lits.length c4) _ _ (HK.out _ (zAA _ _)) (HV.out _ (zAA _ _)) HC.out HO.out).mono ?_
 rintro e w1 ⟨rfl,hb1⟩
 rw[HR.out]
 have HB1:Hid (Below w.heap.size w w1):=(zAA _ _).trans (hb1.mono (by simp))
 clear hb1
 go_wp2
 go_ret
 exact⟨rfl,HB1.out⟩
set_option maxHeartbeats 400000 in
set_option maxRecDepth 100000 in
theorem zLH (l:MLit) (x z:Int) (b1 b2:Nat) (w:World) (h1:w.cell? ⟨b1,0,none⟩=some (.int .i64 x)) (h2:w.cell? ⟨b2,0,none⟩=some (.int .i64 z)) :
 Calls Tryz.prog 163 #[.agg #[.int .i64 l.var,.int .i64 l.op,.int .i64 l.n],.pointer (some ⟨b1,0,none⟩),.pointer (some ⟨b2,0,none⟩)] w fun e w'=>e=.returned (.bool (decide (l.var=x)&&litV z l))∧Below w.heap.size w w':=by
 have l1:b1<w.heap.size:=World.block_lt_of_cell? w _ h1
 have l2:b2<w.heap.size:=World.block_lt_of_cell? w _ h2
 by_cases hq:l.var=x
 ·have g0:(l.var==x)=true:=by simpa using hq
  have HN:Hid ((decide (l.var=x)&&litV z l)=litV z l):=by show _=_;rw[decide_eq_true hq];rfl
  rw[HN.out]
  clear hq
  go_enter Tryz.func163,Tryz.ntmps163
  go_wp2_with fail
  refine (zD2 l z _).mono ?_
  rintro e w1 ⟨rfl,hb1⟩
  have hb2:Below w.heap.size w w1:=(zAA _ _).trans (hb1.mono (by simp))
  clear hb1
  go_wp2
  go_ret
  exact⟨rfl,hb2⟩
 ·have g0:(l.var==x)=false:=by simpa using hq
  have HN:Hid ((decide (l.var=x)&&litV z l)=false):=by show _=_;rw[decide_eq_false hq];rfl
  rw[HN.out]
  clear hq
  go_enter Tryz.func163,Tryz.ntmps163
  go_wp2
  go_ret
  exact⟨rfl,zAA _ _⟩
theorem zID (args:Array Value) (w':World):Sem.run Tryz.prog (callFunc 163 args) w'=.ok (.enter 163 args) w':=by
 simp[callFunc,go_sem,Tryz.func163,Tryz.f163]
set_option maxHeartbeats 400000 in
set_option maxRecDepth 100000 in
theorem zLg (c:Cla) (k:Nat) (z:Int) (u:Value) (w:World) (hu:LArg w u c) :
 Calls Tryz.prog 95 #[u,.int .i64 k,.int .i64 z] w fun e w'=>e=.returned (.bool (oneB c k z))∧Below w.heap.size w w':=by
 have HUA:Hid (∀w':World,Below w.heap.size w w'→LArg w' u c):=fun w' h=>LArg.below h hu
 obtain⟨a1,c1,rfl,_,_⟩:=hu
 go_enter Tryz.func95,Tryz.ntmps95
 go_wp2_with fail
 refine (zCo 163 _ (fun l=>decide (l.var=(k:Int))&&litV z l) c _ _ (HUA.out _ ((zAA _ _).alloc (by simp) _)) ⟨zID,?_⟩).mono ?_
 ·intro l w' hl hb'
  refine zLH l k z w.heap.size (w.heap.size+1) w' ?_ ?_
  ·exact (hb'.cell (by simp;omega)).trans ((World.cell?_alloc_past _ _ _ (by simp)).trans (World.cell?_alloc_at _ _ _ 0 (by simp)))
  ·exact (hb'.cell (by simp)).trans (World.cell?_alloc_at _ _ _ 0 (by simp))
 rintro e w3 ⟨rfl,hb3⟩
 have hb4:Below w.heap.size w w3:=((zAA _ _).alloc (by simp) _).trans (hb3.mono (by simp;omega))
 clear hb3
 go_wp2
 go_ret
 exact⟨rfl,hb4⟩
theorem zFH {vs:List MVar} {v:Nat} (h:v<vs.length):vs[v]? = some (zAE vs v):=by
 unfold zAE;rw[List.getD_eq_getElem?_getD,List.getElem?_eq_getElem h];rfl
theorem zLI (c:Int) (k:Nat) (h:c=(k:Int)) (hk:k<64):IntKind.u64.wrap (2 ^ c.toNat)=((2 ^ k:Nat):Int):=by
 rw[IntKind.wrap_u64,h,Int.toNat_natCast]
 have h1:(2:Nat) ^ k<2 ^ 64:=Nat.pow_lt_pow_right (by omega) hk
 have e:((2:Int) ^ k)=((2 ^ k:Nat):Int):=by simp
 rw[e]
 exact Int.emod_eq_of_lt (Int.natCast_nonneg _) (Int.ofNat_lt.2 h1)
set_option maxHeartbeats 400000 in
set_option maxRecDepth 100000 in
theorem zJK (vs:List MVar) (hvo:zAW vs) (v:Nat) (x:Int) (sv:Value) (w:World) (hv:VArg w sv vs) (hl:v<vs.length) (h1:(zAE vs v).lo≤x) (h2:x≤(zAE vs v).hi) (h3:-50≤(zAE vs v).lo∧(zAE vs v).hi≤50) :
 Calls Tryz.prog 219 #[sv,.int .i64 v,.int .i64 x] w fun e w'=>e=.returned (.int .u64 ((2 ^ (6 * v+(x - (zAE vs v).lo).toNat):Nat):Int))∧w'=w:=by
 obtain⟨a,c,rfl,hm,hr⟩:=hv
 obtain⟨_,b,off,rfl,hb,c0,c1,c2⟩:=hr v _ (zFH hl)
 unfold maxLen at hm
 obtain⟨hm1,hm⟩:=hm
 have h6:=hvo.1
 have hs:=hvo.2 v
 unfold zBH at hs
 obtain⟨lo,hlo⟩:∃lo,(zAE vs v).lo=lo:=⟨_,rfl⟩
 rw[hlo] at h1 h3 hs c1 ⊢
 have HK:Hid (IntKind.u64.wrap (2 ^ ((v:Int) * 6+x - lo).toNat)=((2 ^ (6 * v+(x - lo).toNat):Nat):Int)):=zLI _ _ (by omega) (by omega)
 have hsh:(0:Int)≤(v:Int) * 6+x - lo:=by omega
 have hsl:(v:Int) * 6+x - lo≤64:=by omega
 clear hr hs hlo
 go_enter Tryz.func219,Tryz.ntmps219
 go_wp2
 go_ret
 exact⟨zAF HK.out,rfl⟩
def zLh (F:Nat) (caps:Array Value) (vs:List MVar) (p:Nat→Int→Bool) (w:World):Prop :=
 (∀(args:Array Value) (w':World),Sem.run Tryz.prog (callFunc F args) w'=.ok (.enter F args) w') ∧
 ∀(k:Nat) (z:Int) (w':World),k<vs.length→(zAE vs k).lo≤z→z≤(zAE vs k).hi→Below w.heap.size w w'→Calls Tryz.prog F (#[.int .i64 k,.int .i64 z]++caps) w' fun e w''=>e=.returned (.bool (p k z))∧Below w'.heap.size w' w''
def zAH (vs:List MVar):Prop:=zAW vs∧∀v:Nat,v<vs.length→-50≤(zAE vs v).lo∧(zAE vs v).hi≤50∧(zAE vs v).lo≤(zAE vs v).hi
theorem zFf (m:Mod) (hm:zAI m=0):zAH m.vars:=⟨zBw m hm,fun v hv=>by
 have:=zHO m hm v _ (zFH hv)
 omega⟩
theorem zEc {a b:Nat} (ha:a<2 ^ 36) (hb:b<2 ^ 36):a ||| b<2 ^ 36:=Nat.or_lt_two_pow ha hb
theorem zFg (vs:List MVar) (hv:zAH vs) (v k:Nat) (h:v<vs.length) (hk:k<zBH (zAE vs v)):2 ^ (6 * v+k)<2 ^ 36:=by
 have h1:=hv.1.1
 have h2:=hv.1.2 v
 exact Nat.pow_lt_pow_right (by omega) (by omega)
theorem zKQ (vs:List MVar) (hv:zAH vs) (f:Int→Bool) (v k:Nat) (h:v<vs.length) (hk:k≤zBH (zAE vs v)):rowP f (6 * v) (zAE vs v).lo k<2 ^ 36:=by
 have h1:=hv.1.1
 have h2:=hv.1.2 v
 apply Nat.lt_pow_two_of_testBit
 intro i hi
 rw[zBP]
 have:¬(i<6 * v+k):=by omega
 simp[this]
theorem zJL (f:Int→Bool) (b:Nat) (lo:Int) (k:Nat) (h:f (lo+(k:Int))=false):rowP f b lo (k+1)=rowP f b lo k:=by
 show (if f (lo+(k:Int)) then _ else _)=_
 rw[h];rfl
theorem zKR (f:Int→Bool) (b:Nat) (lo:Int) (k:Nat) (h:f (lo+(k:Int))=true):rowP f b lo (k+1)=rowP f b lo k ||| 2 ^ (b+k):=by
 show (if f (lo+(k:Int)) then _ else _)=_
 rw[h];rfl
set_option maxHeartbeats 800000 in
set_option maxRecDepth 100000 in
theorem zK0 (F:Nat) (caps:Array Value) (vs:List MVar) (p:Nat→Int→Bool) (hva:zAH vs) (sv:Value) (w:World) (hv:VArg w sv vs) (hF:zLh F caps vs p w) :
 Calls Tryz.prog 214 #[sv,.func (.func F) #[] caps] w fun e w'=>e=.returned (.int .u64 ((ofP vs p:Nat):Int))∧Below w.heap.size w w':=by
 have HVA:Hid (∀w':World,Below w.heap.size w w'→VArg w' sv vs):=fun w' h=>VArg.below h hv
 obtain⟨a,c,rfl,hm,hr⟩:=hv
 have HV:Hid (∀(i:Nat) (t:MVar),vs[i]? = some t→t.name.size≤maxLen∧∃b off,a=some ⟨b,off,none⟩∧b<w.heap.size ∧
  w.cell? ⟨b,off+i * 3,none⟩=some (.string t.name)∧w.cell? ⟨b,off+i * 3+1,none⟩=some (.int .i64 t.lo)∧w.cell? ⟨b,off+i * 3+2,none⟩=some (.int .i64 t.hi)):=hr
 have HF:Hid (zLh F caps vs p w):=hF
 have HVO:Hid (zAH vs):=hva
 have h6:=hva.1.1
 unfold maxLen at hm
 obtain⟨hm1,hm⟩:=hm
 clear hr hF hva
 go_enter Tryz.func214,Tryz.ntmps214
 go_wp2_with fail
 go_loopw [5,11] (fun o i wr=>∃k:Nat,k≤vs.length∧i=.int .i64 k∧o=.int .u64 ((ofN vs p k:Nat):Int)∧Below w.heap.size w wr) (fun _ i _=>vs.length - (intOf i).toNat)
 case atStart=>exact⟨0,by omega,rfl,rfl,Below.refl _ _⟩
 case round =>
  obtain⟨k,hk,rfl,rfl,hbw⟩:=hrel
  have HBW:Hid (Below w.heap.size w wr):=hbw
  clear hbw
  by_cases hlt:k<vs.length
  ·obtain⟨hnm,b,off,ha,hb,q0,q1,q2⟩:=HV.out k _ (zFH hlt)
   subst ha
   have hbn:=HVO.out.2 k hlt
   have hsz:=HVO.out.1.2 k
   have HSZ:Hid (zBH (zAE vs k)=((zAE vs k).hi+1 - (zAE vs k).lo).toNat):=rfl
   obtain⟨n,hn⟩:∃n,zBH (zAE vs k)=n:=⟨_,rfl⟩
   have HN:Hid (zBH (zAE vs k)=n):=hn
   have hnn:(n:Int)=(zAE vs k).hi+1 - (zAE vs k).lo:=by
    have:=HSZ.out
    omega
   have hn6:n≤6:=by omega
   have hc0:=(HBW.out.cell (p:=⟨b,off+k * 3,none⟩) hb).trans q0
   have hc1:=(HBW.out.cell (p:=⟨b,off+k * 3+1,none⟩) hb).trans q1
   have hc2:=(HBW.out.cell (p:=⟨b,off+k * 3+2,none⟩) hb).trans q2
   obtain⟨lo,hlo⟩:∃lo,(zAE vs k).lo=lo:=⟨_,rfl⟩
   obtain⟨hi,hhi⟩:∃hi,(zAE vs k).hi=hi:=⟨_,rfl⟩
   have HLO:Hid ((zAE vs k).lo=lo):=hlo
   have HHI:Hid ((zAE vs k).hi=hi):=hhi
   rw[hlo] at hc1 hbn hnn
   rw[hhi] at hc2 hbn hnn
   obtain⟨nm,hnm2⟩:∃nm,(zAE vs k).name=nm:=⟨_,rfl⟩
   rw[hnm2] at hc0
   have HO:Hid (ofN vs p (k+1)=ofN vs p k ||| rowP (p k) (6 * k) lo n):=by show _=_;rw[←hlo,←hn];rfl
   have HO36:Hid (ofN vs p k<2 ^ 36):=zKz vs HVO.out.1 p k (by omega)
   have HROW:Hid (∀j,j≤n→rowP (p k) (6 * k) lo j<2 ^ 36):=fun j hj=>by rw[←hlo];exact zKQ vs HVO.out (p k) k j hlt (by omega)
   have HPOW:Hid (∀j,j<n→2 ^ (6 * k+j)<2 ^ 36):=fun j hj=>zFg vs HVO.out k j hlt (by omega)
   clear q0 q1 q2 hsz hn hlo hhi hnm hnm2 HSZ
   have hbs:=HBW.out.size
   obtain⟨B,hB⟩:∃B,wr.heap.size=B:=⟨_,rfl⟩
   obtain⟨o0,ho0⟩:∃o0,ofN vs p k=o0:=⟨_,rfl⟩
   have HO0:Hid (ofN vs p k=o0):=ho0
   rw[ho0] at HO HO36 ⊢
   clear ho0
   have HVO2:Hid (zAW vs):=HVO.out.1
   have hlk:(zAE vs k).lo=lo:=HLO.out
   have HONE:Hid (∀(j:Nat) (w':World),j<n→Below w.heap.size w w'→Calls Tryz.prog 219 #[.slice (some ⟨b,off,none⟩) vs.length c,.int .i64 k,.int .i64 (lo+(j:Int))] w' fun e w''=>e=.returned (.int .u64 ((2 ^ (6 * k+j):Nat):Int))∧w''=w'):=by
    intro j w' hj hb'
    have h1:=zJK vs HVO2.out k (lo+(j:Int)) _ w' (HVA.out w' hb') hlt (by rw[HLO.out];omega) (by rw[HHI.out];omega) (by rw[HLO.out,HHI.out];omega)
    rw[HLO.out,show (lo+(j:Int) - lo).toNat=j by omega] at h1
    exact h1
   have HCLO:Hid (∀(j:Nat) (w':World),j<n→Below w.heap.size w w'→Calls Tryz.prog F (#[.int .i64 k,.int .i64 (lo+(j:Int))]++caps) w' fun e w''=>e=.returned (.bool (p k (lo+(j:Int))))∧Below w'.heap.size w' w''):=by
    intro j w' hj hb'
    exact HF.out.2 k _ w' hlt (by rw[HLO.out];omega) (by rw[HHI.out];omega) hb'
   clear hlk
   go_wp2_with fail
   have HB:Hid (wr.heap.size=B):=hB
   have HB0:Hid (Below w.heap.size w (wr.alloc (.cells #[.string nm,.int .i64 lo,.int .i64 hi] 95))):=HBW.out.alloc hbs _
   have HC2:Hid ((wr.alloc (.cells #[.string nm,.int .i64 lo,.int .i64 hi] 95)).cell? ⟨B,2,none⟩=some (.int .i64 hi)):=by show _=_;rw[←hB];exact World.cell?_alloc_at _ _ _ 2 (by simp)
   have HW:Hid (w.heap.size≤B):=by rw[←hB];exact hbs
   obtain⟨W1,hW1⟩:∃W1,wr.alloc (.cells #[.string nm,.int .i64 lo,.int .i64 hi] 95)=W1:=⟨_,rfl⟩
   rw[hW1] at HB0 HC2 ⊢
   have HW1:Hid (W1.heap.size=B+1):=by show _=_;rw[←hW1,←hB];simp
   clear hc0 hc1 hc2 hB hW1 hbs
   go_loopw [5,8] (fun o i wr=>∃j:Nat,j≤n∧i=.int .i64 (lo+(j:Int))∧o=.int .u64 ((o0 ||| rowP (p k) (6 * k) lo j:Nat):Int)∧Below W1.heap.size W1 wr) (fun _ i _=>(hi+1 - intOf i).toNat)
   case atStart=>exact⟨0,by omega,by simp,by simp[rowP],Below.refl _ _⟩
   case round =>
    obtain⟨j,hj,rfl,rfl,hbw2⟩:=hrel
    have hcc:=(hbw2.cell (p:=⟨B,2,none⟩) (by rw[HW1.out];simp)).trans HC2.out
    have HBN:Hid (Below w.heap.size w wr):=HB0.out.trans (hbw2.mono (by rw[HW1.out];have:=HW.out;omega))
    have HBW2:Hid (Below W1.heap.size W1 wr):=hbw2
    clear hbw2
    by_cases hlj:j<n
    ·have hle:lo+(j:Int)≤hi:=by omega
     have HCALL:=HCLO.out j wr hlj HBN.out
     cases hq:p k (lo+(j:Int))
     ·have HNX:Hid (rowP (p k) (6 * k) lo (j+1)=rowP (p k) (6 * k) lo j):=zJL _ _ _ _ hq
      obtain⟨q,hqq⟩:∃q,o0 ||| rowP (p k) (6 * k) lo j=q:=⟨_,rfl⟩
      have HQ:Hid (o0 ||| rowP (p k) (6 * k) lo j=q):=hqq
      rw[hqq]
      have HC3:Hid (Calls Tryz.prog F (#[.int .i64 k,.int .i64 (lo+(j:Int))]++caps) wr fun e w''=>e=.returned (.bool false)∧Below wr.heap.size wr w''):=by rw[←hq];exact HCALL
      clear hqq HCALL hq
      go_wp2_with fail
      rw[HF.out.1,Oper.upon_enter]
      refine HC3.out.mono ?_
      rintro e w1 ⟨rfl,hb1⟩
      have HB3:Hid (Below W1.heap.size W1 w1):=HBW2.out.trans (hb1.mono HBW2.out.size)
      clear hb1 hcc
      go_wp2
      go_roundw
      case rel=>exact⟨j+1,by omega,by go_num,by rw[HNX.out,HQ.out],HB3.out⟩
      case measure=>simp[intOf];omega
     ·have HNX:Hid (rowP (p k) (6 * k) lo (j+1)=rowP (p k) (6 * k) lo j ||| 2 ^ (6 * k+j)):=zKR _ _ _ _ hq
      obtain⟨q,hqq⟩:∃q,o0 ||| rowP (p k) (6 * k) lo j=q:=⟨_,rfl⟩
      have hq36:q<2 ^ 36:=by rw[←hqq];exact zEc HO36.out (HROW.out j hj)
      have hp36:=HPOW.out j hlj
      have HQ:Hid (o0 ||| rowP (p k) (6 * k) lo (j+1)=q ||| 2 ^ (6 * k+j)):=by show _=_;rw[HNX.out,←hqq,Nat.or_assoc]
      rw[hqq]
      have HC3:Hid (Calls Tryz.prog F (#[.int .i64 k,.int .i64 (lo+(j:Int))]++caps) wr fun e w''=>e=.returned (.bool true)∧Below wr.heap.size wr w''):=by rw[←hq];exact HCALL
      have HO1:=HONE
      obtain⟨t,ht⟩:∃t,2 ^ (6 * k+j)=t:=⟨_,rfl⟩
      have HT:Hid (2 ^ (6 * k+j)=t):=ht
      rw[ht] at HQ hp36
      have hor:=bits_or_u64_nat q t (by omega) (by omega)
      clear hqq HCALL hq ht hq36 hp36
      go_wp2_with fail
      rw[HF.out.1,Oper.upon_enter]
      refine HC3.out.mono ?_
      rintro e w1 ⟨rfl,hb1⟩
      have HB3:Hid (Below W1.heap.size W1 w1):=HBW2.out.trans (hb1.mono HBW2.out.size)
      have HBN3:Hid (Below w.heap.size w w1):=HBN.out.trans (hb1.mono HBN.out.size)
      clear hb1 hcc
      go_wp2_with fail
      refine (HONE.out j w1 hlj HBN3.out).mono ?_
      rintro e w2 ⟨rfl,rfl⟩
      rw[HT.out]
      go_wp2
      go_roundw
      case rel=>exact⟨j+1,by omega,by go_num,by rw[HQ.out],HB3.out⟩
      case measure=>simp[intOf];omega
    ·have hle:¬(lo+(j:Int)≤hi):=by omega
     have hjn:j=n:=by omega
     have HNX:Hid (o0 ||| rowP (p k) (6 * k) lo j=ofN vs p (k+1)):=by show _=_;rw[HO.out,hjn]
     clear hjn
     obtain⟨q,hqq⟩:∃q,o0 ||| rowP (p k) (6 * k) lo j=q:=⟨_,rfl⟩
     rw[hqq] at HNX ⊢
     clear hqq
     go_wp2
     go_roundw
     case rel=>exact⟨k+1,by omega,by go_num,by rw[HNX.out],HBN.out⟩
     case measure=>simp[intOf];omega
  ·have hke:k=vs.length:=by omega
   subst hke
   go_wp2
   go_ret
   exact⟨rfl,HBW.out⟩
theorem zLJ (p k:Nat) (hp:p<2 ^ 36):bits .and .u64 ((p:Int) / 2 ^ (k * 6)) 63=((p / 2 ^ (k * 6) &&& 63:Nat):Int):=by
 have e2:(p:Int) / 2 ^ (k * 6)=((p / 2 ^ (k * 6):Nat):Int):=by simp
 rw[e2]
 have h1:p / 2 ^ (k * 6)≤p:=Nat.div_le_self _ _
 exact bits_and_u64_nat _ 63 (by omega) (by omega)
theorem zHb (n p k:Nat) (h:k<n) (h0:p / 2 ^ (k * 6) &&& 63=0):zBf n p=true:=by
 unfold zBf
 exact List.any_eq_true.2 ⟨k,List.mem_range.2 h,by simp[h0]⟩
theorem zJM (n p:Nat) (h:∀k,k<n→p / 2 ^ (k * 6) &&& 63≠0):zBf n p=false:=by
 cases hl:zBf n p
 ·rfl
 ·unfold zBf at hl
  obtain⟨v,hv,hb⟩:=List.any_eq_true.1 hl
  exact absurd (by simpa using hb) (h v (List.mem_range.1 hv))
set_option maxHeartbeats 400000 in
set_option maxRecDepth 100000 in
theorem zEd (vs:List MVar) (hn:vs.length≤6) (p:Nat) (hp:p<2 ^ 36) (sv:Value) (w:World) (hv:VArg w sv vs) :
 Calls Tryz.prog 251 #[sv,.int .u64 p] w fun e w'=>e=.returned (.bool (zBf vs.length p))∧w'=w:=by
 obtain⟨a,c,rfl,hm,_⟩:=hv
 unfold maxLen at hm
 obtain⟨hm1,hm⟩:=hm
 obtain⟨R,hR⟩:∃R,zBf vs.length p=R:=⟨_,rfl⟩
 rw[hR]
 have HR:Hid (zBf vs.length p=R):=hR
 clear hR
 have HP:Hid (p<2 ^ 36):=hp
 clear hp
 go_enter Tryz.func251,Tryz.ntmps251
 go_wp2_with fail
 go_loopw [8] (fun i wr=>∃k:Nat,k≤vs.length∧i=.int .i64 k∧Hid (∀j,j<k→p / 2 ^ (j * 6) &&& 63≠0)∧wr=w) (fun i _=>vs.length - (intOf i).toNat)
 case atStart=>exact⟨0,by omega,rfl,fun j h=>by omega,rfl⟩
 case round =>
  obtain⟨k,hk,rfl,hall,rfl⟩:=hrel
  by_cases hlt:k<vs.length
  ·obtain⟨q,hq⟩:∃q,p / 2 ^ (k * 6) &&& 63=q:=⟨_,rfl⟩
   have hb:=zLJ p k HP.out
   rw[hq] at hb
   have HQ:Hid (p / 2 ^ (k * 6) &&& 63=q):=hq
   clear hq
   have h2:(0:Int)≤(k:Int) * 6:=by omega
   by_cases h0:q=0
   ·have HN:Hid (R=true):=by show _=_;rw[←HR.out];exact zHb _ _ k hlt (by rw[HQ.out];exact h0)
    subst h0
    go_wp2
    go_ret
    exact⟨zAB HN.out.symm,rfl⟩
   ·have HN:Hid (∀j,j<k+1→p / 2 ^ (j * 6) &&& 63≠0):=fun j hj=>by
     by_cases hjk:j=k
     ·subst hjk;rw[HQ.out];exact h0
     ·exact hall.out j (by omega)
    have h0':((q:Int)==0)=false:=by simpa using h0
    clear hall
    go_wp2
    go_roundw
    case rel=>exact⟨k+1,by omega,by go_num,HN,trivial⟩
    case measure=>simp[intOf];omega
  ·have hke:k=vs.length:=by omega
   have HN:Hid (R=false):=by show _=_;rw[←HR.out];exact zJM _ _ (by rw[←hke];exact hall.out)
   clear hall hke
   go_wp2
   go_ret
   exact⟨zAB HN.out.symm,rfl⟩
end Go.Proofs.YtdjbejlbmaiocafGreatDoor
