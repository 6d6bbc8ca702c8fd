/- What the proof leans on, part 8. -/
import Derived.Test.YtndcpnlaadikoaaGreatDoorPartAg
import Derived.Maps.OwnSet
import Derived.Maps.AppendAt
import Derived.WalkKit
namespace Go.Proofs.YtndcpnlaadikoaaGreatDoor
open Go.RowKit
theorem zDw (x y:Int) (h1:-1000≤x) (h2:x≤1000) (h3:-50≤y) (h4:y≤50):-50000≤x * y∧x * y≤50000:=by
 have key:(x * y).natAbs≤50000:=by
  rw[Int.natAbs_mul]
  have:=Nat.mul_le_mul (show x.natAbs≤1000 by omega) (show y.natAbs≤50 by omega)
  omega
 omega
def sumK (consts own:List Int) (k:Nat):Int:=((List.zipWith (· * ·) consts own).take k).sum
theorem zHN (consts own:List Int) (k:Nat) (x y:Int) (hx:consts[k]? = some x) (hy:own[k]? = some y):sumK consts own (k+1)=sumK consts own k+x * y:=by
 unfold sumK
 rw[List.take_add_one,List.getElem?_zipWith,hx,hy]
 simp[List.sum_append]
set_option maxHeartbeats 800000 in
set_option maxRecDepth 100000 in
theorem zIT (consts own:List Int) (u v:Value) (w:World) (hu:IArg w u consts) (hv:IArg w v own) (hl:consts.length=own.length) (hn:consts.length≤8)
 (hc:∀x∈consts,-1000≤x∧x≤1000) (ho:∀x∈own,-50≤x∧x≤50) :
 Calls Tryz.prog 164 #[u,v] w fun e w'=>e=.returned (.int .i64 (sumV consts own))∧w'=w:=by
 obtain⟨a,c,rfl,hm,h1⟩:=hu
 obtain⟨a',c',rfl,hm',h2⟩:=hv
 have HU:Hid (∀(i:Nat) (z:Int),consts[i]? = some z→∃b off,a=some ⟨b,off,none⟩∧b<w.heap.size∧w.cell? ⟨b,off+i,none⟩=some (.int .i64 z)):=h1
 have HV:Hid (∀(i:Nat) (z:Int),own[i]? = some z→∃b off,a'=some ⟨b,off,none⟩∧b<w.heap.size∧w.cell? ⟨b,off+i,none⟩=some (.int .i64 z)):=h2
 have HL:Hid (consts.length=own.length):=hl
 have HC:Hid (∀x∈consts,-1000≤x∧x≤1000):=hc
 have HO:Hid (∀x∈own,-50≤x∧x≤50):=ho
 obtain⟨R,hR⟩:∃R,sumV consts own=R:=⟨_,rfl⟩
 rw[hR]
 have HR:Hid (sumV consts own=R):=hR
 unfold maxLen at hm hm'
 obtain⟨hm1,hm⟩:=hm
 obtain⟨hm1',hm'⟩:=hm'
 clear h1 h2 hl hc ho hR
 go_enter Tryz.func164,Tryz.ntmps164
 go_wp2_with fail
 go_loop [5,10] (fun t i=>∃(k:Nat) (s:Int),k≤consts.length∧i=.int .i64 k∧t=.int .i64 s∧Hid (sumK consts own k=s)∧(-50000 * (k:Int)≤s∧s≤50000 * (k:Int))) (fun _ i=>consts.length - (intOf i).toNat)
 case atStart=>exact⟨0,0,by omega,rfl,rfl,rfl,by omega⟩
 case round =>
  obtain⟨k,s,hk,rfl,rfl,hs,hb1,hb2⟩:=hrel
  by_cases hlt:k<consts.length
  ·have hlt':k<own.length:=by rw[←HL.out];exact hlt
   obtain⟨x,hx⟩:∃x,consts[k]? = some x:=⟨consts[k],by simp[hlt]⟩
   obtain⟨y,hy⟩:∃y,own[k]? = some y:=⟨own[k],by simp[hlt']⟩
   have HX:Hid (sumK consts own (k+1)=s+x * y):=by show _=_;rw[zHN consts own k x y hx hy,hs.out]
   obtain⟨b,off,rfl,hb,hc⟩:=HU.out k x hx
   obtain⟨b',off',rfl,hb',hd⟩:=HV.out k y hy
   have hxb:=HC.out x (List.mem_of_getElem? hx)
   have hyb:=HO.out y (List.mem_of_getElem? hy)
   obtain⟨hp1,hp2⟩:=zDw x y hxb.1 hxb.2 hyb.1 hyb.2
   clear hx hy hb hb' hxb hyb
   go_wp2
   go_round
   case rel=>exact⟨k+1,s+x * y,by omega,by go_num,by go_num,HX,by omega,by omega⟩
   case measure=>simp[intOf];omega
  ·have HN:Hid (s=R):=by
    show _=_
    rw[←hs.out,←HR.out];unfold sumK sumV
    rw[List.take_of_length_le (by rw[List.length_zipWith];omega)]
   go_wp2
   go_ret
   exact⟨zAI HN.out,rfl⟩
theorem zJ2 {α:Type} (a b:List α) (m:Nat) (x:α) (h:a.take m=b.take m) (ha:a[m]? = some x) (hb:b[m]? = some x):a.take (m+1)=b.take (m+1):=by
 rw[List.take_add_one,List.take_add_one,h,ha,hb]
theorem zKy {α:Type} (a b:List α) (m:Nat) (h:a.take m=b.take m) (ha:¬m<a.length) (hl:a.length=b.length):a=b:=by
 rwa [List.take_of_length_le (by omega),List.take_of_length_le (by omega)] at h
theorem zKz {α:Type} (a b:List α) (m:Nat) (x y:α) (ha:a[m]? = some x) (hb:b[m]? = some y) (h:x≠y):a≠b:=by
 intro e;subst e;rw[ha] at hb;cases hb;exact h rfl
set_option maxHeartbeats 800000 in
set_option maxRecDepth 100000 in
theorem zK0 (l k:List Int) (v u:Value) (w:World) (hv:IArg w v l) (hu:IArg w u k) :
 Calls Tryz.prog 168 #[v,u] w fun e w'=>e=.returned (.bool (decide (l=k)))∧∃n,w'=w.drewN n:=by
 obtain⟨a,c,rfl,hm,hr⟩:=hv
 obtain⟨a',c',rfl,hm',hr'⟩:=hu
 have HV:Hid (∀(i:Nat) (z:Int),l[i]? = some z→∃b off,a=some ⟨b,off,none⟩∧b<w.heap.size∧w.cell? ⟨b,off+i,none⟩=some (.int .i64 z)):=hr
 have HV':Hid (∀(i:Nat) (z:Int),k[i]? = some z→∃b off,a'=some ⟨b,off,none⟩∧b<w.heap.size∧w.cell? ⟨b,off+i,none⟩=some (.int .i64 z)):=hr'
 obtain⟨R,hR⟩:∃R,decide (l=k)=R:=⟨_,rfl⟩
 rw[hR]
 have HR:Hid (decide (l=k)=R):=hR
 unfold maxLen at hm hm'
 obtain⟨hm1,hm⟩:=hm
 obtain⟨hm1',hm'⟩:=hm'
 clear hr hr' hR
 by_cases hl:l.length=k.length
 ·have HL:Hid (l.length=k.length):=hl
  have g0:((l.length:Int) != (k.length:Int))=false:=by simp[hl]
  clear hl
  go_enter Tryz.func168,Tryz.ntmps168
  go_wp2_with fail
  go_loopw [13] (fun i wr=>∃m:Nat,m≤l.length∧i=.int .i64 m∧Hid (l.take m=k.take m)∧∃n,wr=w.drewN n) (fun i _=>l.length - (intOf i).toNat)
  case atStart=>exact⟨0,by omega,rfl,rfl,0,rfl⟩
  case round =>
   obtain⟨m,hml,rfl,hall,nq,rfl⟩:=hrel
   by_cases hlt:m<l.length
   ·have hlt':m<k.length:=by rw[←HL.out];exact hlt
    obtain⟨x,hx⟩:∃x,l[m]? = some x:=⟨l[m],by simp[hlt]⟩
    obtain⟨y,hy⟩:∃y,k[m]? = some y:=⟨k[m],by simp[hlt']⟩
    obtain⟨b,off,ha,hb,hc⟩:=HV.out m x hx
    obtain⟨b',off',ha',hb',hd⟩:=HV'.out m y hy
    have HX:Hid (l[m]? = some x):=hx
    have HY:Hid (k[m]? = some y):=hy
    subst ha;subst ha'
    clear hx hy
    by_cases hq:x=y
    ·subst hq
     have HN:Hid (l.take (m+1)=k.take (m+1)):=zJ2 l k m x hall.out HX.out HY.out
     go_wp2
     go_quiet (fail)
     go_wp2
     go_roundw
     case rel=>exact⟨m+1,by omega,by go_num,HN,_,rfl⟩
     case measure=>simp[intOf];omega
    ·have HN:Hid (R=false):=by rw[←HR.out];exact decide_eq_false (zKz l k m x y HX.out HY.out hq)
     have hq2:(x != y)=true:=by simpa using hq
     clear hq
     go_wp2
     go_quiet (fail)
     go_wp2
     go_ret
     exact⟨zAB HN.out.symm,_,zCu _ _ _⟩
   ·have HN:Hid (R=true):=by rw[←HR.out];exact decide_eq_true (zKy l k m hall.out hlt HL.out)
    go_wp2
    go_ret
    exact⟨zAB HN.out.symm,_,rfl⟩
 ·have HN:Hid (R=false):=by rw[←HR.out];exact decide_eq_false (fun h=>hl (by rw[h]))
  have g0:((l.length:Int) != (k.length:Int))=true:=by simp;omega
  clear hl
  go_enter Tryz.func168,Tryz.ntmps168
  go_wp2
  go_ret
  exact⟨zAB HN.out.symm,0,rfl⟩
theorem zMH (a:Int) (r:List Int) (k:Nat) (x:Int) (hx:r[k]? = some x):(r.take (k+1)).foldl max a=max ((r.take k).foldl max a) x:=by
 rw[List.take_add_one,hx,List.foldl_append];rfl
set_option maxHeartbeats 800000 in
set_option maxRecDepth 100000 in
theorem zNM (p:Int) (r:List Int) (v:Value) (w:World) (hv:IArg w v (p :: r)) :
 Calls Tryz.prog 169 #[v] w fun e w'=>e=.returned (.int .i64 (r.foldl max p))∧w'=w:=by
 obtain⟨a,c,rfl,hm,h1⟩:=hv
 have HU:Hid (∀(i:Nat) (z:Int),(p :: r)[i]? = some z→∃b off,a=some ⟨b,off,none⟩∧b<w.heap.size∧w.cell? ⟨b,off+i,none⟩=some (.int .i64 z)):=h1
 obtain⟨b,off,rfl,hb,hc⟩:=h1 0 p rfl
 rw[Nat.add_zero] at hc
 obtain⟨R,hR⟩:∃R,r.foldl max p=R:=⟨_,rfl⟩
 rw[hR]
 have HR:Hid (r.foldl max p=R):=hR
 unfold maxLen at hm
 obtain⟨hm1,hm⟩:=hm
 obtain⟨n,hn⟩:∃n,(p :: r).length=n:=⟨_,rfl⟩
 rw[hn] at hm1 ⊢
 have HN:Hid (n=r.length+1):=by rw[←hn];rfl
 have hn1:1≤n:=by rw[←hn];simp
 clear h1 hR hn
 go_enter Tryz.func169,Tryz.ntmps169
 go_wp2_with fail
 go_loop [3,4] (fun t i=>∃(k:Nat) (s:Int),k+1≤n∧i=.int .i64 ((k:Int)+1)∧t=.int .i64 s∧Hid ((r.take k).foldl max p=s)) (fun _ i=>n - (intOf i).toNat)
 case atStart=>exact⟨0,p,by omega,rfl,rfl,rfl⟩
 case round =>
  obtain⟨k,s,hk,rfl,rfl,hs⟩:=hrel
  by_cases hlt:k+1<n
  ·have hlr:k<r.length:=by have:=HN.out;omega
   obtain⟨x,hx⟩:∃x,r[k]? = some x:=⟨r[k],by simp[hlr]⟩
   have HX:Hid ((r.take (k+1)).foldl max p=if s<x then x else s):=by show _=_;rw[zMH p r k x hx,hs.out];split <;> omega
   obtain⟨b2,off2,hab,hb2,hd⟩:=HU.out (k+1) x (by simpa using hx)
   cases hab
   clear hx hlr
   go_wp2
   go_round
   case rel=>exact⟨k+1,_,by omega,by go_num,rfl,by first | exact HX | (have h9:=HX.out;show List.foldl max p (List.take (k+1) r)=max s x;rw[h9];split <;> omega)⟩
   case measure=>simp[intOf];omega
  ·have HF:Hid (s=R):=by
    show _=_
    rw[←hs.out,←HR.out,List.take_of_length_le (by have:=HN.out;omega)]
   go_wp2
   go_ret
   exact⟨zAI HF.out,rfl⟩
open Go.RowKit Go.Maps
theorem Tryz.intKey:Keyed Tryz.prog 3:=int_keyed Tryz.underlying3
theorem Tryz.zeroUnit (w:World):(zeroValue 282).run Tryz.prog w=.ok (.agg #[]) w:=by kernel_rfl
def setD {H:Type} (l:List Int):DataW H:=setOf (.agg []) (l.map (Lit.int .i64))
theorem zK1 (x:Int):∀l:List Int,l.any ((fun y:Lit=>y.sameKey (.int .i64 x)) ∘ Lit.int .i64)=l.contains x
 | []=>rfl
 | a :: r=>by
   rw[List.any_cons,List.contains_cons,zK1 x r]
   congr 1
   show decide (IntKind.i64=IntKind.i64∧a=x)=(x==a)
   by_cases e:a=x
   ·subst e
    simp
   ·have e':¬x=a:=fun h=>e h.symm
    simp[e,e']
theorem zJK {H:Type} (l:List Int) (x:Int):Maps.has (setD (H:=H) l) (.int .i64 x)=l.contains x:=by
 unfold setD
 rw[has_setOf _ _ _ (fun y hy=>by obtain⟨_,_,rfl⟩:=List.mem_map.1 hy;trivial),List.any_map]
 exact zK1 x _
theorem zK2 {H:Type} (l:List Int) (x:Int):setD (H:=H) (l++[x])=(setD l).put (.int .i64 x) (.agg []):=by
 unfold setD;rw[List.map_append];exact setOf_snoc _ _ _
theorem zJ3 (l:List Int) (k:Nat) (x:Int) (hx:l[k]? = some x) (h:(l.take k).Nodup) (hc:(l.take k).contains x=false):(l.take (k+1)).Nodup:=by
 rw[List.take_add_one,hx]
 rw[List.nodup_append]
 refine⟨h,by simp,fun a ha b hb=>?_⟩
 simp at hb
 subst hb
 intro e
 subst e
 have:(l.take k).contains a=true:=by simpa using ha
 rw[hc] at this;cases this
theorem zK3 (l:List Int) (k:Nat) (x:Int) (hx:l[k]? = some x) (hc:(l.take k).contains x=true):¬l.Nodup:=by
 intro hn
 have hk:k<l.length:=(List.getElem?_eq_some_iff.1 hx).1
 have h1:x∈l.take k:=by simpa using hc
 have h2:x∈l.drop k:=by rw[List.drop_eq_getElem_cons hk];have:l[k]=x:=by simpa[hk] using hx
                        rw[this];exact List.mem_cons_self ..
 have h3:=hn
 rw[←List.take_append_drop k l,List.nodup_append] at h3
 exact h3.2.2 x h1 x h2 rfl
set_option maxHeartbeats 1600000 in
set_option maxRecDepth 100000 in
theorem zJ4 (l:List Int) (v:Value) (w:World) (hv:IArg w v l) (hn:l.length≤4) (hb0:∀x∈l,-50≤x∧x≤50) :
 Calls Tryz.prog 165 #[v] w fun e w'=>e=.returned (.bool (decide l.Nodup))∧Below w.heap.size w w':=by
 obtain⟨a,c,rfl,hm,hr⟩:=hv
 have HV:Hid (∀(i:Nat) (z:Int),l[i]? = some z→∃b off,a=some ⟨b,off,none⟩∧b<w.heap.size∧w.cell? ⟨b,off+i,none⟩=some (.int .i64 z)):=hr
 have HB:Hid (∀x∈l,-50≤x∧x≤50):=hb0
 obtain⟨R,hR⟩:∃R,decide l.Nodup=R:=⟨_,rfl⟩
 rw[hR]
 have HR:Hid (decide l.Nodup=R):=hR
 unfold maxLen at hm
 obtain⟨hm1,hm⟩:=hm
 clear hr hR hb0
 have hmm:=@run_makeMap Tryz.prog
 go_enter Tryz.func165,Tryz.ntmps165
 go_wp2_with fail
 clear hmm
 go_loopw [11] (fun i wr=>∃k:Nat,k≤l.length∧i=.int .i64 k∧wr.ownsMap Tryz.prog 3 unitElem w.heap.size k (setD (H:=Unit) (l.take k))∧Hid ((l.take k).Nodup)∧Below w.heap.size w wr∧w.heap.size+1≤wr.heap.size) (fun i _=>l.length - (intOf i).toNat)
 case atStart=>exact⟨0,by omega,rfl,World.ownsMap_made _ _ _ _,by show List.Nodup _;simp,(Below.refl _ _).alloc (Nat.le_refl _) _,by simp⟩
 case round =>
  obtain⟨k,hk,rfl,hown,hnd,hbw,hws⟩:=hrel
  by_cases hlt:k<l.length
  ·obtain⟨x,hx⟩:∃x,l[k]? = some x:=⟨l[k],by simp[hlt]⟩
   obtain⟨b,off,rfl,hb,hc⟩:=HV.out k x hx
   have e1:=(hbw.cell (p:=⟨b,off+k,none⟩) hb).trans hc
   have hxb:=HB.out x (List.mem_of_getElem? hx)
   have hkey:keyOf Tryz.prog 3 (.int .i64 x)=some (.int .i64 x):=keyOf_int_mk Tryz.underlying3 (WalkArith.wf_i64 (by omega))
   have HX:Hid (l[k]? = some x):=hx
   clear hx hc hb
   cases hq:(l.take k).contains x
   ·have HN:Hid ((l.take (k+1)).Nodup):=zJ3 l k x HX.out hnd.out hq
    have HD:Hid (setD (H:=Unit) (l.take (k+1))=(setD (l.take k)).put (.int .i64 x) (.agg [])):=by
     show _=_;rw[List.take_add_one,HX.out];exact zK2 _ _
    have hh:Maps.has (setD (H:=Unit) (l.take k)) (.int .i64 x)=false:=by rw[zJK];exact hq
    clear hq
    go_wp2_with (first
     | (at_lookup;refine wpList_lookup_own_unit _ rfl _ _ 281 rfl 3 282 Tryz.intKey Tryz.underlying281 (Tryz.zeroUnit _) w.heap.size k _ rfl hown _ _ rfl hkey ?_)
     | (at_mapUpdate;refine wpList_mapUpdate_own _ rfl _ _ _ 281 rfl 3 282 Tryz.intKey Tryz.underlying281 (unitElem (H:=Unit)) w.heap.size k _ rfl (hown.alloc _) (by unfold maxLen;omega) _ _ _ rfl rfl hkey _ [] unitElem_mk ?_;intro w1 hown1 hgrow1)
     | go_in)
    have s1:=hgrow1.size
    simp at s1
    go_roundw
    case rel=>exact⟨k+1,by omega,by go_num,by rw[HD.out];exact hown1,HN,(hbw.alloc hbw.size _).grown hgrow1 (by simp;omega) (fun j hj=>by cases hj;exact Nat.le_refl _),by omega⟩
    case measure=>simp[intOf];omega
   ·have HN:Hid (R=false):=by rw[←HR.out];exact decide_eq_false (zK3 l k x HX.out hq)
    have hh:Maps.has (setD (H:=Unit) (l.take k)) (.int .i64 x)=true:=by rw[zJK];exact hq
    clear hq
    go_wp2_with (first
     | (at_lookup;refine wpList_lookup_own_unit _ rfl _ _ 281 rfl 3 282 Tryz.intKey Tryz.underlying281 (Tryz.zeroUnit _) w.heap.size k _ rfl hown _ _ rfl hkey ?_)
     | go_in)
    go_ret
    exact⟨zAB HN.out.symm,hbw.alloc hbw.size _⟩
  ·have HN:Hid (R=true):=by
    have:=hnd.out;rw[List.take_of_length_le (by omega)] at this;rw[←HR.out];exact decide_eq_true this
   go_wp2
   go_ret
   exact⟨zAB HN.out.symm,hbw⟩
end Go.Proofs.YtndcpnlaadikoaaGreatDoor
