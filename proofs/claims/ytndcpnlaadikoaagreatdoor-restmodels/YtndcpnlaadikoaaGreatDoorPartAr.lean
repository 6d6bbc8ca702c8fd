/- What the proof leans on, part 18. -/
import Derived.Test.YtndcpnlaadikoaaGreatDoorPartAb
import Derived.Deep.RegionHeld3
namespace Go.Proofs.YtndcpnlaadikoaaGreatDoor
open Go.RowKit
section
variable {P:Program} {ops:Array Oper} {Q:Exit→Act→World→Prop} {md:Region.Mode} {S:World→Prop} {L:List Nat}
def zFK (L:List Nat) (listed:Array Bool):Prop:=∃s∈L,listed.getD s true=false
theorem zFK.not {L:List Nat} {listed:Array Bool} (h:(L.all fun s=>listed.getD s true)=true):¬zFK L listed:=fun⟨s,h1,h2⟩=>by
 have:=List.all_eq_true.1 h s h1;rw[h2] at this;cases this
def zDq (P:Program) (md:Region.Mode) (ops:Array Oper) (Q:Exit→Act→World→Prop) (L:List Nat) (S:World→Prop):Nat→Array Bool→Act→World→Prop
 | 0,listed,a,w=>Region.ready md ops listed=[]∧Q .normal a w
 | fuel+1,listed,a,w=>(Region.ready md ops listed=[]→Q .normal a w)∧∀i∈Region.ready md ops listed,wpOp P ops Q i (fun a' w'=>(zFK L (listed.setIfInBounds i true)→S w')∧zDq P md ops Q L S fuel (listed.setIfInBounds i true) a' w') a w
theorem zIu:∀(fuel:Nat) (listed:Array Bool) (a:Act) (w:World),zDq P md ops Q L S fuel listed a w→wpAny P md ops Q fuel listed a w
 | 0,_,_,_,h=>h
 | fuel+1,_,_,_,h=>⟨h.1,fun i hi=>wpOp_mono (fun a' w' h'=>zIu fuel _ a' w' h'.2) (h.2 i hi)⟩
theorem zTB {i:Nat} {oj:Oper} {listed:Array Bool} (hr:i∈Region.ready md ops listed) (hall:∀e∈oj.after,Region.binds md e=true→listed.getD e.on false=true):∀e∈oj.after,Region.binds md e=true→e.on≠i:=fun e he hb heq=>by
 have k1:=hall e he hb;have k0:=(mem_ready.1 hr).1;rw[heq] at k1;simp only[Array.getD_eq_getD_getElem?] at k0 k1;cases hg:listed[i]? with
 | none=>rw[hg] at k1;cases k1
 | some b=>rw[hg] at k0 k1;simp at k0 k1;rw[k0] at k1;cases k1
def zMy (md:Region.Mode) (ops:Array Oper) (i:Nat) (oi:Oper) (listed:Array Bool):Prop:=∀j oj,ops[j]? = some oj→j≠i→listed.getD j true=false→(∀e∈oj.after,Region.binds md e=true→e.on≠i)→oi.apart ops oj=true
theorem zMy.more {i j:Nat} {oi:Oper} {listed:Array Bool} (h:zMy md ops i oi listed) (hj:listed.getD j true=false):zMy md ops i oi (listed.setIfInBounds j true):=fun k ok hk hki hun hno=>by
 refine h k ok hk hki ?_ hno;by_cases e:j=k
 ·rw[←e];exact hj
 ·rw[getD_set_ne true e] at hun;exact hun
theorem zGi {T:World→Prop} {i:Nat} {oi:Oper} {v:Value} (hi:ops[i]? = some oi) (hsel:∀(j:Nat) (o:Oper) cs b,ops[j]? = some o→o.op≠.select cs b) (hQ:∀c a w,Q (.panic c) (a.put oi.dst v) w→Q (.panic c) a w) (G:Array Bool→Prop)
 (hG:∀(listed:Array Bool) (j:Nat),G listed→i∈Region.ready md ops listed→j∈Region.ready md ops listed→j≠i→G (listed.setIfInBounds j true)∧(∀w,(zFK L ((listed.setIfInBounds i true).setIfInBounds j true)→S w)→T w∧(zFK L (listed.setIfInBounds j true)→S w))) :
 ∀(fuel:Nat) (listed:Array Bool) (a:Act) (w:World),G listed→zMy md ops i oi listed→i∈Region.ready md ops listed→YieldsIf P ops T oi v a→T w→(zFK L (listed.setIfInBounds i true)→S w) →
  zDq P md ops Q L S fuel (listed.setIfInBounds i true) (a.put oi.dst v) w→zDq P md ops Q L S (fuel+1) listed a w:=by
 intro fuel
 induction fuel with
 | zero =>
   intro listed a w hg hf hr hy hT hO H;refine⟨fun h=>(by rw[h] at hr;cases hr),fun j hj=>?_⟩
   by_cases e:j=i
   ·subst e;exact hy.wpOp hi hT ⟨hO,H⟩
   ·have:=ready_mono hj e
    rw[H.1] at this;cases this
 | succ fuel ih =>
   intro listed a w hg hf hr hy hT hO H;refine⟨fun h=>(by rw[h] at hr;cases hr),fun j hj=>?_⟩
   by_cases e:j=i
   ·subst e;exact hy.wpOp hi hT ⟨hO,H⟩
   ·obtain⟨hjun,oj,hoj,hall⟩:=mem_ready.1 hj
    have k2:=wpOp_putIf hoj (hf j oj hoj e hjun (zTB hr hall)) (fun cs b=>hsel i oi cs b hi) (fun cs b=>hsel j oj cs b hoj) hQ hy (H.2 j (ready_mono hj e))
    obtain⟨hg',hgs⟩:=hG listed j hg hr hj e;refine wpOp_mono (fun a' w' k3=>?_) k2
    obtain⟨hT',hS'⟩:=hgs w' k3.2.1;refine⟨hS',ih (listed.setIfInBounds j true) a' w' hg' (hf.more hjun) (ready_mono hr (Ne.symm e)) k3.1 hT' (fun ho=>k3.2.1 (by rw[Array.setIfInBounds_comm _ _ (Ne.symm e)];exact ho)) ?_⟩
    rw[Array.setIfInBounds_comm _ _ e];exact k3.2.2
theorem zFL {i s:Nat} {oi os:Oper} {v:Value} {fuel:Nat} {listed:Array Bool} {a:Act} {w:World} (hi:ops[i]? = some oi) (hs:Region.noSelect ops=true) (hf:Region.free md ops listed i=true) (hr:(Region.ready md ops listed).contains i=true)
 (hos:ops[s]? = some os) (hsL:L.contains s=true) (hsw:(os.after.any fun e=>Region.binds md e&&e.on==i)=true) (hiL:L.contains i=false) (hsu:listed.getD s true=false) (hQ:∀c a w,Q (.panic c) (a.put oi.dst v) w→Q (.panic c) a w) (hy:YieldsIf P ops S oi v a) (hS:S w)
 (h:zDq P md ops Q L S fuel (listed.setIfInBounds i true) (a.put oi.dst v) w):zDq P md ops Q L S (fuel+1) listed a w:=by
 have hsL':s∈L:=by simpa using hsL
 have hiL':i∉L:=by simpa using hiL
 have hsi:i≠s:=fun e=>hiL' (e▸hsL')
 refine zGi hi (Region.noSelect_spec hs) hQ (fun l=>l.getD s true=false) (fun l j hg hri hj e=>?_) fuel listed a w hsu (Region.free_spec hi hf) (by simpa using hr) hy hS (fun _=>hS) h
 have hjs:j≠s:=fun e2=>by
  obtain⟨_,oj,hoj,hall⟩:=mem_ready.1 hj;rw[e2,hos] at hoj;cases hoj
  obtain⟨x,hx,hb⟩:=Array.any_eq_true'.1 hsw;rw[Bool.and_eq_true] at hb;exact zTB hri hall x hx hb.1 (by simpa using hb.2)
 have hg2:(l.setIfInBounds j true).getD s true=false:=by rw[getD_set_ne true hjs];exact hg
 refine⟨hg2,fun w' hw=>?_⟩
 have hO:zFK L ((l.setIfInBounds i true).setIfInBounds j true):=⟨s,hsL',by rw[getD_set_ne true hjs,getD_set_ne true hsi];exact hg⟩
 exact⟨hw hO,fun _=>hw hO⟩
theorem zAi {i:Nat} {oi:Oper} {v:Value} {fuel:Nat} {listed:Array Bool} {a:Act} {w:World} (hi:ops[i]? = some oi) (hs:Region.noSelect ops=true) (hf:Region.free md ops listed i=true) (hr:(Region.ready md ops listed).contains i=true)
 (hiL:L.contains i=false) (hQ:∀c a w,Q (.panic c) (a.put oi.dst v) w→Q (.panic c) a w) (hy:YieldsIf P ops (fun _=>True) oi v a) (hS:zFK L (listed.setIfInBounds i true)→S w)
 (h:zDq P md ops Q L S fuel (listed.setIfInBounds i true) (a.put oi.dst v) w):zDq P md ops Q L S (fuel+1) listed a w:=by
 have hiL':i∉L:=by simpa using hiL
 refine zGi hi (Region.noSelect_spec hs) hQ (fun _=>True) (fun l j _ _ hj e=>⟨trivial,fun w' hw=>⟨trivial,fun ho=>hw ?_⟩⟩) fuel listed a w trivial (Region.free_spec hi hf) (by simpa using hr) hy trivial hS h
 obtain⟨s,h1,h2⟩:=ho;refine⟨s,h1,?_⟩;have hsi:i≠s:=fun e=>hiL' (e▸h1)
 by_cases e2:j=s
 ·subst e2
  have:=(mem_ready.1 hj).1;rw[Array.getD_eq_getD_getElem?] at h2 this;rw[Array.getElem?_setIfInBounds] at h2
  split at h2
  ·split at h2 <;> simp at h2
  ·contradiction
 ·rw[getD_set_ne true e2,getD_set_ne true hsi]
  rw[getD_set_ne true e2] at h2;exact h2
def AllT (P:Program) (md:Region.Mode) (ops:Array Oper) (Q:Exit→Act→World→Prop) (L:List Nat) (S:World→Prop) (fuel:Nat) (listed:Array Bool) (a:Act) (w:World) (rs:List Nat):Prop :=
 ∀i∈rs,wpOp P ops Q i (fun a' w'=>(zFK L (listed.setIfInBounds i true)→S w')∧zDq P md ops Q L S fuel (listed.setIfInBounds i true) a' w') a w
theorem AllT.nil {fuel:Nat} {listed:Array Bool} {a:Act} {w:World}:AllT P md ops Q L S fuel listed a w []:=fun _ h=>by cases h
theorem AllT.cons {fuel:Nat} {listed:Array Bool} {a:Act} {w:World} {i:Nat} {o:Oper} {rs:List Nat} (ho:ops[i]? = some o)
 (h:∀K':Act→World→Prop,Shut (∀a w,(zFK L (listed.setIfInBounds i true)→S w)→zDq P md ops Q L S fuel (listed.setIfInBounds i true) a w→K' a w)→if Region.wanted o (yielded ops a.tmps)=true then Oper.wp P o a w K' Q else K' (a.put o.dst undef) w)
 (hs:AllT P md ops Q L S fuel listed a w rs):AllT P md ops Q L S fuel listed a w (i :: rs):=fun j hj=>by
 rcases List.mem_cons.1 hj with rfl | hj
 ·exact wpOp_step ho fun K' hK=>h K' fun a w h1 h2=>hK a w ⟨h1,h2⟩
 ·exact hs j hj
theorem zAF {rs:List Nat} {fuel:Nat} {listed:Array Bool} {a:Act} {w:World} (hr:Region.ready md ops listed=rs) (hne:rs≠[]) (h:AllT P md ops Q L S fuel listed a w rs):zDq P md ops Q L S (fuel+1) listed a w :=
 ⟨fun h0=>absurd (hr▸h0) hne,hr▸h⟩
theorem zLg {listed:Array Bool} {a:Act} {w:World} (hr:Region.ready md ops listed=[]) (h:Q .normal a w):∀fuel,zDq P md ops Q L S fuel listed a w
 | 0=>⟨hr,h⟩
 | _+1=>⟨fun _=>h,by rw[hr];simp⟩
theorem zLh {id:Nat} {a:Act} {w:World} (hm:P.follows .mixedOrders=true) (h:zDq P .any ops Q L S ops.size (Array.replicate ops.size false) a w.drew):(Code.region id ops true).wp P Q a w:=wp_region_any hm (zIu _ _ _ _ h)
end
end Go.Proofs.YtndcpnlaadikoaaGreatDoor
