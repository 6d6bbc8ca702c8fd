/- What the proof leans on, part 13. -/
import Derived.Test.YtndcpnlaadikoaaGreatDoorPartAl
import Derived.Test.YtndcpnlaadikoaaGreatDoorPartAj
namespace Go.Proofs.YtndcpnlaadikoaaGreatDoor
def zCo (s:Sto):List Int→List Int→List (List Int)
 | [],vals=>[vals]
 | v :: r,vals=>(s.getD v.toNat []).flatMap fun x=>zCo s r (vals.set v.toNat x)
def zNz (scope u:List Int):List (Int×Int):=scope.map fun v=>(v,zAX u v)
def metK (c:MCon) (scope:List Int) (us:List (List Int)):List (Int×Int):=us.flatMap fun u=>if zAV c u then zNz scope u else []
def zAN (n:Nat):List Int:=List.replicate n 0
def zJU (c:MCon) (s:Sto):List (Int×Int):=metK c (zAO c) (zCo s (zAO c) (zAN s.length))
def zDD (c:MCon) (s:Sto) (k:Nat) (z:Int):Bool :=
 if zAG s then true
 else if (zAO c).length=0 then zAV c (zAN s.length)
 else if hasB (zAO c) (k:Int) then (zJU c s).contains ((k:Int),z)
 else true
def zAp (c:MCon) (s:Sto):Sto:=zA6 s (zDD c s)
theorem zMS (zs:List Int) (x:Int):x∈zEt zs↔x∈zs:=by
 unfold zEt Lib.compact Lib.compactUpTo
 constructor
 ·intro h
  obtain⟨i,hi,rfl⟩:=List.mem_map.1 h
  have hi':i<zs.length:=List.mem_range.1 (List.mem_filter.1 hi).1
  simp[getElem!_pos,hi']
 ·intro h
  obtain⟨i,hi,rfl⟩:=List.mem_iff_getElem.1 h
  have key:∀(j:Nat) (hj:j<zs.length),zs[j]∈((List.range zs.length).filter (Lib.keeps zs.toArray)).map (zs.toArray[·]!):=by
   intro j
   induction j with
   | zero =>
     intro hj
     exact List.mem_map.2 ⟨0,List.mem_filter.2 ⟨List.mem_range.2 hj,by simp[Lib.keeps]⟩,by simp[getElem!_pos,hj]⟩
   | succ j ih =>
     intro hj
     by_cases hk:Lib.keeps zs.toArray (j+1)=true
     ·exact List.mem_map.2 ⟨j+1,List.mem_filter.2 ⟨List.mem_range.2 hj,hk⟩,by simp[getElem!_pos,hj]⟩
     ·have he:zs[j+1]=zs[j]:=by
       have h1:¬(j+1=0∨zs.toArray[j+1]! ≠ zs.toArray[j+1 - 1]!):=by simpa[Lib.keeps] using hk
       have h2:zs.toArray[j+1]! = zs.toArray[j]! := by
        by_cases h3:zs.toArray[j+1]! = zs.toArray[j]!
        ·exact h3
        ·exact absurd (Or.inr h3) h1
       rw[getElem!_pos zs.toArray (j+1) (by simpa using hj),getElem!_pos zs.toArray j (by simp;omega)] at h2
       simpa using h2
      rw[he]
      exact ih (by omega)
  exact key i hi
theorem zD3 (c:MCon) (x:Int):x∈zAO c↔x∈zBH c:=by
 unfold zAO
 rw[zMS]
 unfold zDi
 exact (List.mergeSort_perm _ _).mem_iff
theorem zLH (vars a b:List Int) (h:∀v∈vars,zAX a v=zAX b v):ownV vars a=ownV vars b:=List.map_congr_left h
theorem zLI (a b:List Int) (l:MLit) (h:zAX a l.var=zAX b l.var):litB a l=litB b l:=by unfold litB;rw[h]
theorem zCI (c:MCon) (a b:List Int) (h:∀v∈zAO c,zAX a v=zAX b v) (hl:c.kind=10→c.lits≠[]):zAV c a=zAV c b:=by
 have h0:∀v∈c.vars,zAX a v=zAX b v:=fun v hv=>h v ((zD3 c v).2 (List.mem_append_left _ hv))
 have h1:∀l∈c.lits,litB a l=litB b l:=fun l hl=>zLI a b l (h _ ((zD3 c _).2 (List.mem_append_right _ (List.mem_map.2 ⟨l,hl,rfl⟩))))
 have h2:=zLH c.vars a b h0
 have h3:c.lits.any (litB a)=c.lits.any (litB b):=by
  rw[Bool.eq_iff_iff,List.any_eq_true,List.any_eq_true]
  exact⟨fun⟨l,hm,hq⟩=>⟨l,hm,by rw[←h1 l hm];exact hq⟩,fun⟨l,hm,hq⟩=>⟨l,hm,by rw[h1 l hm];exact hq⟩⟩
 by_cases hk:c.kind=10
 ·have h4:litB a (c.lits.getD 0 ⟨0,0,0⟩)=litB b (c.lits.getD 0 ⟨0,0,0⟩):=by
   match hc:c.lits with
   | []=>exact absurd hc (hl hk)
   | l :: r=>exact h1 l (by rw[hc];exact List.mem_cons_self ..)
  unfold zAV
  rw[h2,h3,h4]
 ·unfold zAV
  rw[h2,h3]
  simp only[hk,if_false]
theorem zCf (vals:List Int) (v x:Int) (h:v.toNat<vals.length):zAX (vals.set v.toNat x) v=x:=by
 unfold zAX;rw[List.getD_eq_getElem?_getD,List.getElem?_set_self h];rfl
theorem zDE (vals:List Int) (v x u:Int) (h:v.toNat≠u.toNat):zAX (vals.set v.toNat x) u=zAX vals u:=by
 unfold zAX;rw[List.getD_eq_getElem?_getD,List.getD_eq_getElem?_getD,List.getElem?_set_ne h]
theorem zFH (s:Sto):∀(r vals u:List Int),u∈zCo s r vals→u.length=vals.length
 | [],vals,u,h=>by simp[zCo] at h;rw[h]
 | v :: r,vals,u,h=>by
   unfold zCo at h
   obtain⟨x,_,hx⟩:=List.mem_flatMap.1 h
   have:=zFH s r _ u hx
   simpa using this
theorem zHZ (s:Sto):∀(r vals u:List Int),u∈zCo s r vals→∀w:Int,(∀v∈r,v.toNat≠w.toNat)→zAX u w=zAX vals w
 | [],vals,u,h,w,_=>by simp[zCo] at h;rw[h]
 | v :: r,vals,u,h,w,hw=>by
   unfold zCo at h
   obtain⟨x,_,hx⟩:=List.mem_flatMap.1 h
   rw[zHZ s r _ u hx w (fun v' hv=>hw v' (List.mem_cons_of_mem _ hv)),zDE _ _ _ _ (hw v (List.mem_cons_self ..))]
theorem zGn (s:Sto):∀(r vals u:List Int),(∀v∈r,v.toNat<vals.length)→u∈zCo s r vals→∀w∈r,∃v∈r,v.toNat=w.toNat∧zAX u w∈s.getD v.toNat []
 | [],vals,u,_,h,w,hw=>by cases hw
 | v :: r,vals,u,hb,h,w,hw=>by
   unfold zCo at h
   obtain⟨x,hx0,hx⟩:=List.mem_flatMap.1 h
   by_cases hq:∃v'∈r,v'.toNat=w.toNat
   ·obtain⟨v',hv',he⟩:=hq
    obtain⟨v2,hv2,he2,hm⟩:=zGn s r _ u (fun v'' hv''=>by simpa using hb v'' (List.mem_cons_of_mem _ hv'')) hx v' hv'
    refine⟨v2,List.mem_cons_of_mem _ hv2,by omega,?_⟩
    have:zAX u w=zAX u v':=by unfold zAX;rw[he]
    rw[this];exact hm
   ·have hne:∀v'∈r,v'.toNat≠w.toNat:=fun v' hv' he=>hq ⟨v',hv',he⟩
    have hwv:w=v:=by
     rcases List.mem_cons.1 hw with h | h
     ·exact h
     ·exact absurd rfl (hne w h)
    subst hwv
    refine⟨w,List.mem_cons_self ..,rfl,?_⟩
    rw[zHZ s r _ u hx w hne,zCf _ _ _ (hb w (List.mem_cons_self ..))]
    exact hx0
theorem zET (s:Sto):∀(r vals u:List Int),(∀v∈r,v.toNat<vals.length)→u.length=vals.length→(∀v∈r,zAX u v∈s.getD v.toNat []) →
 (∀w:Nat,(∀v∈r,v.toNat≠w)→u[w]? = vals[w]?)→u∈zCo s r vals
 | [],vals,u,_,hl,_,ho=>by
   simp only[zCo,List.mem_singleton]
   exact List.ext_getElem? fun w=>ho w (fun v hv=>by cases hv)
 | v :: r,vals,u,hb,hl,hi,ho=>by
   unfold zCo
   refine List.mem_flatMap.2 ⟨zAX u v,hi v (List.mem_cons_self ..),?_⟩
   refine zET s r _ u (fun v' hv'=>by simpa using hb v' (List.mem_cons_of_mem _ hv')) (by simpa using hl) (fun v' hv'=>hi v' (List.mem_cons_of_mem _ hv')) fun w hw=>?_
   by_cases hwv:w=v.toNat
   ·subst hwv
    have hlt:=hb v (List.mem_cons_self ..)
    rw[List.getElem?_set_self hlt]
    unfold zAX
    rw[List.getD_eq_getElem?_getD]
    rw[List.getElem?_eq_getElem (by omega)];rfl
   ·rw[List.getElem?_set_ne (fun h=>hwv h.symm)]
    refine ho w fun v' hv'=>?_
    rcases List.mem_cons.1 hv' with rfl | h
    ·exact fun h=>hwv h.symm
    ·exact hw v' h
def zBq (r a b:List Int):Prop:=a.length=b.length∧∀w:Nat,(∀v∈r,v.toNat≠w)→a[w]? = b[w]?
theorem zBq.refl (r a:List Int):zBq r a a:=⟨rfl,fun _ _=>rfl⟩
theorem zBq.trans {r a b c:List Int} (h:zBq r a b) (k:zBq r b c):zBq r a c:=⟨h.1.trans k.1,fun w hw=>(h.2 w hw).trans (k.2 w hw)⟩
theorem zBq.symm {r a b:List Int} (h:zBq r a b):zBq r b a:=⟨h.1.symm,fun w hw=>(h.2 w hw).symm⟩
theorem zBq.cons {r a b:List Int} (v:Int) (h:zBq r a b):zBq (v :: r) a b:=⟨h.1,fun w hw=>h.2 w fun v' hv'=>hw v' (List.mem_cons_of_mem _ hv')⟩
theorem zBq.set {r a b:List Int} {v:Int} (x:Int) (h:zBq (v :: r) a b):zBq r (a.set v.toNat x) (b.set v.toNat x):=by
 refine⟨by simpa using h.1,fun w hw=>?_⟩
 by_cases hwv:w=v.toNat
 ·subst hwv
  by_cases hlt:v.toNat<a.length
  ·rw[List.getElem?_set_self hlt,List.getElem?_set_self (by rw[←h.1];exact hlt)]
  ·rw[List.getElem?_eq_none (by simp;omega),List.getElem?_eq_none (by have:=h.1;simp;omega)]
 ·rw[List.getElem?_set_ne (fun h=>hwv h.symm),List.getElem?_set_ne (fun h=>hwv h.symm)]
  refine h.2 w fun v' hv'=>?_
  rcases List.mem_cons.1 hv' with rfl | h'
  ·exact fun h=>hwv h.symm
  ·exact hw v' h'
theorem zBq.of_set (r a:List Int) (v x:Int):zBq (v :: r) a (a.set v.toNat x):=by
 refine⟨by simp,fun w hw=>?_⟩
 rw[List.getElem?_set_ne (hw v (List.mem_cons_self ..))]
def Part (c:MCon) (s:Sto) (k:Nat) (z:Int):Prop:=∃u:List Int,u.length=s.length∧(∀v∈zAO c,zAX u v∈s.getD v.toNat [])∧zAV c u=true∧zAX u (k:Int)=z
theorem zMT (c:MCon) (scope:List Int) (us:List (List Int)) (k z:Int):(k,z)∈metK c scope us↔∃u∈us,zAV c u=true∧k∈scope∧zAX u k=z:=by
 unfold metK
 rw[List.mem_flatMap]
 constructor
 ·rintro ⟨u,hu,h⟩
  cases hh:zAV c u
  ·rw[hh] at h;simp at h
  ·rw[hh,if_pos rfl] at h
   obtain⟨v,hv,he⟩:=List.mem_map.1 h
   cases he
   exact⟨u,hu,hh,hv,rfl⟩
 ·rintro ⟨u,hu,hh,hv,rfl⟩
  exact⟨u,hu,by rw[hh,if_pos rfl];exact List.mem_map.2 ⟨k,hv,rfl⟩⟩
theorem zD4 (n w:Nat) (h:w<n):(zAN n)[w]? = some 0:=by simp[zAN,h]
theorem zIh (c:MCon) (s:Sto) (hsc:∀v∈zAO c,0≤v∧v<s.length) (hl:c.kind=10→c.lits≠[]) (k:Nat) (z:Int) (hk:(k:Int)∈zAO c) :
 (zJU c s).contains ((k:Int),z)=true↔Part c s k z:=by
 rw[List.contains_iff_mem]
 unfold zJU
 rw[zMT]
 have hb:∀v∈zAO c,v.toNat<(zAN s.length).length:=fun v hv=>by
  have:=hsc v hv
  simp only[zAN,List.length_replicate]
  omega
 constructor
 ·rintro ⟨u,hu,hh,_,hz⟩
  refine⟨u,by rw[zFH s _ _ u hu];simp[zAN],fun v hv=>?_,hh,hz⟩
  obtain⟨v',_,he,hm⟩:=zGn s _ _ u hb hu v hv
  rw[←he];exact hm
 ·rintro ⟨u,hul,hu,hh,hz⟩
  let u':List Int:=(List.range s.length).map fun (i:Nat)=>if (i:Int)∈zAO c then zAX u (i:Int) else 0
  have hu'l:u'.length=s.length:=by simp[u']
  have hval:∀v∈zAO c,zAX u' v=zAX u v:=fun v hv=>by
   obtain⟨h0,h1⟩:=hsc v hv
   obtain⟨i,rfl⟩:∃i:Nat,v=(i:Int):=⟨v.toNat,by omega⟩
   have hi:i<s.length:=by omega
   unfold zAX
   rw[List.getD_eq_getElem?_getD]
   simp only[u',Int.toNat_natCast,List.getElem?_map,List.getElem?_range hi,Option.map_some,Option.getD_some,if_pos hv]
   rfl
  refine⟨u',zET s _ _ u' hb (by rw[hu'l];simp[zAN]) (fun v hv=>by rw[hval v hv];exact hu v hv) (fun w hw=>?_),?_,hk,by rw[hval _ hk];exact hz⟩
  ·by_cases hws:w<s.length
   ·rw[zD4 _ _ hws]
    simp only[u',List.getElem?_map,List.getElem?_range hws,Option.map_some]
    rw[if_neg (fun h=>hw _ h (by simp))]
   ·rw[List.getElem?_eq_none (by omega),List.getElem?_eq_none (by simp[zAN];omega)]
  ·rw[zCI c u' u hval hl];exact hh
theorem zGo (c:MCon) (s:Sto) (hf:zAG s=false) (k:Nat) (z:Int) (hk:(k:Int)∈zAO c):zDD c s k z=(zJU c s).contains ((k:Int),z):=by
 have hn:(zAO c).length≠0:=fun h=>by rw[List.eq_nil_of_length_eq_zero h] at hk;cases hk
 unfold zDD
 rw[hf,if_neg (by simp),if_neg hn,if_pos ((zDy _ _).2 hk)]
theorem zHa (c:MCon) (s:Sto) (hn:(zAO c).length≠0) (k:Nat) (z:Int) (hk:(k:Int)∉zAO c):zDD c s k z=true:=by
 unfold zDD
 cases zAG s
 ·rw[if_neg (by simp),if_neg hn,if_neg (fun h=>hk ((zDy _ _).1 h))]
 ·rfl
theorem zDP (c:MCon) (s:Sto) (hf:zAG s=false) (hn:(zAO c).length=0) (k:Nat) (z:Int):zDD c s k z=zAV c (zAN s.length):=by
 unfold zDD
 rw[hf,if_neg (by simp),if_pos hn]
theorem zHb (c:MCon) (s:Sto) (hf:zAG s=true) (k:Nat) (z:Int):zDD c s k z=true:=by
 unfold zDD;rw[hf,if_pos rfl]
theorem zGp (c:MCon) (s:Sto) (hf:zAG s=true):zAp c s=s:=by
 unfold zAp
 refine zGh _ _ (zAQ _ _) fun k r q hr hq=>?_
 obtain⟨a,ha,rfl⟩:=zAl _ _ _ _ hr
 rw[hq] at ha;cases ha
 exact List.filter_eq_self.2 fun z _=>zHb c s hf k z
theorem zF8 (s:Sto):zAG s=true↔∃k:Nat,s[k]? = some []:=by
 unfold zAG
 rw[List.any_eq_true]
 constructor
 ·rintro ⟨r,hr,h⟩
  obtain⟨k,hk⟩:=List.mem_iff_getElem?.1 hr
  have:r=[]:=List.eq_nil_of_length_eq_zero (by simpa using h)
  exact⟨k,by rw[hk,this]⟩
 ·rintro ⟨k,hk⟩
  exact⟨[],List.mem_of_getElem? hk,rfl⟩
theorem zD5 (m:Mod) (hm:zAP m=0) (j:Nat) (c:MCon) (hc:m.cons[j]? = some c):(∀v∈zAO c,0≤v∧v<(m.vars.length:Int))∧(c.kind=10→c.lits≠[]):=by
 obtain⟨_,_,hform,hvars,_,_⟩:=zDB _ _ (zHL m hm j c hc)
 obtain⟨h1,h2⟩:=zFF c _ hvars
 refine⟨fun v hv=>?_,fun hk=>?_⟩
 ·rw[zD3] at hv
  unfold zBH at hv
  rcases List.mem_append.1 hv with h | h
  ·exact h1 v h
  ·obtain⟨l,hl,rfl⟩:=List.mem_map.1 h
   exact h2 l hl
 ·intro h
  unfold zB9 at hform
  rw[hk,h] at hform
  simp at hform
def zBa (l:List Cla):List (Sto→Sto):=l.map fun c=>fun s=>zA0 s c
theorem zHc (l:List Cla):∀f∈zBa l,StepOk f:=by
 intro f hf
 obtain⟨c,_,rfl⟩:=List.mem_map.1 hf
 exact zHV c
theorem zNX (vs:List MVar) (c:Cla) (h:claE vs c=0):c.length≤40∧∀l∈c,litE vs l=0:=by
 unfold claE at h
 split at h
 ·cases h
 ·refine⟨by omega,fun l hl=>zDO _ h _ (List.mem_map.2 ⟨l,hl,rfl⟩)⟩
theorem zMU (vs:List MVar) (l:List Cla) (h:zDz vs l=0):l.length≤600∧∀c∈l,claE vs c=0:=by
 unfold zDz at h
 split at h
 ·cases h
 ·refine⟨by omega,fun c hc=>zDO _ h _ (List.mem_map.2 ⟨c,hc,rfl⟩)⟩
theorem zMV (vs:List MVar) (s:Sto) (c:Cla) (hs:s.length=vs.length) (h:claE vs c=0):zKB s c:=by
 intro l hl
 have:=((zK5 vs l).1 ((zNX vs c h).2 l hl)).1
 rw[hs];exact this
theorem zJV (lo hi x:Int) (h1:lo≤x) (h2:x≤hi):x∈zDh lo hi:=by
 unfold zDh
 rw[List.mem_map]
 exact⟨(x - lo).toNat,List.mem_range.2 (by omega),by omega⟩
theorem zCJ (vs:List MVar):(zAK vs).length=vs.length:=by simp[zAK]
theorem zMW (m:Mod) (c:Cla) (hc:claE m.vars c=0):zKB (zAK m.vars) c:=zMV m.vars _ c (zCJ _) hc
theorem zIi (lo hi:Int):zDx (zDh lo hi)=true:=by
 rw[zF5]
 unfold zDh
 rw[List.pairwise_map]
 exact List.pairwise_lt_range.imp fun h=>by omega
theorem zFI (vs:List MVar):zHP vs (zAK vs)=0:=by
 rw[zFC]
 refine⟨zCJ vs,?_,?_⟩
 ·unfold zJN
  rw[zIa]
  intro i v r hv hr
  unfold zAK at hr
  rw[List.getElem?_map,hv] at hr
  cases hr
  rw[List.all_eq_true]
  intro x hx
  unfold zDh at hx
  obtain⟨k,hk,rfl⟩:=List.mem_map.1 hx
  have:=List.mem_range.1 hk
  simp[zIZ]
  omega
 ·rw[List.all_eq_true]
  intro r hr
  unfold zAK at hr
  obtain⟨v,_,rfl⟩:=List.mem_map.1 hr
  exact zIi _ _
structure MStep where
 kind:Int
 con:Int
 cla:Cla
end Go.Proofs.YtndcpnlaadikoaaGreatDoor
