/- What the proof leans on, part 35. -/
import Derived.Test.YtndcpnlaadikoaaGreatDoorPartBh
import Derived.Test.YtndcpnlaadikoaaGreatDoorPartAm
import Derived.Test.YtndcpnlaadikoaaGreatDoorPartAs
import Derived.Test.YtndcpnlaadikoaaGreatDoorPartAj
import Derived.Test.YtndcpnlaadikoaaGreatDoorPartAu
namespace Go.Proofs.YtndcpnlaadikoaaGreatDoor
open Go.RowKit
def zC5 (s:Sto):List Int→Nat
 | []=>1
 | v :: r=>(s.getD v.toNat []).length * zC5 s r
theorem zLm (s:Sto):∀(scope vals:List Int) (n:Nat),(chN s scope vals n).2=n / zC5 s scope
 | [],vals,n=>by simp[chN,zC5]
 | v :: r,vals,n=>by
   unfold chN zC5
   rw[zLm s r,Nat.div_div_eq_div_mul]
theorem zLn (s:Sto):∀(scope vals:List Int) (n:Nat),(chN s scope vals n).1.length=vals.length
 | [],vals,n=>rfl
 | v :: r,vals,n=>by
   unfold chN
   rw[zLn s r,List.length_set]
theorem zLo (s:Sto):∀(scope vals:List Int) (n w:Nat),(∀v∈scope,v.toNat≠w)→(chN s scope vals n).1[w]? = vals[w]?
 | [],vals,n,w,_=>rfl
 | v :: r,vals,n,w,h=>by
   unfold chN
   rw[zLo s r _ _ w (fun v' hv=>h v' (List.mem_cons_of_mem _ hv)),List.getElem?_set_ne (h v (List.mem_cons_self ..))]
theorem zJl (s:Sto):∀(scope a b:List Int) (n:Nat),a.length=b.length→(∀w:Nat,(∀v∈scope,v.toNat≠w)→a[w]? = b[w]?)→(chN s scope a n).1=(chN s scope b n).1
 | [],a,b,n,_,h=>List.ext_getElem? fun w=>h w (fun v hv=>by cases hv)
 | v :: r,a,b,n,hl,h=>by
   unfold chN
   refine zJl s r _ _ _ (by simp[hl]) fun w hw=>?_
   by_cases he:v.toNat=w
   ·subst he
    simp[List.getElem?_set,hl]
   ·rw[List.getElem?_set_ne he,List.getElem?_set_ne he]
    exact h w fun v' hv=>by
     rcases List.mem_cons.1 hv with rfl | hv
     ·exact he
     ·exact hw v' hv
theorem zH5 (s:Sto):∀(scope:List Int),(∀v∈scope,s.getD v.toNat []≠[])→0<zC5 s scope
 | [],_=>by simp[zC5]
 | v :: r,h=>by
   unfold zC5
   exact Nat.mul_pos (List.length_pos_iff.2 (h v (List.mem_cons_self ..))) (zH5 s r fun v' hv=>h v' (List.mem_cons_of_mem _ hv))
theorem zLp (s:Sto):∀(scope vals:List Int) (n:Nat),(∀v∈scope,s.getD v.toNat []≠[])→(chN s scope vals n).1∈zCo s scope vals
 | [],vals,n,_=>by simp[chN,zCo]
 | v :: r,vals,n,h=>by
   unfold chN zCo
   refine List.mem_flatMap.2 ⟨_,?_,zLp s r _ _ fun v' hv=>h v' (List.mem_cons_of_mem _ hv)⟩
   have h0:=List.length_pos_iff.2 (h v (List.mem_cons_self ..))
   have h1:=Nat.mod_lt n h0
   generalize List.getD s v.toNat []=row at h1
   rw[List.getD_eq_getElem?_getD,List.getElem?_eq_getElem h1]
   exact List.getElem_mem h1
theorem zJm (s:Sto):∀(scope vals u:List Int),u∈zCo s scope vals→∃n,n<zC5 s scope∧(chN s scope vals n).1=u
 | [],vals,u,h=>by
   simp only[zCo,List.mem_singleton] at h
   exact⟨0,by simp[zC5],h.symm⟩
 | v :: r,vals,u,h=>by
   unfold zCo at h
   obtain⟨x,hx,hu⟩:=List.mem_flatMap.1 h
   obtain⟨n,hn,he⟩:=zJm s r _ u hu
   obtain⟨i,hi,hxi⟩:=List.getElem_of_mem hx
   have h0:0<(List.getD s v.toNat []).length:=by omega
   refine⟨i+(List.getD s v.toNat []).length * n,?_,?_⟩
   ·unfold zC5
    have h2:(List.getD s v.toNat []).length * (n+1)≤(List.getD s v.toNat []).length * zC5 s r:=Nat.mul_le_mul_left _ hn
    rw[Nat.mul_add,Nat.mul_one] at h2
    omega
   ·unfold chN
    rw[Nat.add_mul_mod_self_left,Nat.mod_eq_of_lt hi,Nat.add_mul_div_left _ _ h0,Nat.div_eq_of_lt hi,Nat.zero_add,List.getD_eq_getElem?_getD (l:=List.getD s v.toNat []),List.getElem?_eq_getElem hi,Option.getD_some,hxi]
    exact he
def uN (s:Sto) (scope:List Int) (n:Nat):List Int:=(chN s scope (zAN s.length) n).1
theorem zKc (c:MCon) (s:Sto) (scope:List Int) (hmem:∀v,v∈scope↔v∈zAO c) (hsc:∀v∈zAO c,0≤v∧v<s.length) (hl:c.kind=10→c.lits≠[]) (k:Nat) (z:Int) :
 (∃u∈zCo s scope (zAN s.length),zAV c u=true∧zAX u (k:Int)=z)∧(k:Int)∈scope↔Part c s k z∧(k:Int)∈scope:=by
 have hb:∀v∈scope,v.toNat<(zAN s.length).length:=fun v hv=>by
  have:=hsc v ((hmem v).1 hv)
  simp only[zAN,List.length_replicate]
  omega
 constructor
 ·rintro ⟨⟨u,hu,hh,hz⟩,hk⟩
  refine⟨⟨u,by rw[zFH s _ _ u hu];simp[zAN],fun v hv=>?_,hh,hz⟩,hk⟩
  obtain⟨v',_,he,hm⟩:=zGn s _ _ u hb hu v ((hmem v).2 hv)
  rw[←he];exact hm
 ·rintro ⟨⟨u,hul,hu,hh,hz⟩,hk⟩
  let u':List Int:=(List.range s.length).map fun (i:Nat)=>if (i:Int)∈scope then zAX u (i:Int) else 0
  have hu'l:u'.length=s.length:=by simp[u']
  have hval:∀v∈scope,zAX u' v=zAX u v:=fun v hv=>by
   obtain⟨h0,h1⟩:=hsc v ((hmem v).1 hv)
   obtain⟨i,rfl⟩:∃i:Nat,v=(i:Int):=⟨v.toNat,by omega⟩
   have hi:i<s.length:=by omega
   unfold zAX
   rw[List.getD_eq_getElem?_getD]
   simp only[u',Int.toNat_natCast,List.getElem?_map,List.getElem?_range hi,Option.map_some,Option.getD_some,if_pos hv]
   rfl
  refine⟨⟨u',zET s _ _ u' hb (by rw[hu'l];simp[zAN]) (fun v hv=>by rw[hval v hv];exact hu v ((hmem v).1 hv)) (fun w hw=>?_),?_,by rw[hval _ hk];exact hz⟩,hk⟩
  ·by_cases hws:w<s.length
   ·rw[zD4 _ _ hws]
    simp only[u',List.getElem?_map,List.getElem?_range hws,Option.map_some]
    rw[if_neg (fun h=>hw _ h (by simp))]
   ·rw[List.getElem?_eq_none (by omega),List.getElem?_eq_none (by simp[zAN];omega)]
  ·rw[zCI c u' u (fun v hv=>hval v ((hmem v).2 hv)) hl];exact hh
def zFe (c:MCon) (s:Sto) (scope:List Int) (n:Nat) (met:List MLit):Prop :=
 ∀(k z:Int),(⟨k,0,z⟩:MLit)∈met↔∃i,i<n∧zAV c (uN s scope i)=true∧k∈scope∧zAX (uN s scope i) k=z
theorem zEb (n:Nat) (c:MCon) (hsc:∀v∈zAO c,0≤v∧v<(n:Int)) (v:Int):v∈zBC n c↔v∈zAO c:=by
 have hB:zCb c v=true↔v∈zBH c:=by
  unfold zCb zBH
  simp[List.any_eq_true]
 unfold zBC
 rw[List.mem_filter,hB,←zD3]
 constructor
 ·exact fun h=>h.2
 ·intro h
  obtain⟨h0,h1⟩:=hsc v h
  exact⟨List.mem_map.2 ⟨v.toNat,List.mem_range.2 (by omega),by omega⟩,h⟩
theorem zNn (c:MCon) (s:Sto) (hf:zAG s=false) (hsc:∀v∈zAO c,0≤v∧v<s.length) (hl:c.kind=10→c.lits≠[]) (met:List MLit) (hm:zFe c s (zBC s.length c) (zC5 s (zBC s.length c)) met)
 (hne:∀v∈zBC s.length c,s.getD v.toNat []≠[]) (k:Nat) (z:Int) (hk:(k:Int)∈zBC s.length c):hasT met ⟨(k:Int),0,z⟩=zDD c s k z:=by
 have hmem:=zEb s.length c hsc
 rw[zGo c s hf k z ((hmem _).1 hk)]
 rw[Bool.eq_iff_iff,zJk,zIh c s hsc hl k z ((hmem _).1 hk),hm]
 have h:=zKc c s _ hmem hsc hl k z
 constructor
 ·rintro ⟨i,_,hh,_,hz⟩
  exact (h.1 ⟨⟨_,zLp s _ _ i hne,hh,hz⟩,hk⟩).1
 ·intro hp
  obtain⟨⟨u,hu,hh,hz⟩,_⟩:=h.2 ⟨hp,hk⟩
  obtain⟨i,hi,he⟩:=zJm s _ _ u hu
  have he':uN s (zBC s.length c) i=u:=he
  exact⟨i,hi,by rw[he'];exact hh,hk,by rw[he'];exact hz⟩
theorem zH6 (l:List Int) (n:Int):hasB l n=l.any fun k=>k==n:=by
 unfold hasB
 congr 1
 funext k
 exact Bool.beq_comm
set_option maxHeartbeats 400000 in
set_option maxRecDepth 100000 in
theorem zGV (l:List Int) (v:Value) (n:Int) (w:World) (hv:IArg w v l) :
 Calls Tryz.prog 160 #[v,.int .i64 n] w fun e w'=>e=.returned (.bool (hasB l n))∧w'=w:=by
 obtain⟨a,c,rfl,hm,hr⟩:=hv
 have HV:Hid (∀(i:Nat) (z:Int),l[i]? = some z→∃b off,a=some ⟨b,off,none⟩∧b<w.heap.size∧w.cell? ⟨b,off+i,none⟩=some (.int .i64 z)):=hr
 obtain⟨R,hR⟩:∃R,hasB l n=R:=⟨_,rfl⟩
 rw[hR]
 have HR:Hid ((l.any fun k=>k==n)=R):=by show _=_;rw[←hR,zH6]
 unfold maxLen at hm
 obtain⟨hm1,hm⟩:=hm
 clear hr hR
 go_enter Tryz.func160,Tryz.ntmps160
 go_wp2_with fail
 go_loop [5] (fun i=>∃m:Nat,m≤l.length∧i=.int .i64 m∧Hid ((l.take m).any (fun k=>k==n)=false)) (fun i=>l.length - (intOf i).toNat)
 case atStart=>exact⟨0,by omega,rfl,rfl⟩
 case round =>
  obtain⟨m,hml,rfl,hall⟩:=hrel
  by_cases hlt:m<l.length
  ·obtain⟨z,hz⟩:∃z,l[m]? = some z:=⟨l[m],by simp[hlt]⟩
   obtain⟨b,off,ha,hb,hc⟩:=HV.out m z hz
   have HZ:Hid (l[m]? = some z):=hz
   subst ha
   clear hz
   cases hq:(z==n)
   ·have HN:Hid ((l.take (m+1)).any (fun k=>k==n)=false):=zGt (fun k=>k==n) l m z HZ.out hall.out hq
    go_wp2
    go_round
    case rel=>exact⟨m+1,by omega,by go_num,HN⟩
    case measure=>simp[intOf];omega
   ·have HN:Hid (R=true):=by rw[←HR.out];exact zIk (fun k=>k==n) l m z HZ.out hq
    go_wp2
    go_ret
    exact⟨zAB HN.out.symm,rfl⟩
  ·have HN:Hid (R=false):=by rw[←HR.out];exact zIl _ l m hlt hall.out
   go_wp2
   go_ret
   exact⟨zAB HN.out.symm,rfl⟩
set_option maxHeartbeats 400000 in
set_option maxRecDepth 100000 in
theorem zAk (s:Sto) (v:Value) (w:World) (hv:RArg w v s) :
 Calls Tryz.prog 93 #[v] w fun e w'=>e=.returned (.bool (zAG s))∧w'=w:=by
 obtain⟨a,c,rfl,hm,hr⟩:=hv
 have HV:Hid (∀(i:Nat) (r:List Int),s[i]? = some r→∃b off x,a=some ⟨b,off,none⟩∧b<w.heap.size∧w.cell? ⟨b,off+i,none⟩=some x∧IArg w x r):=hr
 obtain⟨R,hR⟩:∃R,zAG s=R:=⟨_,rfl⟩
 rw[hR]
 have HR:Hid ((s.any fun r=>decide (r.length=0))=R):=hR
 unfold maxLen at hm
 obtain⟨hm1,hm⟩:=hm
 clear hr hR
 go_enter Tryz.func93,Tryz.ntmps93
 go_wp2_with fail
 go_loop [3] (fun i=>∃m:Nat,m≤s.length∧i=.int .i64 m∧Hid ((s.take m).any (fun r=>decide (r.length=0))=false)) (fun i=>s.length - (intOf i).toNat)
 case atStart=>exact⟨0,by omega,rfl,rfl⟩
 case round =>
  obtain⟨m,hml,rfl,hall⟩:=hrel
  by_cases hlt:m<s.length
  ·obtain⟨r,hz⟩:∃r,s[m]? = some r:=⟨s[m],by simp[hlt]⟩
   obtain⟨b,off,x,ha,hb,hc,hx⟩:=HV.out m r hz
   obtain⟨a5,c5,rfl,_,_⟩:=hx
   have HZ:Hid (s[m]? = some r):=hz
   subst ha
   clear hz
   by_cases h0:r.length=0
   ·have HN:Hid (R=true):=by rw[←HR.out];exact zIk (fun r:List Int=>decide (r.length=0)) s m r HZ.out (decide_eq_true h0)
    have g0:((r.length:Int)==0)=true:=by simp[h0]
    clear h0
    go_wp2
    go_ret
    exact⟨zAB HN.out.symm,rfl⟩
   ·have HN:Hid ((s.take (m+1)).any (fun r=>decide (r.length=0))=false):=zGt (fun r:List Int=>decide (r.length=0)) s m r HZ.out hall.out (decide_eq_false h0)
    have g0:((r.length:Int)==0)=false:=by simpa using h0
    clear h0
    go_wp2
    go_round
    case rel=>exact⟨m+1,by omega,by go_num,HN⟩
    case measure=>simp[intOf];omega
  ·have HN:Hid (R=false):=by rw[←HR.out];exact zIl _ s m hlt hall.out
   go_wp2
   go_ret
   exact⟨zAB HN.out.symm,rfl⟩
theorem zKd (c:MCon) (s:Sto) (scope:List Int):zFe c s scope 0 []:=fun k z=>by
 constructor
 ·intro h;cases h
 ·rintro ⟨i,hi,_⟩;omega
theorem zKe {c:MCon} {s:Sto} {scope:List Int} {n:Nat} {met:List MLit} (h:zFe c s scope n met) (hh:zAV c (uN s scope n)=false):zFe c s scope (n+1) met:=fun k z=>by
 rw[h k z]
 constructor
 ·rintro ⟨i,hi,r⟩;exact⟨i,by omega,r⟩
 ·rintro ⟨i,hi,r1,r2⟩
  by_cases he:i=n
  ·subst he;rw[hh] at r1;cases r1
  ·exact⟨i,by omega,r1,r2⟩
def MetI (c:MCon) (s:Sto) (scope:List Int) (n j:Nat) (met:List MLit):Prop :=
 ∀(k z:Int),(⟨k,0,z⟩:MLit)∈met↔(∃i,i<n∧zAV c (uN s scope i)=true∧k∈scope∧zAX (uN s scope i) k=z)∨(k∈scope.take j∧zAX (uN s scope n) k=z)
theorem zKf {c:MCon} {s:Sto} {scope:List Int} {n:Nat} {met:List MLit} (h:zFe c s scope n met):MetI c s scope n 0 met:=fun k z=>by
 rw[h k z];simp
theorem zMw {c:MCon} {s:Sto} {scope:List Int} {n j:Nat} {met:List MLit} (h:MetI c s scope n j met) (v:Int) (hv:scope[j]? = some v) (hh:hasT met ⟨v,0,zAX (uN s scope n) v⟩=true):MetI c s scope n (j+1) met:=fun k z=>by
 rw[h k z,List.take_add_one,hv]
 rw[zJk,h v _] at hh
 constructor
 ·rintro (r | ⟨r1,r2⟩)
  ·exact .inl r
  ·exact .inr ⟨List.mem_append_left _ r1,r2⟩
 ·rintro (r | ⟨r1,r2⟩)
  ·exact .inl r
  ·rcases List.mem_append.1 r1 with r1 | r1
   ·exact .inr ⟨r1,r2⟩
   ·have:k=v:=by simpa using r1
    subst this
    rw[←r2]
    exact hh
theorem zMx {c:MCon} {s:Sto} {scope:List Int} {n j:Nat} {met:List MLit} (h:MetI c s scope n j met) (v:Int) (hv:scope[j]? = some v):MetI c s scope n (j+1) (met++[⟨v,0,zAX (uN s scope n) v⟩]):=fun k z=>by
 rw[List.mem_append,h k z,List.take_add_one,hv,List.mem_singleton]
 constructor
 ·rintro ((r | ⟨r1,r2⟩) | r)
  ·exact .inl r
  ·exact .inr ⟨List.mem_append_left _ r1,r2⟩
  ·have h1:k=v:=congrArg MLit.var r
   have h2:z=zAX (uN s scope n) v:=congrArg MLit.n r
   exact .inr ⟨List.mem_append_right _ (by simp[h1]),by rw[h1,h2]⟩
 ·rintro (r | ⟨r1,r2⟩)
  ·exact .inl (.inl r)
  ·rcases List.mem_append.1 r1 with r1 | r1
   ·exact .inl (.inr ⟨r1,r2⟩)
   ·have:k=v:=by simpa using r1
    subst this
    exact .inr (by rw[r2])
theorem zMy {c:MCon} {s:Sto} {scope:List Int} {n:Nat} {met:List MLit} (h:MetI c s scope n scope.length met) (hh:zAV c (uN s scope n)=true):zFe c s scope (n+1) met:=fun k z=>by
 rw[h k z,List.take_length]
 constructor
 ·rintro (⟨i,hi,r⟩ | ⟨r1,r2⟩)
  ·exact⟨i,by omega,r⟩
  ·exact⟨n,by omega,hh,r1,r2⟩
 ·rintro ⟨i,hi,r1,r2,r3⟩
  by_cases he:i=n
  ·subst he;exact .inr ⟨r2,r3⟩
  ·exact .inl ⟨i,by omega,r1,r2,r3⟩
theorem zJn (s:Sto) (h:∀r∈s,r.length≤6):∀scope:List Int,zC5 s scope≤6 ^ scope.length
 | []=>by simp[zC5]
 | v :: r=>by
   unfold zC5
   have h1:(s.getD v.toNat []).length≤6:=by
    rw[List.getD_eq_getElem?_getD]
    cases hg:s[v.toNat]? with
    | none=>simp
    | some x=>exact h x (List.mem_of_getElem? hg)
   rw[List.length_cons,Nat.pow_succ,Nat.mul_comm (6 ^ r.length)]
   exact Nat.mul_le_mul h1 (zJn s h r)
theorem zJo (s:Sto) (p:Nat→Int→Bool) (h:∀k z,p k z=true):zA6 s p=s:=by
 apply List.ext_getElem?
 intro k
 cases hg:s[k]? with
 | none=>rw[List.getElem?_eq_none_iff] at hg ⊢;rw[zAQ];exact hg
 | some r=>rw[zBY s p k r hg,List.filter_eq_self.2 (fun z _=>h k z)]
theorem zNo (s:Sto) (p:Nat→Int→Bool) (h:∀k z,p k z=false):zA6 s p=zB4 s.length:=by
 apply List.ext_getElem?
 intro k
 unfold zB4
 cases hg:s[k]? with
 | none =>
   rw[List.getElem?_eq_none_iff] at hg
   rw[List.getElem?_eq_none_iff.2 (by rw[zAQ];exact hg),List.getElem?_eq_none_iff.2 (by simpa using hg)]
 | some r =>
   have hk:=(List.getElem?_eq_some_iff.1 hg).1
   rw[zBY s p k r hg,List.getElem?_replicate,if_pos hk,List.filter_eq_nil_iff.2 (fun z _=>by rw[h k z];decide)]
theorem zH7 (c:MCon) (s:Sto) (h:zAG s=true):zAp c s=s:=zJo s _ fun k z=>by unfold zDD;rw[if_pos h]
theorem zI0 (c:MCon) (s:Sto) (h:zAG s=false) (hn:(zAO c).length=0):zAp c s=if zAV c (zAN s.length) then s else zB4 s.length:=by
 cases hh:zAV c (zAN s.length)
 ·exact zNo s _ fun k z=>by rw[zDP c s h hn k z,hh]
 ·exact zJo s _ fun k z=>by rw[zDP c s h hn k z,hh]
theorem zKg (c:MCon) (s:Sto) (hf:zAG s=false) (hsc:∀v∈zAO c,0≤v∧v<s.length) (hl:c.kind=10→c.lits≠[]) (hn:(zAO c).length≠0) (met:List MLit) (hm:zFe c s (zBC s.length c) (zC5 s (zBC s.length c)) met)
 (hne:∀v∈zBC s.length c,s.getD v.toNat []≠[]) (k:Nat) (r:List Int) (hr:s[k]? = some r) :
 (zAp c s)[k]? = some (if hasB (zBC s.length c) (k:Int) then r.filter (fun z=>hasT met ⟨(k:Int),0,z⟩) else r):=by
 have hmem:=zEb s.length c hsc
 have hB:hasB (zBC s.length c) (k:Int)=true↔(k:Int)∈zBC s.length c:=by
  rw[zH6,List.any_eq_true]
  constructor
  ·rintro ⟨x,hx,he⟩
   have:x=(k:Int):=by simpa using he
   rw[←this];exact hx
  ·intro h;exact⟨_,h,by simp⟩
 unfold zAp
 rw[zBY s _ k r hr]
 cases hq:hasB (zBC s.length c) (k:Int)
 ·have hk:(k:Int)∉zAO c:=fun h=>by rw[hB.2 ((hmem _).2 h)] at hq;cases hq
  rw[List.filter_eq_self.2 (fun z _=>zHa c s hn k z hk)]
  rfl
 ·have hk:=hB.1 hq
  congr 1
  exact List.filter_congr fun z _=>(zNn c s hf hsc hl met hm hne k z hk).symm
theorem zNp {base B V n cap:Nat} {w w':World} {v:Value} {met:Cla} {xs:List Value} (h:LOwn base w v met) (hr:w.ownsRow B 3 1 (.slice (some ⟨V,0,none⟩) n cap) n xs) (hf:Fr (fun k=>k=V) w w'):LOwn base w' v met:=by
 refine⟨h.1,?_⟩
 rcases h.2 with hn | ⟨g,cp,cur,hv,hg,hh,r⟩
 ·exact .inl hn
 ·have hne:g≠V:=by
   intro e1
   rcases hr.2 with ⟨h2,_⟩ | ⟨g2,cap2,cur2,h2,_,hh2,_⟩
   ·cases h2
   ·have:V=g2:=by injection h2 with h3;injection h3 with h4;injection h4
    subst this
    rw[e1,hh2] at hh
    injection hh with h5
    injection h5 with _ h6
    exact absurd h6 (by decide)
  exact .inr ⟨g,cp,cur,hv,hg,(hf.block g (Array.getElem?_eq_some_iff.1 hh).1 hne).trans hh,r⟩
theorem zDo (T:TypeId) (hT:Tryz.prog.underlying T=some (.slice 76)) {w:World} {ops:Array Oper} {rest:List Oper} {o:Oper} {a:Act} {Q:Exit→Act→World→Prop} (hgd:o.guard=none) (s x:Operand)
 (ho:o.op=.call { callee:=.builtin .append,args:=#[s,x],argTypes:=#[T,T] }) (base:Nat)
 (v:Value) (xs:Cla) (hs:a.eval s=v) (hown:LOwn base w v xs)
 (u:Value) (l:Cla) (hx:a.eval x=u) (hl:LArg w u l) (hn:xs.length+l.length≤1000000) (hbase:base≤w.heap.size)
 (h:∀v' w',LOwn base w' v' (xs++l)→w.grownBy w' v.ownBlock→wpList Tryz.prog ops Q rest (a.put o.dst v') w'):wpList Tryz.prog ops Q (o :: rest) a w:=by
 obtain⟨i0,hi,hz0,hz1,hz2⟩:=info_parts Tryz.infoLit
 obtain⟨q,c,rfl,hm,hc⟩:=hl
 have hown':w.ownsRow base 76 3 v xs.length (zA1 xs):=hown
 cases q with
 | none =>
   have hl0:l=[]:=by
    cases l with
    | nil=>rfl
    | cons z r=>obtain⟨b,off,hq,_⟩:=hc 0 z rfl;cases hq
   subst hl0
   refine wpList_plain hgd fun K hK=>?_
   have hr:=zEF T hT w o.type base xs.length c v _ hown'
   unfold Oper.wp execOp
   simp only[ho,resolve,invoke,builtin,Sem.run_bind,Sem.run_pure,Result.andThen_ok,List.map_toArray,List.map_cons,List.map_nil,hs,hx,List.length_nil,hr]
   exact hK _ _ (h v w (by rw[List.append_nil];exact hown) ⟨rfl,rfl,rfl,Nat.le_refl _,fun _ _ _=>rfl⟩)
 | some ad =>
   refine wpList_append_own w hgd s x T ho base 76 i0 (.agg #[.int .i64 0,.int .i64 0,.int .i64 0]) 3 24 hT hi hz0 hz1 hz2 rfl (by decide) v xs.length _ hs hown' ad l.length c (zA1 l) hx (zEX l) ?_ (zJd l) (by unfold maxLen;omega) (by omega) hbase ?_
   ·intro j y hy
    obtain⟨i,t,ht,hcase⟩:=zFU l j y hy
    obtain⟨b,off,hq,_,c0,c1,c2⟩:=hc i t ht
    cases hq
    rw[zDZ]
    rcases hcase with ⟨rfl,rfl⟩ | ⟨rfl,rfl⟩ | ⟨rfl,rfl⟩
    ·exact c0
    ·rw[←Nat.add_assoc];exact c1
    ·rw[←Nat.add_assoc];exact c2
   ·intro v' w' h1 h2 h3
    refine h v' w' ?_ h2
    show w'.ownsRow _ _ _ _ _ _
    unfold zA1 at *
    rw[List.length_append,List.flatMap_append]
    exact h1
end Go.Proofs.YtndcpnlaadikoaaGreatDoor
