/- What the proof leans on, part 21. -/
import Derived.Test.YtdjbejlbmaiocafGreatDoorPartAi
import Derived.Test.YtdjbejlbmaiocafGreatDoorPartAt
import Derived.Deep.RegionHeld3
import Derived.Laws.OwnMore
import Derived.Test.YtdjbejlbmaiocafGreatDoorPartAo
import Derived.Test.YtdjbejlbmaiocafGreatDoorPartAn
namespace Go.Proofs.YtdjbejlbmaiocafGreatDoor
open Go.RowKit
def GArg (w:World) (v:Value) (l:List Sto):Prop :=
 ∃a c,v=.slice a l.length c∧(l.length≤c∧c≤maxLen)∧∀(i:Nat) (r:Sto),l[i]? = some r→∃b off x,a=some ⟨b,off,none⟩∧b<w.heap.size∧w.cell? ⟨b,off+i,none⟩=some x∧RArg w x r
theorem GArg.below {w w':World} {v:Value} {l:List Sto} (hb:Below w.heap.size w w') (h:GArg w v l):GArg w' v l:=by
 obtain⟨a,c,hv,hm,hr⟩:=h
 refine⟨a,c,hv,hm,fun i z hz=>?_⟩
 obtain⟨b,off,x,ha,hlt,hc,hx⟩:=hr i z hz
 exact⟨b,off,x,ha,Nat.lt_of_lt_of_le hlt hb.size,(hb.cell (p:=⟨b,off+i,none⟩) hlt).trans hc,RArg.below hb hx⟩
set_option maxHeartbeats 400000 in
theorem zIE (x y:Value) (w:World):Calls Tryz.prog 215 #[x,y] w fun e w'=>e=.returned (.bool true)∧Below w.heap.size w w':=by
 go_enter Tryz.func215,Tryz.ntmps215
 go_wp2
 go_ret
 exact⟨rfl,Below.refl _ _⟩
theorem zF8 (args:Array Value) (w':World):Sem.run Tryz.prog (callFunc 215 args) w'=.ok (.enter 215 args) w':=by
 simp[callFunc,go_sem,Tryz.func215,Tryz.f215]
set_option maxHeartbeats 400000 in
theorem zDN (vs:List MVar) (hva:zAH vs) (sv:Value) (w:World) (hv:VArg w sv vs) :
 Calls Tryz.prog 170 #[sv] w fun e w'=>e=.returned (.int .u64 ((zAG vs:Nat):Int))∧Below w.heap.size w w':=by
 have HV:Hid (VArg w sv vs):=hv
 have HVO:Hid (zAH vs):=hva
 obtain⟨a,c,rfl,_,_⟩:=hv
 clear hva
 go_enter Tryz.func170,Tryz.ntmps170
 go_wp2_with fail
 refine (zK0 215 #[] vs (fun _ _=>true) HVO.out _ _ HV.out ⟨zF8,fun k z w' _ _ _ _=>zIE _ _ w'⟩).mono ?_
 rintro e w1 ⟨rfl,hb1⟩
 go_wp2
 go_ret
 exact⟨rfl,hb1⟩
set_option maxHeartbeats 400000 in
theorem zKS (c:Cla) (k:Nat) (z:Int) (u:Value) (b1:Nat) (w:World) (hu:LArg w u c) (h1:w.cell? ⟨b1,0,none⟩=some u) :
 Calls Tryz.prog 223 #[.int .i64 k,.int .i64 z,.pointer (some ⟨b1,0,none⟩)] w fun e w'=>e=.returned (.bool (oneB c k z))∧Below w.heap.size w w':=by
 have HU:Hid (LArg w u c):=hu
 obtain⟨a,cc,rfl,_,_⟩:=hu
 go_enter Tryz.func223,Tryz.ntmps223
 go_wp2_with fail
 refine (zLg c k z _ _ HU.out).mono ?_
 rintro e w1 ⟨rfl,hb1⟩
 go_wp2
 go_ret
 exact⟨rfl,hb1⟩
theorem zG1 (args:Array Value) (w':World):Sem.run Tryz.prog (callFunc 223 args) w'=.ok (.enter 223 args) w':=by
 simp[callFunc,go_sem,Tryz.func223,Tryz.f223]
set_option maxHeartbeats 400000 in
theorem zCk (vs:List MVar) (hva:zAH vs) (cl:Cla) (sv u:Value) (w:World) (hv:VArg w sv vs) (hu:LArg w u cl) :
 Calls Tryz.prog 178 #[sv,u] w fun e w'=>e=.returned (.int .u64 ((zAR vs cl:Nat):Int))∧Below w.heap.size w w':=by
 have HV:Hid (∀w',Below w.heap.size w w'→VArg w' sv vs):=fun w' h=>VArg.below h hv
 have HU:Hid (∀w',Below w.heap.size w w'→LArg w' u cl):=fun w' h=>LArg.below h hu
 have HVO:Hid (zAH vs):=hva
 obtain⟨a,c,rfl,_,_⟩:=hv
 obtain⟨a2,c2,rfl,_,_⟩:=hu
 clear hva
 go_enter Tryz.func178,Tryz.ntmps178
 go_wp2_with fail
 refine (zK0 223 _ vs (fun v x=>oneB cl v x) HVO.out _ _ (HV.out _ (zAA _ _)) ⟨zG1,fun k z w' hk _ _ hb'=>?_⟩).mono ?_
 ·exact zKS cl k z _ w.heap.size w' (HU.out _ ((zAA _ _).trans (hb'.mono (by simp)))) ((hb'.cell (by simp)).trans (World.cell?_alloc_at _ _ _ 0 (by simp)))
 rintro e w1 ⟨rfl,hb1⟩
 have hb2:Below w.heap.size w w1:=(zAA _ _).trans (hb1.mono (by simp))
 clear hb1
 go_wp2
 go_ret
 exact⟨rfl,hb2⟩
def PArg (w:World) (v:Value) (l:List Nat):Prop :=
 ∃a c,v=.slice a l.length c∧(l.length≤c∧c≤maxLen)∧∀(i z:Nat),l[i]? = some z→z<2 ^ 36∧∃b off,a=some ⟨b,off,none⟩∧b<w.heap.size∧w.cell? ⟨b,off+i,none⟩=some (.int .u64 z)
theorem PArg.below {w w':World} {v:Value} {l:List Nat} (hb:Below w.heap.size w w') (h:PArg w v l):PArg w' v l:=by
 obtain⟨a,c,hv,hm,hr⟩:=h
 refine⟨a,c,hv,hm,fun i z hz=>?_⟩
 obtain⟨hz36,b,off,ha,hlt,hc⟩:=hr i z hz
 exact⟨hz36,b,off,ha,Nat.lt_of_lt_of_le hlt hb.size,(hb.cell (p:=⟨b,off+i,none⟩) hlt).trans hc⟩
set_option maxHeartbeats 400000 in
theorem zF9 (p h:Nat) (hp:p<2 ^ 36) (hh:h<2 ^ 36) (b1:Nat) (w:World) (h1:w.cell? ⟨b1,0,none⟩=some (.int .u64 h)) :
 Calls Tryz.prog 250 #[.int .u64 p,.pointer (some ⟨b1,0,none⟩)] w fun e w'=>e=.returned (.bool (zCy h p))∧w'=w:=by
 have hb:=bits_and_u64_nat p h (by omega) (by omega)
 have HN:Hid (zCy h p=(((p &&& h:Nat):Int)==0)):=by
  show _=_
  unfold zCy
  by_cases h0:p &&& h=0
  ·simp[h0]
  ·have:(((p &&& h:Nat):Int)==0)=false:=by simpa using h0
   rw[this];simpa using h0
 rw[HN.out]
 obtain⟨q,hq⟩:∃q,p &&& h=q:=⟨_,rfl⟩
 rw[hq] at hb ⊢
 clear hq hp hh
 go_enter Tryz.func250,Tryz.ntmps250
 go_wp2
 go_ret
 exact⟨rfl,rfl⟩
set_option maxHeartbeats 400000 in
set_option maxRecDepth 100000 in
theorem zGA (h:Nat) (hh:h<2 ^ 36) (b1:Nat) (l:List Nat) (v:Value) (w:World) (hv:PArg w v l) (h1:w.cell? ⟨b1,0,none⟩=some (.int .u64 h)) :
 Calls Tryz.prog 267 #[v,.func (.func 250) #[] #[.pointer (some ⟨b1,0,none⟩)]] w fun e w'=>(∃z:Int,e=.returned (.int .i64 z)∧(decide (0≤z))=l.any (zCy h))∧w'=w:=by
 obtain⟨a,c,rfl,hm,hr⟩:=hv
 have HV:Hid (∀(i z:Nat),l[i]? = some z→z<2 ^ 36∧∃b off,a=some ⟨b,off,none⟩∧b<w.heap.size∧w.cell? ⟨b,off+i,none⟩=some (.int .u64 z)):=hr
 have HH:Hid (h<2 ^ 36):=hh
 unfold maxLen at hm
 obtain⟨hm1,hm⟩:=hm
 clear hr hh
 go_enter Tryz.func267,Tryz.ntmps267
 go_wp2_with fail
 go_loopw [8] (fun i wr=>∃k:Nat,k≤l.length∧i=.int .i64 k∧Hid ((l.take k).any (zCy h)=false)∧wr=w) (fun i _=>l.length - (intOf i).toNat)
 case atStart=>exact⟨0,by omega,rfl,rfl,rfl⟩
 case round =>
  obtain⟨k,hk,rfl,hall,rfl⟩:=hrel
  by_cases hlt:k<l.length
  ·obtain⟨z,hz⟩:∃z,l[k]? = some z:=⟨l[k],by simp[hlt]⟩
   obtain⟨hz36,b,off,ha,hb,hc⟩:=HV.out k z hz
   subst ha
   have HZ:Hid (l[k]? = some z):=hz
   have HZ36:Hid (z<2 ^ 36):=hz36
   clear hz hz36
   cases hq:zCy h z
   ·have HN:Hid ((l.take (k+1)).any (zCy h)=false):=by show _=_;rw[List.take_add_one,HZ.out,List.any_append,hall.out];simp[hq]
    have HC:=zF9 z h HZ36.out HH.out b1 wr h1
    rw[hq] at HC
    have HC2:Hid (Calls Tryz.prog 250 #[.int .u64 z,.pointer (some ⟨b1,0,none⟩)] wr fun e w'=>e=.returned (.bool false)∧w'=wr):=HC
    clear HC hq hall
    go_wp2_with fail
    refine HC2.out.mono ?_
    rintro e w ⟨rfl,rfl⟩
    go_wp2
    go_roundw
    case rel=>exact⟨k+1,by omega,by go_num,HN,trivial⟩
    case measure=>simp[intOf];omega
   ·have HN:Hid (l.any (zCy h)=true):=List.any_eq_true.2 ⟨z,List.mem_of_getElem? HZ.out,hq⟩
    have HC:=zF9 z h HZ36.out HH.out b1 wr h1
    rw[hq] at HC
    have HC2:Hid (Calls Tryz.prog 250 #[.int .u64 z,.pointer (some ⟨b1,0,none⟩)] wr fun e w'=>e=.returned (.bool true)∧w'=wr):=HC
    clear HC hq hall
    go_wp2_with fail
    refine HC2.out.mono ?_
    rintro e w ⟨rfl,rfl⟩
    go_wp2
    go_ret
    exact⟨⟨k,rfl,by rw[HN.out];simp⟩,rfl⟩
  ·have hke:k=l.length:=by omega
   have HN:Hid (l.any (zCy h)=false):=by have:=hall.out;rw[hke,List.take_length] at this;exact this
   clear hall hke
   go_wp2
   go_ret
   exact⟨⟨-1,rfl,by rw[HN.out];simp⟩,rfl⟩
set_option maxHeartbeats 400000 in
theorem zEe (h:Nat) (hh:h<2 ^ 36) (b1:Nat) (l:List Nat) (v:Value) (w:World) (hv:PArg w v l) (h1:w.cell? ⟨b1,0,none⟩=some (.int .u64 h)) :
 Calls Tryz.prog 252 #[v,.func (.func 250) #[] #[.pointer (some ⟨b1,0,none⟩)]] w fun e w'=>e=.returned (.bool (l.any (zCy h)))∧w'=w:=by
 have HV:Hid (PArg w v l):=hv
 have HH:Hid (h<2 ^ 36):=hh
 obtain⟨a,c,rfl,_,_⟩:=hv
 clear hh
 go_enter Tryz.func252,Tryz.ntmps252
 go_wp2_with fail
 refine (zGA h HH.out b1 l _ _ HV.out h1).mono ?_
 rintro e w ⟨⟨z,rfl,hz⟩,rfl⟩
 have HZ:Hid (decide (0≤z)=l.any (zCy h)):=hz
 clear hz
 go_wp2
 go_ret
 exact⟨zAB HZ.out,rfl⟩
theorem zGB {w:World} {base:Nat} {v:Value} {r:List Int} (h:w.ownsRow base 3 1 v r.length (r.map (Value.int .i64))):IArg w v r:=by
 rcases h.2 with ⟨rfl,hn⟩ | ⟨g,cap,cur,rfl,hg,hh,hc1,hc2,_,_⟩
 ·have:r=[]:=List.eq_nil_of_length_eq_zero hn
  subst this
  exact⟨none,0,rfl,⟨Nat.le_refl _,Nat.zero_le _⟩,fun i z hz=>by simp at hz⟩
 ·refine⟨_,cap,rfl,⟨hc1,hc2⟩,fun i z hz=>⟨g,0,rfl,(Array.getElem?_eq_some_iff.1 hh).1,?_⟩⟩
  have hi:i<r.length:=(List.getElem?_eq_some_iff.1 hz).1
  rw[Nat.zero_add,h.cellAt i (by omega),List.getElem?_map,hz];rfl
theorem zKT {w:World} {base base':Nat} {e:TypeId} {size:Nat} {v:Value} {n:Nat} {xs:List Value} (h:w.ownsRow base e size v n xs) (hb:base'≤base):w.ownsRow base' e size v n xs:=by
 refine⟨h.1,?_⟩
 rcases h.2 with hn | ⟨g,cap,cur,hv,hg,r⟩
 ·exact .inl hn
 ·exact .inr ⟨g,cap,cur,hv,Nat.le_trans hb hg,r⟩
theorem zCK {w w':World} {base:Nat} {e:TypeId} {size:Nat} {v:Value} {n:Nat} {xs:List Value} (h:w.ownsRow base e size v n xs) (hk:∀g,v.ownBlock=some g→w'.heap[g]? = w.heap[g]?):w'.ownsRow base e size v n xs:=by
 refine⟨h.1,?_⟩
 rcases h.2 with hn | ⟨g,cap,cur,hv,hg,hh,r⟩
 ·exact .inl hn
 ·exact .inr ⟨g,cap,cur,hv,hg,by rw[hk g (by rw[hv];rfl)];exact hh,r⟩
def zG2 (w:World) (base B n:Nat) (cells:List Value) (M:Sto) (k:Nat):Prop :=
 w.ownsRow base 26 1 (.slice (some ⟨B,0,none⟩) n n) n cells ∧
 (∀i r,i<k→M[i]? = some r→∃x,cells[i]? = some x∧w.ownsRow (B+1) 3 1 x r.length (r.map (Value.int .i64))) ∧
 (∀i,k≤i→i<n→cells[i]? = some (.slice none 0 0))
def zCa (w:World) (base B n:Nat) (cells:List Value) (M:Sto) (k K:Nat) (acc:List Int):Prop :=
 w.ownsRow base 26 1 (.slice (some ⟨B,0,none⟩) n n) n cells ∧
 (∀i r,i<k→M[i]? = some r→∃x,cells[i]? = some x∧w.ownsRow (B+1) 3 1 x r.length (r.map (Value.int .i64))∧∀g,x.ownBlock=some g→g<K) ∧
 (∃x,cells[k]? = some x∧w.ownsRow K 3 1 x acc.length (acc.map (Value.int .i64))) ∧
 (∀i,k<i→i<n→cells[i]? = some (.slice none 0 0))∧B<K∧K≤w.heap.size∧k<n
theorem zCa.done {w:World} {base B n:Nat} {cells:List Value} {M:Sto} {k K:Nat} {acc:List Int} (h:zCa w base B n cells M k K acc) (hM:M[k]? = some acc):zG2 w base B n cells M (k+1):=by
 obtain⟨h1,h2,⟨x,hx,ho⟩,h4,h5,_,_⟩:=h
 refine⟨h1,fun i r hi hr=>?_,fun i hi hn=>h4 i (by omega) hn⟩
 by_cases hik:i<k
 ·obtain⟨y,hy,hoy,_⟩:=h2 i r hik hr
  exact⟨y,hy,hoy⟩
 ·obtain rfl:i=k:=by omega
  rw[hM] at hr;cases hr
  exact⟨x,hx,zKT ho (by omega)⟩
theorem zCa.kept {w w':World} {base B n:Nat} {cells:List Value} {M:Sto} {k K:Nat} {acc:List Int} (h:zCa w base B n cells M k K acc) (hb:Below w.heap.size w w'):zCa w' base B n cells M k K acc:=by
 obtain⟨h1,h2,⟨x,hx,ho⟩,h4,h5,h6,h7⟩:=h
 refine⟨zAD h1 hb,fun i r hi hr=>?_,⟨x,hx,zAD ho hb⟩,h4,h5,Nat.le_trans h6 hb.size,h7⟩
 obtain⟨y,hy,hoy,hg⟩:=h2 i r hi hr
 exact⟨y,hy,zAD hoy hb,hg⟩
theorem zG2.kept {w w':World} {base B n:Nat} {cells:List Value} {M:Sto} {k:Nat} (h:zG2 w base B n cells M k) (hb:Below w.heap.size w w'):zG2 w' base B n cells M k:=by
 obtain⟨h1,h2,h3⟩:=h
 refine⟨zAD h1 hb,fun i r hi hr=>?_,h3⟩
 obtain⟨y,hy,hoy⟩:=h2 i r hi hr
 exact⟨y,hy,zAD hoy hb⟩
theorem zCa.push {w w3:World} {base B n:Nat} {cells:List Value} {M:Sto} {k K:Nat} {acc:List Int} {x v3:Value} {z:Int} (h:zCa w base B n cells M k K acc) (hx:cells[k]? = some x)
 (ho:w3.ownsRow K 3 1 v3 (acc++[z]).length ((acc++[z]).map (Value.int .i64))) (hg:w.grownBy w3 x.ownBlock) :
 zCa (w3.setCell ⟨B,k,none⟩ v3) base B n (cells.set k v3) M k K (acc++[z]):=by
 obtain⟨h1,h2,⟨y,hy,hoy⟩,h4,h5,h6,h7⟩:=h
 rw[hx] at hy;cases hy
 have hxK:∀g,x.ownBlock=some g→K≤g:=fun g hg=>(hoy.lt g hg).1
 have hB:B<w.heap.size:=(h1.lt B rfl).2
 have hne:some B≠x.ownBlock:=fun h=>by have:=hxK B h.symm;omega
 have h13:w3.ownsRow base 26 1 (.slice (some ⟨B,0,none⟩) n n) n cells:=h1.kept hg (Or.inr hne)
 have hlen:cells.length=n:=by have:=h1.1;omega
 refine⟨(h13.stored k v3).1,fun i r hi hr=>?_,⟨v3,by rw[List.getElem?_set_self (by omega)],?_⟩,fun i hi hn=>by rw[List.getElem?_set_ne (by omega)];exact h4 i hi hn,h5,?_,h7⟩
 ·obtain⟨y,hy,hoy2,hgy⟩:=h2 i r hi hr
  refine⟨y,by rw[List.getElem?_set_ne (by omega)];exact hy,?_,hgy⟩
  have h23:w3.ownsRow (B+1) 3 1 y r.length (r.map (Value.int .i64)):=by
   refine hoy2.kept hg ?_
   cases hyb:y.ownBlock with
   | none=>exact Or.inl rfl
   | some g =>
     refine Or.inr fun he=>?_
     have:=hxK g he.symm
     have:=hgy g hyb
     omega
  refine zCK h23 fun g hg2=>Below.heap_setCell _ _ _ _ ?_
  have:=(hoy2.lt g hg2).1
  simp only;omega
 ·refine zCK ho fun g hg2=>Below.heap_setCell _ _ _ _ ?_
  have:=(ho.lt g hg2).1
  simp only;omega
 ·have:=hg.size;simp;omega
theorem zG2.rarg {w:World} {base B n:Nat} {cells:List Value} {M:Sto} (h:zG2 w base B n cells M n) (hM:M.length=n):RArg w (.slice (some ⟨B,0,none⟩) n n) M:=by
 obtain⟨h1,h2,_⟩:=h
 have hB:B<w.heap.size:=(h1.lt B rfl).2
 have hmx:n≤maxLen:=by
  rcases h1.2 with ⟨h',_⟩ | ⟨g,cap,cur,h',_,_,hc1,hc2,_⟩
  ·cases h'
  ·exact Nat.le_trans hc1 hc2
 refine⟨_,n,by rw[hM],⟨by omega,hmx⟩,fun i r hr=>?_⟩
 have hi:i<n:=by rw[←hM];exact (List.getElem?_eq_some_iff.1 hr).1
 obtain⟨x,hx,ho⟩:=h2 i r hi hr
 exact⟨B,0,x,rfl,hB,by rw[Nat.zero_add,h1.cellAt i (by omega)];exact hx,zGB ho⟩
def Old (N:Nat) (w:World) (P:World→Prop):Prop:=∃w0:World,w0.heap.size≤N∧P w0∧Below w0.heap.size w0 w
theorem Old.below {N:Nat} {w w':World} {P:World→Prop} (h:Old N w P) (hb:Below N w w'):Old N w' P:=by
 obtain⟨w0,h1,h2,h3⟩:=h
 exact⟨w0,h1,h2,h3.trans (hb.mono h1)⟩
theorem zIF (vals:List Int) (k:Nat) (x:Int) (h:∀y∈vals,-50≤y∧y≤50) (hx:-50≤x∧x≤50):∀y∈vals.set k x,-50≤y∧y≤50:=by
 intro y hy
 rcases List.mem_or_eq_of_mem_set hy with h1 | h1
 ·exact h y h1
 ·rw[h1];exact hx
def zFh (N bs bm bc:Nat):Array Value:=#[.pointer (some ⟨bs,0,none⟩),.pointer (some ⟨bm,0,none⟩),.pointer (some ⟨bc,0,none⟩),.pointer (some ⟨N+1,0,none⟩),.pointer (some ⟨N+2,0,none⟩),.pointer (some ⟨N+3,0,none⟩)]
def u64s (l:List Nat):List Value:=l.map fun (z:Nat)=>Value.int .u64 (z:Int)
def PtsS (N bs bm bc:Nat) (m:Mod) (con:Nat) (vs cs sv:Value) (scope vals:List Int) (out:List Nat) (w:World):Prop :=
 N+4≤w.heap.size ∧
 Old N w (fun u=>MArg u vs cs m∧IArg u sv scope∧u.cell? ⟨bs,0,none⟩=some sv∧u.cell? ⟨bm,0,none⟩=some vs∧u.cell? ⟨bm,1,none⟩=some cs∧u.cell? ⟨bc,0,none⟩=some (.int .i64 con)) ∧
 w.ownsRow N 3 1 (.slice (some ⟨N,0,none⟩) vals.length vals.length) vals.length (vals.map (Value.int .i64)) ∧
 w.cell? ⟨N+1,0,none⟩=some (.slice (some ⟨N,0,none⟩) vals.length vals.length) ∧
 w.cell? ⟨N+3,0,none⟩=some (.func (.func 218) #[] (zFh N bs bm bc)) ∧
 ∃ov,w.ownsRow N 193 1 (.slice (some ⟨N+2,0,none⟩) 1 1) 1 [ov]∧w.ownsRow (N+4) 152 1 ov out.length (u64s out)
section
variable {N bs bm bc con:Nat} {m:Mod} {vs cs sv:Value} {scope vals:List Int} {out:List Nat} {w w':World}
theorem PtsS.below (h:PtsS N bs bm bc m con vs cs sv scope vals out w) (hb:Below w.heap.size w w'):PtsS N bs bm bc m con vs cs sv scope vals out w':=by
 obtain⟨h1,h2,h3,h4,h5,ov,h6,h7⟩:=h
 exact⟨Nat.le_trans h1 hb.size,h2.below (hb.mono (by omega)),zAD h3 hb,(hb.cell (p:=⟨N+1,0,none⟩) (by simp only;omega)).trans h4,(hb.cell (p:=⟨N+3,0,none⟩) (by simp only;omega)).trans h5,ov,zAD h6 hb,zAD h7 hb⟩
theorem PtsS.old (h:PtsS N bs bm bc m con vs cs sv scope vals out w):MArg w vs cs m∧IArg w sv scope∧w.cell? ⟨bs,0,none⟩=some sv∧w.cell? ⟨bm,0,none⟩=some vs∧w.cell? ⟨bm,1,none⟩=some cs∧w.cell? ⟨bc,0,none⟩=some (.int .i64 con) ∧
 (bs<w.heap.size∧bm<w.heap.size∧bc<w.heap.size):=by
 obtain⟨_,⟨w0,g0,⟨g1,g2,g3,g4,g5,g6⟩,gb⟩,_⟩:=h
 have l1:=World.block_lt_of_cell? w0 _ g3
 have l2:=World.block_lt_of_cell? w0 _ g4
 have l3:=World.block_lt_of_cell? w0 _ g6
 have hs:=gb.size
 simp only at l1 l2 l3
 exact⟨MArg.below gb g1,IArg.below gb g2,(gb.cell (p:=⟨bs,0,none⟩) l1).trans g3,(gb.cell (p:=⟨bm,0,none⟩) l2).trans g4,(gb.cell (p:=⟨bm,1,none⟩) l2).trans g5,(gb.cell (p:=⟨bc,0,none⟩) l3).trans g6,by omega,by omega,by omega⟩
theorem PtsS.vals_arg (h:PtsS N bs bm bc m con vs cs sv scope vals out w):IArg w (.slice (some ⟨N,0,none⟩) vals.length vals.length) vals:=zCf h.2.2.1
theorem PtsS.set (h:PtsS N bs bm bc m con vs cs sv scope vals out w) (k:Nat) (x:Int) :
 PtsS N bs bm bc m con vs cs sv scope (vals.set k x) out (w.setCell ⟨N,k,none⟩ (.int .i64 x))∧Below N w (w.setCell ⟨N,k,none⟩ (.int .i64 x)):=by
 obtain⟨h1,h2,h3,h4,h5,ov,h6,h7⟩:=h
 have hb:Below N w (w.setCell ⟨N,k,none⟩ (.int .i64 x)):=(Below.refl _ _).setCell (show N≤N from Nat.le_refl N) _
 have hk:∀g,g≠N→(w.setCell ⟨N,k,none⟩ (.int .i64 x)).heap[g]? = w.heap[g]? := fun g hg=>Below.heap_setCell _ _ _ _ (fun h=>hg h)
 refine⟨⟨by have:=hb.size;omega,h2.below hb,?_,?_,(World.cell?_of_block (hk _ (by simp only;omega))).trans h5,ov,zCK h6 fun g hg=>?_,zCK h7 fun g hg=>?_⟩,hb⟩
 ·rw[List.length_set,List.map_set]
  exact (h3.stored k (.int .i64 x)).1
 ·rw[List.length_set]
  exact (World.cell?_of_block (hk _ (by simp only;omega))).trans h4
 ·have hgn:g=N+2:=by injection hg with e;exact e.symm
  exact hk g (by omega)
 ·have:=(h7.lt g hg).1
  exact hk _ (by omega)
theorem PtsS.put {z:Nat} {v3 ov:Value} {w2:World} (h:PtsS N bs bm bc m con vs cs sv scope vals out w) (ho:w.ownsRow N 193 1 (.slice (some ⟨N+2,0,none⟩) 1 1) 1 [ov]) (hr:w.ownsRow (N+4) 152 1 ov out.length (u64s out))
 (hw:w2.ownsRow (N+4) 152 1 v3 (out++[z]).length (u64s (out++[z]))) (hg:w.grownBy w2 ov.ownBlock) :
 PtsS N bs bm bc m con vs cs sv scope vals (out++[z]) (w2.setCell ⟨N+2,0,none⟩ v3)∧Below N w (w2.setCell ⟨N+2,0,none⟩ v3):=by
 obtain⟨h1,h2,h3,h4,h5,_⟩:=h
 have hov:∀g,ov.ownBlock=some g→N+4≤g:=fun g hg=>(hr.lt g hg).1
 have hb1:Below N w w2:=(Below.refl _ _).grown hg (by omega) (fun k hk=>by have:=hov k hk;omega)
 have hb:Below N w (w2.setCell ⟨N+2,0,none⟩ v3):=hb1.setCell (by simp only;omega) _
 have hk:∀g,g<N+4→g≠N+2→(w2.setCell ⟨N+2,0,none⟩ v3).heap[g]? = w.heap[g]? := fun g hgl hgn =>
  (Below.heap_setCell _ _ _ _ (fun h=>hgn h)).trans (hg.block g (by omega) (fun he=>by have:=hov g he.symm;omega))
 refine⟨⟨by have:=hg.size;simp;omega,h2.below hb,zCK h3 fun g hgg=>?_,(World.cell?_of_block (hk _ (by simp only;omega) (by simp only;omega))).trans h4,(World.cell?_of_block (hk _ (by simp only;omega) (by simp only;omega))).trans h5,v3,?_,zCK hw fun g hgg=>?_⟩,hb⟩
 ·have hgn:g=N:=by injection hgg with e;exact e.symm
  exact hk g (by omega) (by omega)
 ·have h6:w2.ownsRow N 193 1 (.slice (some ⟨N+2,0,none⟩) 1 1) 1 [ov]:=ho.kept hg (Or.inr fun he=>by have:=hov (N+2) he.symm;omega)
  exact (h6.stored 0 v3).1
 ·have:=(hw.lt g hgg).1
  exact Below.heap_setCell _ _ _ _ (fun h=>by simp only at h;omega)
end
theorem zEf (vs:List MVar) (c:MCon):∀(r a b:List Int) (q:Nat),zBM r a b→zAS vs c r a q=zAS vs c r b q
 | [],a,b,q,h=>by
   unfold zAS
   rw[show a=b from List.ext_getElem? fun w=>h.2 w (fun v hv=>by cases hv)]
 | v :: r,a,b,q,h=>by
   unfold zAS
   congr 1
   funext x
   exact zEf vs c r _ _ _ (h.set x)
theorem zDp (vs:List MVar) (hv:zAW vs) (c:MCon):∀(r vals:List Int) (q:Nat),(zAS vs c r vals q).length≤6 ^ r.length
 | [],vals,q=>by
   unfold zAS
   split <;> simp
 | v :: r,vals,q=>by
   unfold zAS
   have hs:(zEt (zAE vs v.toNat).lo (zAE vs v.toNat).hi).length≤6:=by
    have:=hv.2 v.toNat
    unfold zBH at this
    unfold zEt
    simp only[List.length_map,List.length_range]
    exact this
   have key:∀l:List Int,(l.flatMap fun x=>zAS vs c r (vals.set v.toNat x) (q ||| 2 ^ (6 * v.toNat+(x - (zAE vs v.toNat).lo).toNat))).length≤l.length * 6 ^ r.length:=by
    intro l
    induction l with
    | nil=>simp
    | cons a l ih =>
      rw[List.flatMap_cons,List.length_append,List.length_cons]
      have:=zDp vs hv c r (vals.set v.toNat a) (q ||| 2 ^ (6 * v.toNat+(a - (zAE vs v.toNat).lo).toNat))
      rw[Nat.add_mul]
      omega
   have h1:=key (zEt (zAE vs v.toNat).lo (zAE vs v.toNat).hi)
   have h2:(zEt (zAE vs v.toNat).lo (zAE vs v.toNat).hi).length * 6 ^ r.length≤6 * 6 ^ r.length:=Nat.mul_le_mul_right _ hs
   rw[List.length_cons,Nat.pow_succ]
   omega
def ptsN (vs:List MVar) (c:MCon) (v:Nat) (r vals:List Int) (a:Nat) (lo:Int) (j:Nat):List Nat :=
 (List.range j).flatMap fun (i:Nat)=>zAS vs c r (vals.set v (lo+(i:Int))) (a ||| 2 ^ (6 * v+i))
theorem zGC (vs:List MVar) (c:MCon) (v:Nat) (r vals:List Int) (a:Nat) (lo:Int) (j:Nat):ptsN vs c v r vals a lo (j+1)=ptsN vs c v r vals a lo j++zAS vs c r (vals.set v (lo+(j:Int))) (a ||| 2 ^ (6 * v+j)):=by
 unfold ptsN;rw[List.range_succ,List.flatMap_append];simp
theorem zKU (vs:List MVar) (c:MCon) (v:Nat) (r vals:List Int) (a:Nat):ptsN vs c v r vals a (zAE vs v).lo (zBH (zAE vs v))=zAS vs c ((v:Int) :: r) vals a:=by
 conv=>rhs;unfold zAS
 unfold ptsN zEt zBH
 rw[List.flatMap_map,Int.toNat_natCast]
 congr 1
 funext i
 rw[show ((zAE vs v).lo+(i:Int) - (zAE vs v).lo).toNat=i by omega]
theorem zFI (vs:List MVar) (hv:zAW vs) (c:MCon) (v:Nat) (r vals:List Int) (a:Nat) (lo:Int):∀j,(ptsN vs c v r vals a lo j).length≤j * 6 ^ r.length
 | 0=>by simp[ptsN]
 | j+1=>by
   rw[zGC,List.length_append,Nat.add_mul]
   have h1:=zFI vs hv c v r vals a lo j
   have h2:=zDp vs hv c r (vals.set v (lo+(j:Int))) (a ||| 2 ^ (6 * v+j))
   omega
theorem zGD (vs:List MVar) (hv:zAH vs) (c:MCon):∀(r vals:List Int) (a:Nat),(∀v∈r,0≤v∧v<(vs.length:Int))→a<2 ^ 36→∀p∈zAS vs c r vals a,p<2 ^ 36
 | [],vals,a,_,ha,p,hp=>by
   unfold zAS at hp
   split at hp
   ·rw[List.mem_singleton.1 hp];exact ha
   ·cases hp
 | v :: r,vals,a,hr,ha,p,hp=>by
   unfold zAS at hp
   obtain⟨x,hx,hp⟩:=List.mem_flatMap.1 hp
   obtain⟨h1,h2⟩:=(zCU _ _ _).1 hx
   have hvr:=hr v (List.mem_cons_self ..)
   refine zGD vs hv c r _ _ (fun y hy=>hr y (List.mem_cons_of_mem _ hy)) (zEc ha (zFg vs hv v.toNat _ (by omega) ?_)) p hp
   unfold zBH
   omega
end Go.Proofs.YtdjbejlbmaiocafGreatDoor
