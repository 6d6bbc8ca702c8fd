/- What the proof leans on, part 24. -/
import Derived.Test.YtdjbejlbmaiocafGreatDoorPartAr
import Derived.Test.YtdjbejlbmaiocafGreatDoorPartAt
import Derived.Test.YtdjbejlbmaiocafGreatDoorPartAw
import Derived.Test.YtdjbejlbmaiocafGreatDoorPartAn
namespace Go.Proofs.YtdjbejlbmaiocafGreatDoor
open Go.RowKit
structure KV where
 vv:Value
 vc:Value
 vr:Value
 vl:Value
 c:MCon
def kvC (x:KV):List Value:=[.int .i64 x.c.kind,x.vv,x.vc,.int .i64 x.c.n,x.vr,x.vl]
def KOk (w:World) (x:KV):Prop:=KArg w x.vv x.vc x.vr x.vl x.c
theorem zLj:∀(r:List KV) (i j:Nat) (x:KV),r[i]? = some x→j<6→(r.flatMap kvC)[i * 6+j]? = (kvC x)[j]?
 | [],i,j,x,h,_=>by simp at h
 | y :: r,0,j,x,h,hj=>by
   simp at h;subst h
   rw[List.flatMap_cons,List.getElem?_append_left (by simp[kvC];omega)]
   simp
 | y :: r,i+1,j,x,h,hj=>by
   rw[List.flatMap_cons,List.getElem?_append_right (by simp[kvC];omega)]
   have:(i+1) * 6+j - (kvC y).length=i * 6+j:=by simp[kvC];omega
   rw[this]
   exact zLj r i j x (by simpa using h) hj
theorem zKW {w:World} {v:Value} {l:List MCon} (h:CArg w v l):∃kvs:List KV,kvs.map (·.c)=l∧(∀x∈kvs,KOk w x)∧∃a c,v=.slice a kvs.length c ∧
 ∀(i:Nat) (x:KV),kvs[i]? = some x→∃b off,a=some ⟨b,off,none⟩∧b<w.heap.size∧∀(j:Nat) (u:Value),(kvC x)[j]? = some u→w.cell? ⟨b,off+i * 6+j,none⟩=some u:=by
 obtain⟨a,c,rfl,_,hr⟩:=h
 have key:∀i:Fin l.length,∃x:KV,x.c=l[i]∧KOk w x∧∃b off,a=some ⟨b,off,none⟩∧b<w.heap.size∧∀(j:Nat) (u:Value),(kvC x)[j]? = some u→w.cell? ⟨b,off+i.1 * 6+j,none⟩=some u:=by
  intro i
  obtain⟨b,off,vv,vc,vr,vl,ha,hb,c0,c1,c2,c3,c4,c5,hk⟩:=hr i.1 l[i] (by simp)
  refine⟨⟨vv,vc,vr,vl,l[i]⟩,rfl,hk,b,off,ha,hb,fun j u hu=>?_⟩
  match j,hu with
  | 0,hu=>simp[kvC] at hu;subst hu;exact c0
  | 1,hu=>simp[kvC] at hu;subst hu;exact c1
  | 2,hu=>simp[kvC] at hu;subst hu;exact c2
  | 3,hu=>simp[kvC] at hu;subst hu;exact c3
  | 4,hu=>simp[kvC] at hu;subst hu;exact c4
  | 5,hu=>simp[kvC] at hu;subst hu;exact c5
 refine⟨List.ofFn fun i=>(key i).choose,?_,?_,a,c,by simp,?_⟩
 ·apply List.ext_getElem
  ·simp
  ·intro i h1 h2
   simp
   exact (key ⟨i,h2⟩).choose_spec.1
 ·intro x hx
  obtain⟨i,hi⟩:=List.mem_ofFn.1 hx
  rw[←hi]
  exact (key i).choose_spec.2.1
 ·intro i x hx
  obtain⟨hi,he⟩:=List.getElem?_eq_some_iff.1 hx
  have hi':i<l.length:=by simpa using hi
  rw[List.getElem_ofFn] at he
  subst he
  exact (key ⟨i,hi'⟩).choose_spec.2.2
def zBr (w:World) (B n:Nat) (cells:List Value) (M:List (List KV)):Prop :=
 w.ownsRow B 23 1 (.slice (some ⟨B,0,none⟩) n n) n cells∧M.length=n ∧
 (∀(i:Nat) (r:List KV),M[i]? = some r→∃x,cells[i]? = some x∧w.ownsRow (B+1) 100 6 x r.length (r.flatMap kvC)) ∧
 (∀(i j:Nat) (x y:Value) (g:Nat),i≠j→cells[i]? = some x→cells[j]? = some y→x.ownBlock=some g→y.ownBlock≠some g)
theorem zBr.kept {w w':World} {B n:Nat} {cells:List Value} {M:List (List KV)} (h:zBr w B n cells M) (hb:Below w.heap.size w w'):zBr w' B n cells M:=by
 obtain⟨h1,h0,h2,h3⟩:=h
 refine⟨zAD h1 hb,h0,fun i r hr=>?_,h3⟩
 obtain⟨y,hy,hoy⟩:=h2 i r hr
 exact⟨y,hy,zAD hoy hb⟩
theorem zBr.push {w w3:World} {B n:Nat} {cells:List Value} {M:List (List KV)} {k:Nat} {r:List KV} {x v3:Value} {z:KV} (h:zBr w B n cells M) (hM:M[k]? = some r) (hx:cells[k]? = some x)
 (ho:w3.ownsRow (B+1) 100 6 v3 (r++[z]).length ((r++[z]).flatMap kvC)) (hg:w.grownBy w3 x.ownBlock) (hat:v3.ownBlock=x.ownBlock∨v3.ownBlock=some w.heap.size) :
 zBr (w3.setCell ⟨B,k,none⟩ v3) B n (cells.set k v3) (M.set k (r++[z])):=by
 obtain⟨h1,h0,h2,h4⟩:=h
 obtain⟨y,hy,hoy⟩:=h2 k r hM
 rw[hx] at hy;cases hy
 have hxK:∀g,x.ownBlock=some g→B+1≤g:=fun g hg=>(hoy.lt g hg).1
 have hB:B<w.heap.size:=(h1.lt B rfl).2
 have hne:some B≠x.ownBlock:=fun h=>by have:=hxK B h.symm;omega
 have h13:w3.ownsRow B 23 1 (.slice (some ⟨B,0,none⟩) n n) n cells:=h1.kept hg (Or.inr hne)
 have hlen:cells.length=n:=by have:=h1.1;omega
 have hkn:k<n:=by rw[←h0];exact (List.getElem?_eq_some_iff.1 hM).1
 have hold:∀(j:Nat) (y:Value),j≠k→cells[j]? = some y→∀g,y.ownBlock=some g→g<w.heap.size:=fun j y hj hy g hg=>by
  have hjn:j<n:=by rw[←hlen];exact (List.getElem?_eq_some_iff.1 hy).1
  obtain⟨y',hy',ho'⟩:=h2 j M[j] (by rw[List.getElem?_eq_getElem (by omega)])
  rw[hy] at hy';cases hy'
  exact (ho'.lt g hg).2
 refine⟨(h13.stored k v3).1,by simpa using h0,fun i q hq=>?_,fun i j y u g hij hyi hyj hg1=>?_⟩
 ·by_cases hik:i=k
  ·subst hik
   rw[List.getElem?_set_self (by omega)] at hq
   cases hq
   refine⟨v3,by rw[List.getElem?_set_self (by omega)],zCK ho fun g hg2=>Below.heap_setCell _ _ _ _ ?_⟩
   have:=(ho.lt g hg2).1
   simp only;omega
  ·rw[List.getElem?_set_ne (by omega)] at hq
   obtain⟨y,hy,hoy2⟩:=h2 i q hq
   refine⟨y,by rw[List.getElem?_set_ne (by omega)];exact hy,?_⟩
   have h23:w3.ownsRow (B+1) 100 6 y q.length (q.flatMap kvC):=by
    refine hoy2.kept hg ?_
    cases hyb:y.ownBlock with
    | none=>exact Or.inl rfl
    | some g=>exact Or.inr fun he=>h4 i k y x g hik hy hx hyb he.symm
   refine zCK h23 fun g hg2=>Below.heap_setCell _ _ _ _ ?_
   have:=(hoy2.lt g hg2).1
   simp only;omega
 ·by_cases hik:i=k
  ·subst hik
   rw[List.getElem?_set_self (by omega)] at hyi
   cases hyi
   rw[List.getElem?_set_ne (by omega)] at hyj
   rcases hat with hat | hat
   ·rw[hat] at hg1
    exact h4 _ j x u g hij hx hyj hg1
   ·rw[hat] at hg1
    intro hu
    have:=hold j u (Ne.symm hij) hyj g hu
    have:=Option.some.inj hg1
    omega
  ·rw[List.getElem?_set_ne (by omega)] at hyi
   by_cases hjk:j=k
   ·subst hjk
    rw[List.getElem?_set_self (by omega)] at hyj
    cases hyj
    rcases hat with hat | hat
    ·rw[hat]
     exact h4 i _ y x g hij hyi hx hg1
    ·rw[hat]
     intro hu
     have:=hold i y hij hyi g hg1
     have:=Option.some.inj hu
     omega
   ·rw[List.getElem?_set_ne (by omega)] at hyj
    exact h4 i j y u g hij hyi hyj hg1
theorem zBr.carg {W w:World} {B n:Nat} {cells:List Value} {M:List (List KV)} (h:zBr w B n cells M) (hb:Below W.heap.size W w) (hk:∀r∈M,∀x∈r,KOk W x) (i:Nat) (r:List KV) (hr:M[i]? = some r) :
 ∃x,w.cell? ⟨B,i,none⟩=some x∧B<w.heap.size∧CArg w x (r.map (·.c)):=by
 obtain⟨h1,h0,h2,_⟩:=h
 have hi:i<n:=by rw[←h0];exact (List.getElem?_eq_some_iff.1 hr).1
 obtain⟨x,hx,ho⟩:=h2 i r hr
 refine⟨x,by rw[h1.cellAt i (by omega)];exact hx,(h1.lt B rfl).2,?_⟩
 obtain⟨a,c,rfl⟩:=zAC ho
 rcases ho.2 with ⟨h',h''⟩ | ⟨g,cap,cur,h',hg,hh,hc1,hc2,hc3,hc4⟩
 ·injection h' with e1 e2 e3
  have hr0:r=[]:=List.eq_nil_of_length_eq_zero e2
  subst hr0 e1 e3
  exact⟨none,0,rfl,⟨Nat.le_refl _,by unfold maxLen;omega⟩,fun i t h=>by simp at h⟩
 ·cases h'
  refine⟨_,_,by rw[List.length_map],⟨by rw[List.length_map];exact hc1,hc2⟩,fun j t ht=>?_⟩
  rw[List.getElem?_map] at ht
  obtain⟨y,hy,rfl⟩:=Option.map_eq_some_iff.1 ht
  have hjl:=(List.getElem?_eq_some_iff.1 hy).1
  have hkk:=hk r (List.mem_of_getElem? hr) y (List.mem_of_getElem? hy)
  have hc:∀q,q<6→w.cell? ⟨g,0+j * 6+q,none⟩=(kvC y)[q]? := fun q hq=>by
   rw[Nat.zero_add,ho.cellAt (j * 6+q) (by omega)]
   exact zLj r j q y hy hq
  have hlt:g<w.heap.size:=(ho.lt g rfl).2
  exact⟨g,0,y.vv,y.vc,y.vr,y.vl,rfl,hlt,hc 0 (by omega),hc 1 (by omega),hc 2 (by omega),hc 3 (by omega),hc 4 (by omega),hc 5 (by omega),KArg.below hb hkk⟩
def dueF:List KV→List (List KV)→List (List KV)
 | [],s=>s
 | x :: r,s=>dueF r (s.set (zA5 x.c) (s.getD (zA5 x.c) []++[x]))
theorem zJP (ls:List KV) (k:Nat) (l:KV) (h:ls[k]? = some l) (s:List (List KV)):dueF (ls.take (k+1)) s=(dueF (ls.take k) s).set (zA5 l.c) ((dueF (ls.take k) s).getD (zA5 l.c) []++[l]):=by
 rw[List.take_add_one,h]
 generalize ls.take k=q
 induction q generalizing s with
 | nil=>simp[dueF]
 | cons x r ih=>simp only[List.cons_append];unfold dueF;exact ih _
theorem zD5:∀(l:List KV) (s:List (List KV)),(dueF l s).length=s.length
 | [],s=>rfl
 | x :: r,s=>by unfold dueF;rw[zD5 r];simp
theorem zFi:∀(l:List KV) (s:List (List KV)) (v:Nat),v<s.length→(dueF l s).getD v []=s.getD v []++l.filter (fun x=>zA5 x.c==v)
 | [],s,v,_=>by simp[dueF]
 | x :: r,s,v,hv=>by
   unfold dueF
   rw[zFi r _ v (by simpa using hv)]
   by_cases he:zA5 x.c=v
   ·subst he
    simp[List.getD_eq_getElem?_getD,hv]
   ·have hb:(zA5 x.c==v)=false:=by simpa using he
    simp[List.getD_eq_getElem?_getD,he,hb]
theorem zKX (l:List KV) (n:Nat) (r:List KV) (hr:r∈dueF l (List.replicate n [])):∀x∈r,x∈l:=by
 obtain⟨v,hv⟩:=List.mem_iff_getElem?.1 hr
 have hl:=(List.getElem?_eq_some_iff.1 hv).1
 rw[zD5] at hl
 have:=zFi l (List.replicate n []) v hl
 rw[List.getD_eq_getElem?_getD,hv] at this
 simp only[Option.getD_some] at this
 have h0:(List.replicate n ([]:List KV)).getD v []=[]:=by rw[List.getD_eq_getElem?_getD,List.getElem?_replicate];split <;> rfl
 rw[h0,List.nil_append] at this
 intro x hx
 rw[this] at hx
 exact (List.mem_filter.1 hx).1
theorem zKY (l:List KV) (n v:Nat) (hv:v<n) (r:List KV) (hr:(dueF l (List.replicate n []))[v]? = some r):r.map (·.c)=dueP (l.map (·.c)) v:=by
 have:=zFi l (List.replicate n []) v (by simpa using hv)
 rw[List.getD_eq_getElem?_getD,hr] at this
 simp only[Option.getD_some] at this
 have h0:(List.replicate n ([]:List KV)).getD v []=[]:=by rw[List.getD_eq_getElem?_getD,List.getElem?_replicate];split <;> rfl
 rw[h0,List.nil_append] at this
 rw[this]
 unfold dueP
 rw[List.filter_map]
 rfl
end Go.Proofs.YtdjbejlbmaiocafGreatDoor
