/- What the proof leans on, part 43. -/
import Derived.Test.YtdjbejlbmaiocagGreatDoorPartBp
namespace Go.Proofs.YtdjbejlbmaiocagGreatDoor
open Go
theorem zSX (xs:List ByteArray) (sep:List UInt8) (s:Nat) (h:∀x∈xs,x.size≤s):(Lib.joinTail sep (xs.map (·.data.toList))).length≤xs.length * (s+sep.length):=by
 induction xs with
 | nil=>simp[Lib.joinTail]
 | cons x r ih =>
   have h1:=ih fun y hy=>h y (List.mem_cons_of_mem _ hy)
   have h2:=h x (List.mem_cons_self ..)
   have e:Lib.joinTail sep ((x :: r).map (·.data.toList))=sep++x.data.toList++Lib.joinTail sep (r.map (·.data.toList)):=by simp[Lib.joinTail]
   rw[e,List.length_append,List.length_append,zAX,List.length_cons,Nat.succ_mul]
   omega
theorem zGa (xs:List ByteArray) (sep:List UInt8) (s:Nat) (h:∀x∈xs,x.size≤s):(zBM xs sep).length≤xs.length * (s+sep.length):=by
 unfold zBM
 cases xs with
 | nil=>simp[Lib.join_nil]
 | cons x r =>
   have h1:=zSX r sep s fun y hy=>h y (List.mem_cons_of_mem _ hy)
   have h2:=h x (List.mem_cons_self ..)
   rw[List.map_cons,Lib.join_cons,List.length_append,zAX,List.length_cons,Nat.succ_mul]
   omega
theorem zFL (xs:List ByteArray) (s k:Nat) (h:∀x∈xs,x.size≤s) (hk:xs.length≤k):(zA1 xs).size≤k * (s+2)+2:=by
 rw[←zAX,zCX]
 have h1:(zBM xs [44,32]).length≤xs.length * (s+2):=zGa xs [44,32] s h
 have h2:xs.length * (s+2)≤k * (s+2):=Nat.mul_le_mul_right _ hk
 simp only[List.length_cons,List.length_append,List.length_nil]
 omega
theorem zFM (n:Int) (h:-9999≤n∧n≤9999):(numB n).size≤5:=by
 have e:(numB n).data.toList=Lib.itoa n:=by simp[numB]
 rw[←zAX,e]
 unfold Lib.itoa
 split
 ·have:=zMz 3 n.natAbs (by omega)
  simp;omega
 ·have:=zMz 3 n.toNat (by omega)
  omega
theorem zTO (op:Int) (h:1≤op∧op≤4):(opWB op).size≤2:=by
 have:op=1∨op=2∨op=3∨op=4:=by omega
 rcases this with rfl | rfl | rfl | rfl <;> decide
theorem zSY (k:Int) (h:1≤k∧k≤10):(zEI k).size≤12:=by
 have:k=1∨k=2∨k=3∨k=4∨k=5∨k=6∨k=7∨k=8∨k=9∨k=10:=by omega
 rcases this with rfl | rfl | rfl | rfl | rfl | rfl | rfl | rfl | rfl | rfl <;> decide
def zIi (vars:List MVar):Prop:=∀x∈vars,x.name.size≤12
theorem zEK {vars:List MVar} (h:zIi vars) (i:Int):(zAQ vars i).size≤12:=by
 unfold zAQ
 rw[List.getD_eq_getElem?_getD]
 cases hv:vars[i.toNat]? with
 | none=>decide
 | some v=>exact h v (List.mem_of_getElem? hv)
theorem zLm {s:ByteArray} (h:zEj 1 s=true):s.size≤12:=by
 have:=((zDR _ _).1 h).2.2.2.2.2
 unfold zC3 at this
 rw[if_pos rfl] at this
 split at this
 ·cases this
 ·omega
theorem zEe {vars:List MVar} (h:zBs vars):zIi vars:=by
 intro v hv
 have:=h.1 v hv
 unfold zBO at this
 rw[Bool.and_eq_true] at this
 exact zLm this.1
theorem zNx {vars:List MVar} (h:zIi vars) {t:MLit} (ht:zO8 vars t):(zEb vars t).size≤21:=by
 rw[←zAX,zLj]
 have h1:=zEK h t.var
 have h2:=zTO t.op ht.2.1
 have h3:=zFM t.n (by have:=ht.2.2;omega)
 simp only[List.length_append,List.length_cons,zAX]
 omega
theorem zGb (l:List Int) (k:Nat) (hk:l.length≤k) (h:∀x∈l,-1000≤x∧x≤1000):(zDf l).size≤k * 7+2:=zFL _ 5 k (fun x hx=>by
 obtain⟨n,hn,rfl⟩:=List.mem_map.1 hx
 exact zFM n (by have:=h n hn;omega)) (by simpa using hk)
theorem zGx {vars:List MVar} (h:zIi vars) (l:List Int) (k:Nat) (hk:l.length≤k):(zA1 (l.map (zAQ vars))).size≤k * 14+2:=zFL _ 12 k (fun x hx=>by
 obtain⟨n,hn,rfl⟩:=List.mem_map.1 hx
 exact zEK h n) (by simpa using hk)
theorem zIV {c:MCon} (h:zF0 c=false):c.vars.length≤4∧c.lits.length≤4∧c.consts.length≤8∧c.rows.length≤20:=by
 simp only[zF0,Bool.or_eq_false_iff,decide_eq_false_iff_not] at h
 omega
theorem zM4 {n:Nat} {c:MCon} (hc:ConOk n c) (hk:c.kind=6):∀r∈c.rows,r.length≤4:=by
 have hf:=hc.form
 unfold zDS at hf
 rw[hk] at hf
 simp at hf
 intro r hr
 have:=hf.2.2.2 r hr
 have:=zIV hc.many
 omega
theorem zLn {n:Nat} {c:MCon} (hc:ConOk n c) (hk:c.kind=6):(zA1 (c.rows.map zDf)).size≤700:=by
 have:=zFL (c.rows.map zDf) 30 20 (fun x hx=>by
  obtain⟨r,hr,rfl⟩:=List.mem_map.1 hx
  exact zGb r 4 (zM4 hc hk r hr) (hc.rows r hr)) (by simpa using (zIV hc.many).2.2.2)
 omega
theorem zLo {vars:List MVar} (h:zIi vars) {c:MCon} (hc:ConOk vars.length c):(zA1 (c.lits.map (zEb vars))).size≤100:=by
 have:=zFL (c.lits.map (zEb vars)) 21 4 (fun x hx=>by
  obtain⟨t,ht,rfl⟩:=List.mem_map.1 hx
  exact zNx h (hc.lits t ht)) (by simpa using (zIV hc.many).2.1)
 omega
theorem zJq {vars:List MVar} (h:zIi vars) {c:MCon} (hc:ConOk vars.length c):(zAw vars c).length≤3∧∀x∈zAw vars c,x.size≤1000:=by
 have hm:=zIV hc.many
 have h1:=zGb c.consts 8 hm.2.2.1 hc.consts
 have h2:=zGx h c.vars 4 hm.1
 have h3:=zFM c.n (by have:=hc.num;omega)
 have h4:=zLo h hc
 have hn:=zEK h
 obtain⟨f5,f7,f8,f10⟩:=zEd c hc.form
 unfold zAw
 split
 ·simp only[List.forall_mem_cons,List.not_mem_nil,false_imp_iff,implies_true,and_true,List.length_cons,List.length_nil]
  omega
 split
 ·simp only[List.forall_mem_cons,List.not_mem_nil,false_imp_iff,implies_true,and_true,List.length_cons,List.length_nil]
  omega
 split
 ·simp only[List.forall_mem_cons,List.not_mem_nil,false_imp_iff,implies_true,and_true,List.length_cons,List.length_nil]
  have a1:=hn (c.vars.getD 0 0)
  have a2:=hn (c.vars.getD 1 0)
  omega
 split
 ·rename_i hk
  have:=zLn hc hk
  simp only[List.forall_mem_cons,List.not_mem_nil,false_imp_iff,implies_true,and_true,List.length_cons,List.length_nil]
  omega
 split
 ·simp only[List.forall_mem_cons,List.not_mem_nil,false_imp_iff,implies_true,and_true,List.length_cons,List.length_nil]
  have a1:=hn (c.vars.getD 0 0)
  have a2:=hn (c.vars.getD 1 0)
  have a3:=hn (c.vars.getD 2 0)
  omega
 split
 ·simp only[List.forall_mem_cons,List.not_mem_nil,false_imp_iff,implies_true,and_true,List.length_cons,List.length_nil]
  have a1:=hn (c.vars.getD 0 0)
  have a2:=zGx h (c.vars.drop 1) 4 (by simp;omega)
  omega
 split
 ·simp only[List.forall_mem_cons,List.not_mem_nil,false_imp_iff,implies_true,and_true,List.length_cons,List.length_nil]
  omega
 split
 ·rename_i hk
  have:=f10 hk
  simp only[List.forall_mem_cons,List.not_mem_nil,false_imp_iff,implies_true,and_true,List.length_cons,List.length_nil]
  have a1:=hn (c.vars.getD 0 0)
  have a2:=zNx h (hc.lits (c.lits.getD 0 ⟨0,0,0⟩) (by rw[List.getD_eq_getElem?_getD,List.getElem?_eq_getElem (show 0<c.lits.length by omega)];exact List.getElem_mem _))
  omega
 ·exact⟨by decide,fun x hx=>by cases hx⟩
theorem zFx {vars:List MVar} (h:zIi vars) {c:MCon} (hc:ConOk vars.length c):(zBM ([conW,zEI c.kind]++zAw vars c) [32]).length≤10000∧(zAz vars c).length≤10002:=by
 have h1:=zJq h hc
 have h2:=zGa ([conW,zEI c.kind]++zAw vars c) [32] 1000 (by
  simp only[List.cons_append,List.nil_append,List.forall_mem_cons]
  exact⟨by decide,by have:=zSY c.kind hc.kind;omega,h1.2⟩)
 have h3:([conW,zEI c.kind]++zAw vars c).length≤5:=by simp;omega
 have h4:([conW,zEI c.kind]++zAw vars c).length * (1000+1)≤5 * (1000+1):=Nat.mul_le_mul_right _ h3
 have h5:(zBM ([conW,zEI c.kind]++zAw vars c) [32]).length≤10000:=by
  simp only[List.length_singleton] at h2
  omega
 refine⟨h5,?_⟩
 unfold zAz zEH
 rw[List.length_append]
 simp only[List.length_cons,List.length_nil]
 omega
theorem zEf {v:MVar} (h:zPA v):(zBM [varW,v.name++colW,numB v.lo++zCF++numB v.hi] [32]).length≤10000∧(zAn v).length≤10002∧(numB v.lo).size≤5∧(numB v.hi).size≤5∧v.name.size≤12:=by
 have h1:v.name.size≤12:=by have:=h.1;unfold zBO at this;rw[Bool.and_eq_true] at this;exact zLm this.1
 have h2:=zFM v.lo (by have:=h.2;omega)
 have h3:=zFM v.hi (by have:=h.2;omega)
 have h4:=zGa [varW,v.name++colW,numB v.lo++zCF++numB v.hi] [32] 100 (by
  simp only[List.forall_mem_cons,List.not_mem_nil,false_imp_iff,implies_true,and_true,ByteArray.size_append]
  have e1:colW.size=1:=rfl
  have e2:zCF.size=2:=rfl
  have e3:varW.size=3:=rfl
  omega)
 simp only[List.length_cons,List.length_nil] at h4
 refine⟨by omega,?_,h2,h3,h1⟩
 unfold zAn zEH
 rw[List.length_append]
 simp only[List.length_cons,List.length_nil]
 omega
theorem zLp {m:Mod} (h:zIi m.vars) (hg:zEJ m):(zBM [zBo,zCZ m.goal] [32]).length≤10000∧(zBM [zBo,zCZ m.goal,zAQ m.vars m.var] [32]).length≤10000∧(zBy m).length≤10002:=by
 have h1:=zEK h m.var
 have hw:(zCZ m.goal).size≤12:=by
  have:m.goal=0∨m.goal=1∨m.goal=2:=by unfold zEJ at hg;omega
  rcases this with h | h | h <;> rw[h] <;> decide
 have hs:zBo.size=5:=rfl
 have h4:=zGa [zBo,zCZ m.goal] [32] 100 (by
  simp only[List.forall_mem_cons,List.not_mem_nil,false_imp_iff,implies_true,and_true]
  omega)
 have h5:=zGa [zBo,zCZ m.goal,zAQ m.vars m.var] [32] 100 (by
  simp only[List.forall_mem_cons,List.not_mem_nil,false_imp_iff,implies_true,and_true]
  omega)
 simp only[List.length_cons,List.length_nil] at h4 h5
 refine⟨by omega,by omega,?_⟩
 unfold zBy zEH
 split
 ·rw[List.length_append];simp only[List.length_cons,List.length_nil];omega
 ·rw[List.length_append];simp only[List.length_cons,List.length_nil];omega
end Go.Proofs.YtdjbejlbmaiocagGreatDoor
