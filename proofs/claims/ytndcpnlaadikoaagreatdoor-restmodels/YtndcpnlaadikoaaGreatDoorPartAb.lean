/- What the proof leans on, part 2. -/
import Derived.Test.YtndcpnlaadikoaaGreatDoorPartAa
import Derived.Deep.QuietTactic
import Derived.BigQuiet
set_option maxRecDepth 100000
set_option maxHeartbeats 1600000
namespace Go.Proofs.YtndcpnlaadikoaaGreatDoor
open Go.RowKit
theorem zEs (s:ByteArray) (hs:s.size≤maxLen) (w:World) :
 Calls Tryz.prog 74 #[.string s] w fun e w'=>∃v,e=.returned (.tuple #[v,.int .i64 (zAv s).2.1,.int .i64 (zAv s).2.2]) ∧
  w'.ownsRow w.heap.size 161 3 v (zAv s).1.length (zBX (zAv s).1)∧Below w.heap.size w w':=by
 by_cases h:s.size≤4000
 ·exact zQS s h w
 ·unfold maxLen at hs
  have hR:zAv s=([],0,2):=by unfold zAv;rw[if_pos (by omega)]
  rw[hR];clear hR;go_enter Tryz.func74,Tryz.ntmps74
  go_wp2
  go_ret3
  exact⟨_,rfl,World.ownsRow_nil _ _ _ _,Below.refl _ _⟩
theorem zB4 (w:World) (a b:Nat):(w.drewN a).drewN b=w.drewN (a+b):=by
 unfold World.drewN;simp only[Nat.add_assoc]
def zS7 (w:World) (b off:Nat) (ts:List Tok):Prop :=
 ∀(i:Nat) (t:Tok),ts[i]? = some t→w.cell? ⟨b,off+i * 3,none⟩=some (.int .i64 t.kind)∧w.cell? ⟨b,off+i * 3+1,none⟩=some (.int .i64 t.place)∧w.cell? ⟨b,off+i * 3+2,none⟩=some (.string t.text)
def zJ3 (t:Tok):Bool :=
 ((zAv t.text).2.2==0)&&(((zAv t.text).1.length==1)&&(((zAv t.text).1.headD ⟨0,0,ByteArray.empty⟩).kind==t.kind&&((zAv t.text).1.headD ⟨0,0,ByteArray.empty⟩).text.toList==t.text.toList))
theorem zAC {w:World} {base:Nat} {e:TypeId} {size n:Nat} {v:Value} {xs:List Value} (h:w.ownsRow base e size v n xs):∃a cap,v=.slice a n cap:=by
 rcases h.2 with ⟨rfl,rfl⟩ | ⟨g,cap,cur,rfl,_⟩
 ·exact⟨_,_,rfl⟩
 ·exact⟨_,_,rfl⟩
theorem zLO {w:World} {base:Nat} {v:Value} {ts:List Tok} (h:w.ownsRow base 161 3 v ts.length (zBX ts)) (h0:ts≠[]) :
 ∃g cap,v=.slice (some ⟨g,0,none⟩) ts.length cap∧base≤g∧g<w.heap.size∧zS7 w g 0 ts:=by
 rcases h.2 with ⟨_,hn⟩ | ⟨g,cap,cur,hv,hg,hb,hrest⟩
 ·exact absurd (List.eq_nil_of_length_eq_zero hn) h0
 ·have hlt:g<w.heap.size:=(Array.getElem?_eq_some_iff.1 hb).1
  refine⟨g,cap,hv,hg,hlt,?_⟩;have hc:=h.cells (g:=g) (by rw[hv];rfl)
  intro i t ht;have key:∀j,j<3→(zBX ts)[i * 3+j]? = (zBZ t)[j]? := by
   intro j hj;clear hc h hrest hb hv h0
   induction ts generalizing i with
   | nil=>simp at ht
   | cons a r ih =>
     cases i with
     | zero =>
       simp at ht;subst ht;simp only[zBX,List.flatMap_cons];rw[List.getElem?_append_left (by simp[zBZ];omega)];simp
     | succ i =>
       simp only[zBX,List.flatMap_cons];rw[List.getElem?_append_right (by simp[zBZ];omega)]
       have e1:(i+1) * 3+j - (zBZ a).length=i * 3+j:=by simp[zBZ];omega
       rw[e1];exact ih i (by simpa using ht)
  have hadd:∀j,(⟨g,0,none⟩:Addr).add j=⟨g,0+j,none⟩:=fun j=>by unfold Addr.add;split <;> simp_all
  refine⟨?_,?_,?_⟩
  ·have:=hc (i * 3+0) _ (by rw[key 0 (by omega)];rfl);rw[hadd] at this;exact this
  ·have:=hc (i * 3+1) _ (by rw[key 1 (by omega)];rfl);rw[hadd] at this;exact this
  ·have:=hc (i * 3+2) _ (by rw[key 2 (by omega)];rfl);rw[hadd] at this;exact this
theorem zIH (l:List UInt8) (k:Nat) (hk:k<l.length) (h:zCD l k≠0):isB l[k]=false∧((l[k].toNat:Int)==37)=false:=by
 have hb:=zDi l k hk;have hb0:zCz (l.drop k) 0=l[k]:=by rw[←hb];unfold zCz;simp
 unfold zCD at h;rw[hb] at h;have hs:isL l[k]=true∨isD l[k]=true∨zFC (l.drop k)≠0:=by
  cases h1:isL l[k]
  ·cases h2:isD l[k]
   ·right;right;intro h3;simp[h1,h2,h3] at h
   ·right;left;rfl
  ·left;rfl
 have ne:∀n:Int,(n=32∨n=9∨n=10∨n=37)→(l[k].toNat:Int)≠n:=by
  intro n hn he;have e32:n≤37:=by omega
  rcases hs with h1 | h1 | h1
  ·simp only[isL,Bool.and_eq_true,decide_eq_true_eq] at h1;omega
  ·simp only[isD,Bool.and_eq_true,decide_eq_true_eq] at h1;omega
  ·unfold zFC at h1
   split at h1
   ·rename_i h2
    rw[List.drop_eq_getElem_cons hk] at h2;simp only[zLL,Bool.or_eq_true,beq_iff_eq,List.take_succ_cons,List.cons.injEq] at h2;rcases h2 with h2 | h2 | h2 | h2 | h2 <;> (rw[h2.1] at he;simp at he;omega)
   ·split at h1
    ·rename_i h2
     rw[hb0] at h2;simp only[zQQ,Bool.or_eq_true,beq_iff_eq] at h2;omega
    ·exact h1 rfl
 refine⟨?_,by simpa using ne 37 (by omega)⟩
 unfold isB;rw[show ((l[k].toNat:Int)==32)=false by simpa using ne 32 (by omega),show ((l[k].toNat:Int)==9)=false by simpa using ne 9 (by omega),show ((l[k].toNat:Int)==10)=false by simpa using ne 10 (by omega)]
 rfl
theorem zNV (f:Nat) (s:ByteArray):∀(k:Nat) (acc:List Tok),(zEI f s k acc).2.2=0→∃r,(zEI f s k acc).1=acc++r:=by
 induction f with
 | zero=>intro k acc _;exact⟨[],by simp[zEI]⟩
 | succ f ih =>
   intro k acc h;by_cases h1:zAU false s.data.toList k<s.size
   ·by_cases h2:zC3 (zBC s (zAU false s.data.toList k)).kind (zBC s (zAU false s.data.toList k)).text=0
    ·rw[zDj f s k _ acc rfl h1 h2] at h ⊢
     obtain⟨r,hr⟩:=ih _ _ h;exact⟨zBC s (zAU false s.data.toList k) :: r,by rw[hr];simp⟩
    ·rw[zFZ f s k _ acc rfl h1 h2] at h;exact absurd h h2
   ·exact⟨[],by rw[zEQ _ s k acc h1];simp⟩
def zJQ (kind:Int) (s:ByteArray):Bool :=
 decide (0<s.size)&&(decide (s.size≤4000)&&(decide (kind≠0)&&(decide ((zCD s.data.toList 0:Int)=kind)&&(decide (zCL s.data.toList 0=s.size)&&decide (zC3 kind s=0)))))
theorem zHD (kind:Int) (s:ByteArray):zJQ kind s=true↔0<s.size∧s.size≤4000∧kind≠0∧(zCD s.data.toList 0:Int)=kind∧zCL s.data.toList 0=s.size∧zC3 kind s=0:=by
 simp only[zJQ,Bool.and_eq_true,decide_eq_true_eq]
theorem zJR (s:ByteArray):s.extract 0 s.size=s:=by
 apply ByteArray.ext;rw[ByteArray.data_extract];exact Array.extract_size
theorem zA0 (s:ByteArray):s.data.toList.length=s.size:=by simp
theorem zJS (kind:Int) (s:ByteArray) (h:zJQ kind s=true):zAv s=([⟨kind,0,s⟩],0,0):=by
 obtain⟨h0,h4,hk,hkind,hend,herr⟩:=(zHD kind s).1 h;have hl:0<s.data.toList.length:=by rw[zA0];exact h0
 have hkd:zCD s.data.toList 0≠0:=by intro h';rw[h'] at hkind;exact hk hkind.symm
 obtain⟨hb1,hb2⟩:=zIH _ 0 hl hkd;have hsk:zAU false s.data.toList 0=0:=zHC _ 0 hl hb1 hb2;have ht:zBC s 0=⟨kind,0,s⟩:=by
  unfold zBC;rw[if_neg hkd,hend,hkind,zJR];rfl
 have he:zC3 (zBC s 0).kind (zBC s 0).text=0:=by rw[ht];exact herr
 unfold zAv;rw[if_neg (by omega),zDj _ s 0 0 [] hsk h0 he,hend,ht]
 rw[zEQ _ s s.size _ (by rw[zIW _ _ _ (by rw[zA0];omega)];omega)]
 simp
theorem zOf (t:Tok):zJ3 t=zJQ t.kind t.text:=by
 cases hi:zJQ t.kind t.text
 ·cases ha:zJ3 t
  ·rfl
  ·exfalso
   simp only[zJ3,Bool.and_eq_true,beq_iff_eq] at ha;obtain⟨h1,h2,h3,h4⟩:=ha;have h4':((zAv t.text).1.headD ⟨0,0,ByteArray.empty⟩).text=t.text:=by
    rw[ByteArray.toList_eq,ByteArray.toList_eq] at h4;exact ByteArray.ext (Array.toList_inj.1 h4)
   generalize hs:t.text=s at *;by_cases hbig:4000<s.size
   ·unfold zAv at h1;rw[if_pos hbig] at h1;exact absurd h1 (by decide)
   ·unfold zAv at h1 h2 h3 h4'
    rw[if_neg hbig] at h1 h2 h3 h4';by_cases hsk:zAU false s.data.toList 0<s.size
    ·by_cases he:zC3 (zBC s (zAU false s.data.toList 0)).kind (zBC s (zAU false s.data.toList 0)).text=0
     ·rw[zDj _ s 0 _ [] rfl hsk he] at h1 h2 h3 h4'
      obtain⟨r,hr⟩:=zNV _ s _ _ h1;rw[hr] at h3 h4';simp only[List.nil_append,List.cons_append,List.headD_cons] at h3 h4';have hkd:=zEr s _ he;have hl:zAU false s.data.toList 0<s.data.toList.length:=by rw[zA0];exact hsk
      have hle:=(zG1 _ _ hl).2;rw[zA0] at hle;have hsz:(zBC s (zAU false s.data.toList 0)).text.size=zCL s.data.toList (zAU false s.data.toList 0) - zAU false s.data.toList 0:=by
       unfold zBC;rw[if_neg hkd];exact zCo _ _ _ hle
      rw[h4'] at hsz;have hz:zAU false s.data.toList 0=0:=by omega
      rw[hz] at hsz h3 h4' he hkd;have hk3:(zCD s.data.toList 0:Int)=t.kind:=by rw[←h3];unfold zBC;rw[if_neg hkd]
      have:zJQ t.kind s=true:=(zHD _ _).2 ⟨by omega,by omega,by rw[←hk3];omega,hk3,by omega,by rw[h3,h4'] at he;exact he⟩
      rw[this] at hi;cases hi
     ·rw[zFZ _ s 0 _ [] rfl hsk he] at h1;exact he h1
    ·rw[zEQ _ s 0 [] hsk] at h2;simp at h2
 ·have h1:=zJS _ _ hi
  unfold zJ3;rw[h1];simp
structure MVar where
 name:ByteArray
 lo:Int
 hi:Int
structure MLit where
 var:Int
 op:Int
 n:Int
structure MCon where
 kind:Int
 vars:List Int
 consts:List Int
 n:Int
 rows:List (List Int)
 lits:List MLit
structure Mod where
 vars:List MVar
 cons:List MCon
 goal:Int
 var:Int
def zHE (s:ByteArray):Bool :=
 (s.toList==[118,97,114]) || ((s.toList==[99,111,110]) || ((s.toList==[115,111,108,118,101]) || ((s.toList==[108,101]) || ((s.toList==[101,113]) || ((s.toList==[110,101]) || ((s.toList==[100,105,102,102,101,114]) || ((s.toList==[101,108,101,109,101,110,116]) || ((s.toList==[116,97,98,108,101]) || ((s.toList==[116,105,109,101,115]) || ((s.toList==[109,97,120]) || ((s.toList==[99,108,97,117,115,101]) || ((s.toList==[105,102,102]) || ((s.toList==[97,110,121]) || ((s.toList==[108,101,97,115,116]) || (s.toList==[109,111,115,116])))))))))))))))
def zBk (s:ByteArray):Bool:=zJQ 1 s&&!zHE s
def inB (n most:Int):Bool:=decide (-most≤n)&&decide (n≤most)
def zBd (v n:Int):Bool:=decide (0≤v)&&decide (v<n)
def zAT (n:Int):Bool:=inB n 1000
def varE (vs:List MVar) (v:MVar):Int :=
 if zBk v.name then
  if vs.any (fun u=>u.name.toList==v.name.toList) then 6
  else if inB v.lo 50&&(inB v.hi 50&&!decide (v.hi<v.lo)) then (if 6<v.hi - v.lo+1 then 2 else 0) else 3
 else 1
def zAj:List Int→Int
 | []=>0
 | e :: r=>if e=0 then zAj r else e
def zQT (vs:List MVar):Int:=zAj ((List.range vs.length).map fun i=>varE (vs.take i) (vs.getD i ⟨ByteArray.empty,0,0⟩))
def zFa (c:MCon):Bool:=decide (4<c.vars.length) || (decide (4<c.lits.length) || (decide (8<c.consts.length) || decide (20<c.rows.length)))
def zCJ (c:MCon):Bool :=
 if c.kind=1∨c.kind=2∨c.kind=3 then decide (1≤c.vars.length)&&(decide (c.consts.length=c.vars.length)&&decide (c.rows.length+c.lits.length=0))
 else if c.n≠0 then false
 else if c.kind=4 then decide (1≤c.vars.length)&&decide (c.consts.length+c.rows.length+c.lits.length=0)
 else if c.kind=5 then decide (c.vars.length=2)&&(decide (1≤c.consts.length)&&decide (c.rows.length+c.lits.length=0))
 else if c.kind=6 then decide (1≤c.vars.length)&&(decide (c.consts.length+c.lits.length=0)&&c.rows.all fun r=>decide (r.length=c.vars.length))
 else if c.kind=7 then decide (c.vars.length=3)&&decide (c.consts.length+c.rows.length+c.lits.length=0)
 else if c.kind=8 then decide (2≤c.vars.length)&&decide (c.consts.length+c.rows.length+c.lits.length=0)
 else if c.kind=9 then decide (c.vars.length+c.consts.length+c.rows.length=0)
 else if c.kind=10 then decide (c.vars.length=1)&&(decide (c.lits.length=1)&&decide (c.consts.length+c.rows.length=0))
 else false
def zHF (c:MCon) (n:Int):Bool:=c.vars.all (fun v=>zBd v n)&&c.lits.all (fun l=>zBd l.var n)
def zDE (c:MCon):Bool:=c.consts.all zAT&&(zAT c.n&&c.rows.all fun r=>r.all zAT)
def zNW (ls:List MLit):Int :=
 if ls.all (fun l=>decide (1≤l.op)&&decide (l.op≤4)) then (if ls.all (fun l=>zAT l.n) then 0 else 3) else 7
def conE (n:Int) (c:MCon):Int :=
 if 1≤c.kind∧c.kind≤10 then (if zFa c then 2 else if zCJ c then (if zHF c n then (if zDE c then zNW c.lits else 3) else 5) else 1) else 7
def zQU (m:Mod):Int:=zAj (m.cons.map (conE m.vars.length))
def zJT (m:Mod):Int :=
 if m.goal=0 then (if m.var=0 then 0 else 1) else if m.goal=1∨m.goal=2 then (if zBd m.var m.vars.length then 0 else 5) else 7
def zAG (m:Mod):Int :=
 if m.vars.length=0 then 1 else if 6<m.vars.length∨8<m.cons.length then 2
 else if zQT m.vars=0 then (if zQU m=0 then zJT m else zQU m) else zQT m.vars
theorem zFb (a b:List Int):zAj (a++b)=if zAj a=0 then zAj b else zAj a:=by
 induction a with
 | nil=>simp[zAj]
 | cons e r ih =>
   simp only[List.cons_append,zAj];by_cases h:e=0
   ·simp only[h,if_true];exact ih
   ·simp only[h,if_false]
theorem zDm (l:List Int) (k:Nat) (e:Int) (h0:zAj (l.take k)=0) (hk:l[k]? = some e) (he:e≠0):zAj l=e:=by
 have hs:l=l.take k++l.drop k:=(List.take_append_drop k l).symm;rw[hs,zFb,if_pos h0];have hlt:=(List.getElem?_eq_some_iff.1 hk).1;rw[List.drop_eq_getElem_cons hlt];have:l[k]=e:=by rw[List.getElem?_eq_getElem hlt] at hk;exact Option.some.inj hk
 rw[this,zAj,if_neg he]
theorem zDF (l:List Int) (k:Nat) (h0:zAj (l.take k)=0) (hk:l[k]? = some 0):zAj (l.take (k+1))=0:=by
 rw[List.take_add_one,hk,zFb,if_pos h0];rfl
theorem zDn (l:List Int) (h:zAj l=0):∀e∈l,e=0:=by
 induction l with
 | nil=>intro e he;cases he
 | cons a r ih =>
   unfold zAj at h;by_cases h0:a=0
   ·rw[if_pos h0] at h
    intro e he;rcases List.mem_cons.1 he with rfl | he
    ·exact h0
    ·exact ih h e he
   ·rw[if_neg h0] at h;exact absurd h h0
theorem zAe (m:Mod) (h:zAG m=0):1≤m.vars.length∧m.vars.length≤6∧m.cons.length≤8∧zQT m.vars=0∧zQU m=0∧zJT m=0:=by
 unfold zAG at h;by_cases h0:m.vars.length=0
 ·rw[if_pos h0] at h;cases h
 ·rw[if_neg h0] at h
  by_cases h1:6<m.vars.length∨8<m.cons.length
  ·rw[if_pos h1] at h;cases h
  ·rw[if_neg h1] at h
   by_cases h2:zQT m.vars=0
   ·rw[if_pos h2] at h
    by_cases h3:zQU m=0
    ·rw[if_pos h3] at h;exact⟨by omega,by omega,by omega,h2,h3,h⟩
    ·rw[if_neg h3] at h;exact absurd h h3
   ·rw[if_neg h2] at h;exact absurd h h2
theorem zSF (vs:List MVar) (v:MVar) (h:varE vs v=0):-50≤v.lo∧v.hi≤50∧v.lo≤v.hi∧v.hi - v.lo+1≤6:=by
 unfold varE at h
 split at h
 ·split at h
  ·cases h
  ·split at h
   ·rename_i h1
    simp only[inB,Bool.and_eq_true,decide_eq_true_eq,Bool.not_eq_true',decide_eq_false_iff_not] at h1
    split at h
    ·cases h
    ·omega
   ·cases h
 ·cases h
theorem zHG (m:Mod) (h:zAG m=0) (i:Nat) (v:MVar) (hv:m.vars[i]? = some v):-50≤v.lo∧v.hi≤50∧v.lo≤v.hi∧v.hi - v.lo+1≤6:=by
 have h1:=(zAe m h).2.2.2.1;have h2:=zDn _ h1 (varE (m.vars.take i) v) (by
  have hi:i<m.vars.length:=(List.getElem?_eq_some_iff.1 hv).1;refine List.mem_map.2 ⟨i,List.mem_range.2 hi,?_⟩;rw[List.getD_eq_getElem?_getD,hv];rfl)
 exact zSF _ _ h2
theorem zGa (m:Mod) (h:zAG m=0) (i:Nat) (c:MCon) (hc:m.cons[i]? = some c):conE m.vars.length c=0:=by
 have h1:=(zAe m h).2.2.2.2.1;exact zDn _ h1 _ (List.mem_map.2 ⟨c,List.mem_of_getElem? hc,rfl⟩)
def litV (x:Int) (l:MLit):Bool :=
 if l.op=1 then decide (x≤l.n) else if l.op=2 then decide (l.n≤x) else if l.op=3 then x==l.n else if l.op=4 then x != l.n else false
def IArg (w:World) (v:Value) (l:List Int):Prop :=
 ∃a c,v=.slice a l.length c∧(l.length≤c∧c≤maxLen)∧∀(i:Nat) (z:Int),l[i]? = some z→∃b off,a=some ⟨b,off,none⟩∧b<w.heap.size∧w.cell? ⟨b,off+i,none⟩=some (.int .i64 z)
def RArg (w:World) (v:Value) (l:List (List Int)):Prop :=
 ∃a c,v=.slice a l.length c∧(l.length≤c∧c≤maxLen)∧∀(i:Nat) (r:List Int),l[i]? = some r→∃b off x,a=some ⟨b,off,none⟩∧b<w.heap.size∧w.cell? ⟨b,off+i,none⟩=some x∧IArg w x r
def LArg (w:World) (v:Value) (l:List MLit):Prop :=
 ∃a c,v=.slice a l.length c∧(l.length≤c∧c≤maxLen)∧∀(i:Nat) (t:MLit),l[i]? = some t→∃b off,a=some ⟨b,off,none⟩∧b<w.heap.size ∧
  w.cell? ⟨b,off+i * 3,none⟩=some (.int .i64 t.var)∧w.cell? ⟨b,off+i * 3+1,none⟩=some (.int .i64 t.op)∧w.cell? ⟨b,off+i * 3+2,none⟩=some (.int .i64 t.n)
def VArg (w:World) (v:Value) (l:List MVar):Prop :=
 ∃a c,v=.slice a l.length c∧(l.length≤c∧c≤maxLen)∧∀(i:Nat) (t:MVar),l[i]? = some t→t.name.size≤maxLen∧∃b off,a=some ⟨b,off,none⟩∧b<w.heap.size ∧
  w.cell? ⟨b,off+i * 3,none⟩=some (.string t.name)∧w.cell? ⟨b,off+i * 3+1,none⟩=some (.int .i64 t.lo)∧w.cell? ⟨b,off+i * 3+2,none⟩=some (.int .i64 t.hi)
def KArg (w:World) (vv vc vr vl:Value) (c:MCon):Prop:=IArg w vv c.vars∧IArg w vc c.consts∧RArg w vr c.rows∧LArg w vl c.lits
def conV (vv vc vr vl:Value) (c:MCon):Value:=.agg #[.int .i64 c.kind,vv,vc,.int .i64 c.n,vr,vl]
def CArg (w:World) (v:Value) (l:List MCon):Prop :=
 ∃a c,v=.slice a l.length c∧(l.length≤c∧c≤maxLen)∧∀(i:Nat) (t:MCon),l[i]? = some t→∃b off vv vc vr vl,a=some ⟨b,off,none⟩∧b<w.heap.size ∧
  w.cell? ⟨b,off+i * 6,none⟩=some (.int .i64 t.kind)∧w.cell? ⟨b,off+i * 6+1,none⟩=some vv∧w.cell? ⟨b,off+i * 6+2,none⟩=some vc ∧
  w.cell? ⟨b,off+i * 6+3,none⟩=some (.int .i64 t.n)∧w.cell? ⟨b,off+i * 6+4,none⟩=some vr∧w.cell? ⟨b,off+i * 6+5,none⟩=some vl∧KArg w vv vc vr vl t
def MArg (w:World) (vs cs:Value) (m:Mod):Prop:=VArg w vs m.vars∧CArg w cs m.cons
def modV (vs cs:Value) (m:Mod):Value:=.agg #[vs,cs,.int .i64 m.goal,.int .i64 m.var]
section
variable {w w':World} (hb:Below w.heap.size w w')
theorem IArg.below {v:Value} {l:List Int} (hb:Below w.heap.size w w') (h:IArg w v l):IArg w' v l:=by
 obtain⟨a,c,hv,hm,hr⟩:=h;refine⟨a,c,hv,hm,fun i z hz=>?_⟩
 obtain⟨b,off,ha,hlt,hc⟩:=hr i z hz;exact⟨b,off,ha,Nat.lt_of_lt_of_le hlt hb.size,(hb.cell (p:=⟨b,off+i,none⟩) hlt).trans hc⟩
theorem RArg.below {v:Value} {l:List (List Int)} (hb:Below w.heap.size w w') (h:RArg w v l):RArg w' v l:=by
 obtain⟨a,c,hv,hm,hr⟩:=h;refine⟨a,c,hv,hm,fun i z hz=>?_⟩
 obtain⟨b,off,x,ha,hlt,hc,hx⟩:=hr i z hz;exact⟨b,off,x,ha,Nat.lt_of_lt_of_le hlt hb.size,(hb.cell (p:=⟨b,off+i,none⟩) hlt).trans hc,IArg.below hb hx⟩
theorem LArg.below {v:Value} {l:List MLit} (hb:Below w.heap.size w w') (h:LArg w v l):LArg w' v l:=by
 obtain⟨a,c,hv,hm,hr⟩:=h;refine⟨a,c,hv,hm,fun i z hz=>?_⟩
 obtain⟨b,off,ha,hlt,c0,c1,c2⟩:=hr i z hz;exact⟨b,off,ha,Nat.lt_of_lt_of_le hlt hb.size,(hb.cell (p:=⟨b,off+i * 3,none⟩) hlt).trans c0,(hb.cell (p:=⟨b,off+i * 3+1,none⟩) hlt).trans c1,(hb.cell (p:=⟨b,off+i * 3+2,none⟩) hlt).trans c2⟩
theorem VArg.below {v:Value} {l:List MVar} (hb:Below w.heap.size w w') (h:VArg w v l):VArg w' v l:=by
 obtain⟨a,c,hv,hm,hr⟩:=h;refine⟨a,c,hv,hm,fun i z hz=>?_⟩
 obtain⟨hs,b,off,ha,hlt,c0,c1,c2⟩:=hr i z hz;exact⟨hs,b,off,ha,Nat.lt_of_lt_of_le hlt hb.size,(hb.cell (p:=⟨b,off+i * 3,none⟩) hlt).trans c0,(hb.cell (p:=⟨b,off+i * 3+1,none⟩) hlt).trans c1,(hb.cell (p:=⟨b,off+i * 3+2,none⟩) hlt).trans c2⟩
theorem KArg.below {vv vc vr vl:Value} {c:MCon} (hb:Below w.heap.size w w') (h:KArg w vv vc vr vl c):KArg w' vv vc vr vl c :=
 ⟨IArg.below hb h.1,IArg.below hb h.2.1,RArg.below hb h.2.2.1,LArg.below hb h.2.2.2⟩
theorem CArg.below {v:Value} {l:List MCon} (hb:Below w.heap.size w w') (h:CArg w v l):CArg w' v l:=by
 obtain⟨a,c,hv,hm,hr⟩:=h;refine⟨a,c,hv,hm,fun i z hz=>?_⟩
 obtain⟨b,off,vv,vc,vr,vl,ha,hlt,c0,c1,c2,c3,c4,c5,hk⟩:=hr i z hz;exact⟨b,off,vv,vc,vr,vl,ha,Nat.lt_of_lt_of_le hlt hb.size,(hb.cell (p:=⟨b,off+i * 6,none⟩) hlt).trans c0,(hb.cell (p:=⟨b,off+i * 6+1,none⟩) hlt).trans c1,(hb.cell (p:=⟨b,off+i * 6+2,none⟩) hlt).trans c2,
  (hb.cell (p:=⟨b,off+i * 6+3,none⟩) hlt).trans c3,(hb.cell (p:=⟨b,off+i * 6+4,none⟩) hlt).trans c4,(hb.cell (p:=⟨b,off+i * 6+5,none⟩) hlt).trans c5,KArg.below hb hk⟩
theorem MArg.below {vs cs:Value} {m:Mod} (hb:Below w.heap.size w w') (h:MArg w vs cs m):MArg w' vs cs m:=⟨VArg.below hb h.1,CArg.below hb h.2⟩
end
theorem zAA (w:World) (o:Obj):Below w.heap.size w (w.alloc o):=(Below.refl _ _).alloc (Nat.le_refl _) o
structure Fr (X:Nat→Prop) (w w':World):Prop where
 os:w'.os=w.os
 tape:w'.tape=w.tape
 output:w'.output=w.output
 size:w.heap.size≤w'.heap.size
 block:∀k,k<w.heap.size→¬X k→w'.heap[k]? = w.heap[k]?
theorem Fr.refl (X:Nat→Prop) (w:World):Fr X w w:=⟨rfl,rfl,rfl,Nat.le_refl _,fun _ _ _=>rfl⟩
theorem Fr.trans {X:Nat→Prop} {a b c:World} (h:Fr X a b) (k:Fr X b c):Fr X a c :=
 ⟨k.os.trans h.os,k.tape.trans h.tape,k.output.trans h.output,Nat.le_trans h.size k.size,fun i hi hx=>(k.block i (Nat.lt_of_lt_of_le hi h.size) hx).trans (h.block i hi hx)⟩
theorem Fr.below {X:Nat→Prop} {w w':World} (h:Below w.heap.size w w'):Fr X w w':=⟨h.os,h.tape,h.output,h.size,fun k hk _=>h.block k hk⟩
theorem Fr.cell {X:Nat→Prop} {w w':World} (h:Fr X w w') {p:Addr} (hp:p.block<w.heap.size) (hx:¬X p.block):w'.cell? p=w.cell? p:=World.cell?_of_block (w:=w) (h.block p.block hp hx)
theorem Fr.setX {X:Nat→Prop} {a w:World} (h:Fr X a w) {p:Addr} (hp:X p.block) (u:Value):Fr X a (w.setCell p u) :=
 ⟨h.os,h.tape,h.output,by simpa using h.size,fun k hk hx=>(Below.heap_setCell _ _ _ _ (fun e=>hx (by rw[e];exact hp))).trans (h.block k hk hx)⟩
theorem Fr.setNew {X:Nat→Prop} {a w:World} (h:Fr X a w) {p:Addr} (hp:a.heap.size≤p.block) (u:Value):Fr X a (w.setCell p u) :=
 ⟨h.os,h.tape,h.output,by simpa using h.size,fun k hk hx=>(Below.heap_setCell _ _ _ _ (by omega)).trans (h.block k hk hx)⟩
theorem Fr.alloc {X:Nat→Prop} {a w:World} (h:Fr X a w) (o:Obj):Fr X a (w.alloc o):=h.trans (Fr.below (zAA _ _))
theorem blk9 {w:World} {b:Nat} {cs:Array Value} {t:TypeId} (h:w.heap[b]? = some (.cells cs t)) (i:Nat) (v:Value) (hv:cs[i]? = some v):w.cell? ⟨b,i,none⟩=some v:=by
 rw[Lib.cell_of_heap h];exact hv
theorem frz9 {w:World} {b:Nat} {cs:Array Value} {t:TypeId} (h:w.heap[b]? = some (.cells cs t)) (i:Nat):w.frozen? ⟨b,i,none⟩=false:=by
 unfold World.frozen?;simp only[h];simp
theorem zAX {w:World} {B:Nat} {e t:TypeId} {size n:Nat} {v:Value} {xs:List Value} (h:w.ownsRow B e size v n xs) {C:Nat} {cs:Array Value} (hC:w.heap[C]? = some (.cells cs t)) (ht:t≠e) (i:Nat) (u:Value):(w.setCell ⟨C,i,none⟩ u).ownsRow B e size v n xs:=by
 refine⟨h.1,?_⟩;rcases h.2 with hn | ⟨g,cap,cur,hv,hg,hh,r⟩
 ·exact .inl hn
 ·have hne:g≠C:=by
   intro e1;rw[e1,hC] at hh
   injection hh with h1
   injection h1 with _ h2
   exact ht h2
  exact .inr ⟨g,cap,cur,hv,hg,(Below.heap_setCell _ _ _ _ hne).trans hh,r⟩
theorem Fr.weak {X Y:Nat→Prop} {w w':World} (h:Fr X w w') (hXY:∀k,X k→Y k):Fr Y w w':=⟨h.os,h.tape,h.output,h.size,fun k hk hx=>h.block k hk fun hX=>hx (hXY k hX)⟩
theorem Fr.grown {X:Nat→Prop} {a w w':World} {row:Option Nat} (h:Fr X a w) (hg:w.grownBy w' row) (hr:∀k,row=some k→X k∨a.heap.size≤k):Fr X a w' :=
 ⟨hg.os.trans h.os,hg.tape.trans h.tape,hg.output.trans h.output,Nat.le_trans h.size hg.size,fun k hk hx=>(hg.block k (Nat.lt_of_lt_of_le hk h.size) (fun e=>(hr k e.symm).elim hx (fun h2=>by omega))).trans (h.block k hk hx)⟩
theorem Fr.toBelow {w w':World} (h:Fr (fun k=>w.heap.size≤k) w w'):Below w.heap.size w w':=⟨h.os,h.tape,h.output,h.size,fun k hk=>h.block k hk (by omega)⟩
theorem zDG {w:World} {B B':Nat} {e e':TypeId} {s s' n n':Nat} {v v':Value} {xs xs':List Value} (h:w.ownsRow B e s v n xs) (h':w.ownsRow B' e' s' v' n' xs') (hne:e≠e'):v.ownBlock=none∨v.ownBlock≠v'.ownBlock:=by
 rcases h.2 with ⟨rfl,_⟩ | ⟨g,cap,cur,rfl,hg,hh,_⟩
 ·exact Or.inl rfl
 ·right
  intro he;rcases h'.2 with ⟨rfl,_⟩ | ⟨g',cap',cur',rfl,hg',hh',_⟩
  ·cases he
  ·have:g=g':=by injection he
   subst this;rw[hh] at hh'
   injection hh' with h1
   injection h1 with _ h2
   exact hne h2
theorem zBE {w w':World} {B B':Nat} {e e':TypeId} {s s' n n':Nat} {v v':Value} {xs xs':List Value} (h:w.ownsRow B e s v n xs) (hg:w.grownBy w' v'.ownBlock) (h':w.ownsRow B' e' s' v' n' xs') (hne:e≠e'):w'.ownsRow B e s v n xs :=
 h.kept hg (zDG h h' hne)
theorem zBF {w w':World} {B:Nat} {e:TypeId} {s n:Nat} {v:Value} {xs:List Value} {r:Nat} {cs:Array Value} {t:TypeId} (h:w.heap[r]? = some (.cells cs t)) (hg:w.grownBy w' v.ownBlock) (h':w.ownsRow B e s v n xs) (hne:t≠e):w'.heap[r]? = some (.cells cs t):=by
 have hlt:r<w.heap.size:=(Array.getElem?_eq_some_iff.1 h).1;refine (hg.block r hlt ?_).trans h
 ·intro he
  rcases h'.2 with ⟨rfl,_⟩ | ⟨g,cap,cur,rfl,_,hh,_⟩
  ·cases he
  ·have:g=r:=by injection he with e1;exact e1.symm
   subst this;rw[hh] at h
   injection h with h1
   injection h1 with _ h2
   exact hne h2.symm
structure Sp (X:Nat→Prop) (w w':World):Prop where
 os:w'.os=w.os
 tape:w'.tape=w.tape
 output:w'.output=w.output
 size:w.heap.size≤w'.heap.size
 block:∀k,k<w.heap.size→w'.heap[k]? = w.heap[k]? ∨ (X k∧∃cur cur' T fr,w.heap[k]? = some (.cells cur T fr)∧w'.heap[k]? = some (.cells cur' T fr)∧cur'.size=cur.size∧∀(i:Nat) (a:Option Addr) (n c:Nat),cur'[i]? = some (.slice a n c)↔cur[i]? = some (.slice a n c))
theorem Sp.refl (X:Nat→Prop) (w:World):Sp X w w:=⟨rfl,rfl,rfl,Nat.le_refl _,fun _ _=>.inl rfl⟩
theorem Sp.below {X:Nat→Prop} {w w':World} (h:Below w.heap.size w w'):Sp X w w':=⟨h.os,h.tape,h.output,h.size,fun k hk=>.inl (h.block k hk)⟩
theorem Sp.trans {X:Nat→Prop} {a b c:World} (h:Sp X a b) (k:Sp X b c):Sp X a c:=by
 refine⟨k.os.trans h.os,k.tape.trans h.tape,k.output.trans h.output,Nat.le_trans h.size k.size,fun i hi=>?_⟩
 rcases h.block i hi with h1 | ⟨hx,p,q,T,fr,h1,h2,h3,h4⟩
 ·rcases k.block i (Nat.lt_of_lt_of_le hi h.size) with k1 | ⟨kx,r,s,U,fs,k1,k2,k3,k4⟩
  ·exact .inl (k1.trans h1)
  ·exact .inr ⟨kx,r,s,U,fs,h1▸k1,k2,k3,k4⟩
 ·rcases k.block i (Nat.lt_of_lt_of_le hi h.size) with k1 | ⟨kx,r,s,U,fs,k1,k2,k3,k4⟩
  ·exact .inr ⟨hx,p,q,T,fr,h1,k1.trans h2,h3,h4⟩
  ·rw[h2] at k1
   injection k1 with e1
   injection e1 with e2 e3 e4
   subst e2 e3 e4;exact .inr ⟨hx,p,s,T,fr,h1,k2,k3.trans h3,fun i a n c=>(k4 i a n c).trans (h4 i a n c)⟩
theorem Sp.same {X:Nat→Prop} {w w':World} (h:Sp X w w') (k:Nat) (hk:k<w.heap.size) (hx:¬X k):w'.heap[k]? = w.heap[k]? := (h.block k hk).elim id fun h1=>absurd h1.1 hx
theorem Sp.toBelow {X:Nat→Prop} {w w':World} (h:Sp X w w') (N:Nat) (hN:N≤w.heap.size) (hX:∀k,X k→N≤k):Below N w w' :=
 ⟨h.os,h.tape,h.output,h.size,fun k hk=>h.same k (Nat.lt_of_lt_of_le hk hN) fun hx=>by have:=hX k hx;omega⟩
theorem zC4 {w:World} {k i:Nat} {cur:Array Value} {T:TypeId} {fr:Nat×Nat} (h:w.heap[k]? = some (.cells cur T fr)):w.cell? ⟨k,i,none⟩=cur[i]? := by
 unfold World.cell?;simp[h]
theorem zJU {w:World} {k i:Nat} {y:Value} (h:w.cell? ⟨k,i,none⟩=some y):∃cur T fr,w.heap[k]? = some (.cells cur T fr)∧cur[i]? = some y:=by
 unfold World.cell? at h
 split at h
 ·rename_i cur T fr heq
  exact⟨cur,T,fr,heq,by simpa using h⟩
 ·cases h
theorem Sp.slice {X:Nat→Prop} {w w':World} (h:Sp X w w') {k i:Nat} {a:Option Addr} {n c:Nat} (hc:w.cell? ⟨k,i,none⟩=some (.slice a n c)):w'.cell? ⟨k,i,none⟩=some (.slice a n c):=by
 rcases h.block k (World.block_lt_of_cell? w _ hc) with h1 | ⟨_,p,q,T,fr,h1,h2,_,h4⟩
 ·exact (World.cell?_of_block (w:=w) h1).trans hc
 ·rw[zC4 h1] at hc
  rw[zC4 h2];exact (h4 i a n c).2 hc
def Bad (X:Nat→Prop) (w:World) (g i:Nat):Prop:=X g∧w.frozen? ⟨g,i,none⟩=false∧∃y,w.cell? ⟨g,i,none⟩=some y∧∀a n c,y≠.slice a n c
theorem Bad.sp {X Y:Nat→Prop} {w w':World} {g i:Nat} (h:Bad X w g i) (hs:Sp Y w w'):Bad X w' g i:=by
 obtain⟨hx,hf,y,hc,hy⟩:=h;rcases hs.block g (World.block_lt_of_cell? w _ hc) with h1 | ⟨_,p,q,T,fr,h1,h2,h3,h4⟩
 ·refine⟨hx,?_,y,(World.cell?_of_block (w:=w) h1).trans hc,hy⟩
  unfold World.frozen? at hf ⊢;simp only[h1];exact hf
 ·refine⟨hx,?_,?_⟩
  ·unfold World.frozen? at hf ⊢
   simp only[h1] at hf;simp only[h2];exact hf
  ·rw[zC4 h1] at hc
   have hi:i<q.size:=by rw[h3];exact (Array.getElem?_eq_some_iff.1 hc).1
   refine⟨q[i],by rw[zC4 h2];exact Array.getElem?_eq_getElem hi,fun a n c he=>?_⟩
   have:=(h4 i a n c).1 (by rw[Array.getElem?_eq_getElem hi,he])
   rw[hc] at this;exact hy a n c (Option.some.inj this)
theorem Bad.set {X:Nat→Prop} {w:World} {g i:Nat} (h:Bad X w g i) (u:Value) (hu:∀a n c,u≠.slice a n c):Sp X w (w.setCell ⟨g,i,none⟩ u):=by
 obtain⟨hx,hf,y,hc,hy⟩:=h;obtain⟨cur,T,fr,hh,hci⟩:=zJU hc;refine⟨rfl,rfl,rfl,by simp,fun k hk=>?_⟩
 by_cases he:k=g
 ·subst he
  refine .inr ⟨hx,cur,cur.setIfInBounds i u,T,fr,hh,?_,by simp,fun j a n c=>?_⟩
  ·show (Array.modify _ _ _)[k]? = _
   rw[Array.getElem?_modify,if_pos rfl,hh];rfl
  ·rw[Array.getElem?_setIfInBounds]
   by_cases hj:i=j
   ·subst hj
    rw[if_pos rfl,hci]
    split
    ·exact⟨fun h=>absurd (Option.some.inj h) (hu a n c),fun h=>absurd (Option.some.inj h) (hy a n c)⟩
    ·exact⟨fun h=>(by cases h),fun h=>absurd (Option.some.inj h) (hy a n c)⟩
   ·rw[if_neg hj]
 ·exact .inl (Below.heap_setCell _ _ _ _ he)
def WR (X:Nat→Prop) (w:World) (sz:Nat) (v:Value):Prop:=∃a n c,v=.slice a n c∧n≤c∧c≤maxLen∧∀i,i<n→∃g,a=some ⟨g,0,none⟩∧Bad X w g (i * sz)
theorem WR.sp {X Y:Nat→Prop} {w w':World} {sz:Nat} {v:Value} (h:WR X w sz v) (hs:Sp Y w w'):WR X w' sz v:=by
 obtain⟨a,n,c,h1,h2,h3,h4⟩:=h;refine⟨a,n,c,h1,h2,h3,fun i hi=>?_⟩
 obtain⟨g,k1,k2⟩:=h4 i hi;exact⟨g,k1,k2.sp hs⟩
def NRw (X:Nat→Prop) (w:World) (sz off sz2:Nat) (v:Value):Prop:=∃a n c,v=.slice a n c∧n≤c∧c≤maxLen∧∀i,i<n→∃g ax nx cx,a=some ⟨g,0,none⟩∧w.cell? ⟨g,i * sz+off,none⟩=some (.slice ax nx cx)∧WR X w sz2 (.slice ax nx cx)∧(0<off→Bad X w g (i * sz))
theorem NRw.sp {X Y:Nat→Prop} {w w':World} {sz off sz2:Nat} {v:Value} (h:NRw X w sz off sz2 v) (hs:Sp Y w w'):NRw X w' sz off sz2 v:=by
 obtain⟨a,n,c,h1,h2,h3,h4⟩:=h;refine⟨a,n,c,h1,h2,h3,fun i hi=>?_⟩
 obtain⟨g,ax,nx,cx,k1,k2,k3,k4⟩:=h4 i hi;exact⟨g,ax,nx,cx,k1,hs.slice k2,k3.sp hs,fun ho=>(k4 ho).sp hs⟩
theorem Bad.lt {X:Nat→Prop} {w:World} {g i:Nat} (h:Bad X w g i):g<w.heap.size:=by
 obtain⟨_,_,y,hc,_⟩:=h;exact World.block_lt_of_cell? w _ hc
theorem zMg {X:Nat→Prop} {w:World} {B:Nat} {e:TypeId} {sz n:Nat} {v:Value} {xs:List Value} (h:w.ownsRow B e sz v n xs) (hX:∀k,v.ownBlock=some k→X k) (hsz:0<sz) (hx:∀i,i<n→∃y,xs[i * sz]? = some y∧∀a m c,y≠.slice a m c):WR X w sz v:=by
 rcases h.2 with ⟨rfl,hn⟩ | ⟨g,cap,cur,rfl,hg,hh,hc1,hc2,_,_⟩
 ·exact⟨none,0,0,rfl,Nat.le_refl _,Nat.zero_le _,fun i hi=>by omega⟩
 ·refine⟨_,n,cap,rfl,hc1,hc2,fun i hi=>⟨g,rfl,hX g rfl,h.frozenAt _,?_⟩⟩
  obtain⟨y,h1,h2⟩:=hx i hi;have hin:i * sz<n * sz:=(Nat.mul_lt_mul_right hsz).2 hi;exact⟨y,by rw[h.cellAt _ hin];exact h1,h2⟩
theorem zOg {X:Nat→Prop} {w:World} {B:Nat} {e:TypeId} {sz off sz2 n:Nat} {v:Value} {xs:List Value} (h:w.ownsRow B e sz v n xs) (hX:∀k,v.ownBlock=some k→X k) (ho:off<sz) (hx:∀i,i<n→∃ax nx cx,xs[i * sz+off]? = some (.slice ax nx cx)∧WR X w sz2 (.slice ax nx cx)∧(0<off→∃y,xs[i * sz]? = some y∧∀a m c,y≠.slice a m c)):NRw X w sz off sz2 v:=by
 rcases h.2 with ⟨rfl,hn⟩ | ⟨g,cap,cur,rfl,hg,hh,hc1,hc2,_,_⟩
 ·exact⟨none,0,0,rfl,Nat.le_refl _,Nat.zero_le _,fun i hi=>by omega⟩
 ·refine⟨_,n,cap,rfl,hc1,hc2,fun i hi=>?_⟩
  obtain⟨ax,nx,cx,h1,h2,h3⟩:=hx i hi;have hin:i * sz+off<n * sz:=by
   have:=Nat.mul_le_mul_right sz (show i+1≤n from hi)
   rw[Nat.add_mul] at this;omega
  refine⟨g,ax,nx,cx,rfl,by rw[h.cellAt _ hin];exact h1,h2,fun h0=>⟨hX g rfl,h.frozenAt _,?_⟩⟩
  obtain⟨y,k1,k2⟩:=h3 h0;exact⟨y,by rw[h.cellAt _ (by omega)];exact k1,k2⟩
theorem zBq (X:Nat→Prop) (v:Value) (w:World) (h:WR X w 1 v) :
 Calls Tryz.prog 33 #[v] w fun e w'=>e=.returned (.tuple #[])∧Sp X w w':=by
 have H:Hid (WR X w 1 v):=h;obtain⟨a,n,c,rfl,hc1,hc2,_⟩:=h;unfold maxLen at hc2;go_enter Tryz.func33,Tryz.ntmps33
 go_wp2_with fail
 go_loopw [2] (fun i wr=>∃k:Nat,k≤n∧i=.int .i64 k∧Hid (Sp X w wr)) (fun i _=>n - (intOf i).toNat)
 case atStart=>exact⟨0,by omega,rfl,Sp.refl _ _⟩
 case round =>
  obtain⟨k,hk,rfl,hsp⟩:=hrel;have HSP:Hid (Sp X w wr):=hsp;by_cases hlt:k<n
  ·obtain⟨_,_,_,he,_,_,hr⟩:=H.out.sp HSP.out
   cases he
   obtain⟨g,hae,hbad⟩:=hr k hlt;subst hae;have hgl:=hbad.lt;obtain⟨_,hfz,y,hy,_⟩:=id hbad;have HS2:Hid (Sp X w (wr.setCell ⟨g,k * 1,none⟩ (.int .i64 (-777)))):=HSP.out.trans (hbad.set _ (fun a n c he=>by cases he))
   clear hsp hr hbad
   try simp only[Nat.mul_one] at hy hfz HS2
   go_wp2
   go_roundw
   case rel=>exact⟨k+1,by omega,by go_num,HS2⟩
   case measure=>simp[intOf];omega
  ·clear hsp
   go_wp2
   go_end0
   exact⟨rfl,HSP.out⟩
theorem zHH (X:Nat→Prop) (v:Value) (w:World) (h:WR X w 3 v) :
 Calls Tryz.prog 79 #[v] w fun e w'=>e=.returned (.tuple #[])∧Sp X w w':=by
 have H:Hid (WR X w 3 v):=h;obtain⟨a,n,c,rfl,hc1,hc2,_⟩:=h;unfold maxLen at hc2;go_enter Tryz.func79,Tryz.ntmps79
 go_wp2_with fail
 go_loopw [2] (fun i wr=>∃k:Nat,k≤n∧i=.int .i64 k∧Hid (Sp X w wr)) (fun i _=>n - (intOf i).toNat)
 case atStart=>exact⟨0,by omega,rfl,Sp.refl _ _⟩
 case round =>
  obtain⟨k,hk,rfl,hsp⟩:=hrel;have HSP:Hid (Sp X w wr):=hsp;by_cases hlt:k<n
  ·obtain⟨_,_,_,he,_,_,hr⟩:=H.out.sp HSP.out
   cases he
   obtain⟨g,hae,hbad⟩:=hr k hlt;subst hae;have hgl:=hbad.lt;obtain⟨_,hfz,y,hy,_⟩:=id hbad;have HS2:Hid (Sp X w (wr.setCell ⟨g,k * 3,none⟩ (.int .i64 (-7)))):=HSP.out.trans (hbad.set _ (fun a n c he=>by cases he))
   clear hsp hr hbad
   try simp only[Nat.mul_one] at hy hfz HS2
   go_wp2
   go_roundw
   case rel=>exact⟨k+1,by omega,by go_num,HS2⟩
   case measure=>simp[intOf];omega
  ·clear hsp
   go_wp2
   go_end0
   exact⟨rfl,HSP.out⟩
theorem zE5 (X:Nat→Prop) (v:Value) (w:World) (h:NRw X w 3 2 3 v) :
 Calls Tryz.prog 34 #[v] w fun e w'=>e=.returned (.tuple #[])∧Sp X w w':=by
 have H:Hid (NRw X w 3 2 3 v):=h;obtain⟨a,n,c,rfl,hc1,hc2,_⟩:=h;unfold maxLen at hc2;go_enter Tryz.func34,Tryz.ntmps34
 go_wp2_with fail
 go_loopw [2] (fun i wr=>∃k:Nat,k≤n∧i=.int .i64 k∧Hid (Sp X w wr)) (fun i _=>n - (intOf i).toNat)
 case atStart=>exact⟨0,by omega,rfl,Sp.refl _ _⟩
 case round =>
  obtain⟨k,hk,rfl,hsp⟩:=hrel;have HSP:Hid (Sp X w wr):=hsp;by_cases hlt:k<n
  ·obtain⟨_,_,_,he,_,_,hr⟩:=H.out.sp HSP.out
   cases he
   obtain⟨g,ax,nx,cx,hae,hcl,hwr,_⟩:=hr k hlt;subst hae;have HWR:Hid (WR X wr 3 (.slice ax nx cx)):=hwr;have hgl:=World.block_lt_of_cell? _ _ hcl;clear hsp hwr hr;go_wp2_with fail
   refine (zHH X _ _ HWR.out).mono ?_;rintro e w2 ⟨rfl,hs2⟩;have HS2:Hid (Sp X w w2):=HSP.out.trans hs2;clear hs2 hcl hgl;obtain⟨_,_,_,he,_,_,hr⟩:=H.out.sp HS2.out;cases he
   obtain⟨_,_,_,_,hae,_,_,hb0⟩:=hr k hlt;cases hae
   have hbad:=hb0 (by decide)
   have hgl:=hbad.lt;obtain⟨_,hfz,y,hy,_⟩:=id hbad;have HS3:Hid (Sp X w (w2.setCell ⟨g,k * 3,none⟩ (.int .i64 (-7)))):=HS2.out.trans (hbad.set _ (fun a n c he=>by cases he))
   clear hr hbad hb0;go_wp2
   go_roundw
   case rel=>exact⟨k+1,by omega,by go_num,HS3⟩
   case measure=>simp[intOf];omega
  ·clear hsp
   go_wp2
   go_end0
   exact⟨rfl,HSP.out⟩
end Go.Proofs.YtndcpnlaadikoaaGreatDoor
