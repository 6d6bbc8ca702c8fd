/- What the proof leans on, part 2. -/
import Derived.Test.YtdjbejlbmaiocagGreatDoorPartAa
import Derived.Deep.QuietTactic
import Derived.BigQuiet
set_option maxRecDepth 100000
set_option maxHeartbeats 400000
namespace Go.Proofs.YtdjbejlbmaiocagGreatDoor
open Go.RowKit
theorem zDI (s:ByteArray) (j n kd:Nat) (hk:zAo s.data.toList j=kd) (h0:kd≠0) (hn:zA8 s.data.toList j=j+n):zAj s j=⟨kd,j,s.extract j (j+n)⟩:=by
 unfold zAj;rw[if_neg (by rw[hk];exact h0),hk,hn]
theorem zDW (l:List Tok) (t:Tok):zAr (l++[t])=zAr l++zBH t:=by simp[zAr]
theorem zKr (t:ByteArray) (h:12<t.size):zBE 1 t=2:=by unfold zBE;rw[if_pos rfl,if_pos h]
theorem zPX (t:ByteArray) (h:¬12<t.size):zBE 1 t=0:=by unfold zBE;rw[if_pos rfl,if_neg h]
theorem zKs (t:ByteArray) (h:4<t.size):zBE 2 t=2:=by unfold zBE;rw[if_neg (by decide),if_pos rfl,if_pos h]
theorem zHo (t:ByteArray) (h:¬4<t.size) (h1:1<t.size) (h2:((zBh t.data.toList 0).toNat:Int)=48):zBE 2 t=1:=by
 unfold zBE;rw[if_neg (by decide),if_pos rfl,if_neg h,if_pos ⟨h1,h2⟩]
theorem zKF (t:ByteArray) (h:¬4<t.size) (h1:1<t.size→((zBh t.data.toList 0).toNat:Int)≠48):zBE 2 t=0:=by
 unfold zBE;rw[if_neg (by decide),if_pos rfl,if_neg h,if_neg (fun h'=>h1 h'.1 h'.2)]
theorem zPY (t:ByteArray):zBE 3 t=0:=rfl
theorem zJK (l:List UInt8) (j:Nat):zAo l j=0∨zAo l j=1∨zAo l j=2∨zAo l j=3:=by
 unfold zAo;repeat' split
 all_goals omega
theorem zFc (s:ByteArray) (hs:s.size≤maxLen) (w:World) :
 Calls Tryz.prog 68 #[.string s] w fun e w'=>∃v,e=.returned (.tuple #[v,.int .i64 (zAO s).2.1,.int .i64 (zAO s).2.2]) ∧
  w'.ownsRow w.heap.size 158 3 v (zAO s).1.length (zAr (zAO s).1)∧Below w.heap.size w w':=by
 by_cases h:s.size≤4000
 ·exact zRf s h w
 ·unfold maxLen at hs
  have hR:zAO s=([],0,2):=by unfold zAO;rw[if_pos (by omega)]
  rw[hR];clear hR;go_enter Tryz.func68,Tryz.ntmps68
  go_wp2
  go_ret3
  exact⟨_,rfl,World.ownsRow_nil _ _ _ _,Below.refl _ _⟩
theorem zD0 (w:World) (a b:Nat):(w.drewN a).drewN b=w.drewN (a+b):=by
 unfold World.drewN;simp only[Nat.add_assoc]
def zT3 (w:World) (b off:Nat) (ts:List Tok):Prop :=
 ∀(i:Nat) (t:Tok),ts[i]? = some t→w.cell? ⟨b,off+i * 3,none⟩=some (.int .i64 t.kind)∧w.cell? ⟨b,off+i * 3+1,none⟩=some (.int .i64 t.place)∧w.cell? ⟨b,off+i * 3+2,none⟩=some (.string t.text)
def zKt (t:Tok):Bool :=
 ((zAO t.text).2.2==0)&&(((zAO t.text).1.length==1)&&(((zAO t.text).1.headD ⟨0,0,ByteArray.empty⟩).kind==t.kind&&((zAO t.text).1.headD ⟨0,0,ByteArray.empty⟩).text.toList==t.text.toList))
theorem zAB {w:World} {base:Nat} {e:TypeId} {size n:Nat} {v:Value} {xs:List Value} (h:w.ownsRow base e size v n xs):∃a cap,v=.slice a n cap:=by
 rcases h.2 with ⟨rfl,rfl⟩ | ⟨g,cap,cur,rfl,_⟩
 ·exact⟨_,_,rfl⟩
 ·exact⟨_,_,rfl⟩
theorem zMM {w:World} {base:Nat} {v:Value} {ts:List Tok} (h:w.ownsRow base 158 3 v ts.length (zAr ts)) (h0:ts≠[]) :
 ∃g cap,v=.slice (some ⟨g,0,none⟩) ts.length cap∧base≤g∧g<w.heap.size∧zT3 w g 0 ts:=by
 rcases h.2 with ⟨_,hn⟩ | ⟨g,cap,cur,hv,hg,hb,hrest⟩
 ·exact absurd (List.eq_nil_of_length_eq_zero hn) h0
 ·have hlt:g<w.heap.size:=(Array.getElem?_eq_some_iff.1 hb).1
  refine⟨g,cap,hv,hg,hlt,?_⟩;have hc:=h.cells (g:=g) (by rw[hv];rfl)
  intro i t ht;have key:∀j,j<3→(zAr ts)[i * 3+j]? = (zBH t)[j]? := by
   intro j hj;clear hc h hrest hb hv h0
   induction ts generalizing i with
   | nil=>simp at ht
   | cons a r ih =>
     cases i with
     | zero =>
       simp at ht;subst ht;simp only[zAr,List.flatMap_cons];rw[List.getElem?_append_left (by simp[zBH];omega)];simp
     | succ i =>
       simp only[zAr,List.flatMap_cons];rw[List.getElem?_append_right (by simp[zBH];omega)]
       have e1:(i+1) * 3+j - (zBH a).length=i * 3+j:=by simp[zBH];omega
       rw[e1];exact ih i (by simpa using ht)
  have hadd:∀j,(⟨g,0,none⟩:Addr).add j=⟨g,0+j,none⟩:=fun j=>by unfold Addr.add;split <;> simp_all
  refine⟨?_,?_,?_⟩
  ·have:=hc (i * 3+0) _ (by rw[key 0 (by omega)];rfl);rw[hadd] at this;exact this
  ·have:=hc (i * 3+1) _ (by rw[key 1 (by omega)];rfl);rw[hadd] at this;exact this
  ·have:=hc (i * 3+2) _ (by rw[key 2 (by omega)];rfl);rw[hadd] at this;exact this
theorem zI8 (l:List UInt8) (k:Nat) (hk:k<l.length) (h:zAo l k≠0):isB l[k]=false∧((l[k].toNat:Int)==37)=false:=by
 have hb:=zCM l k hk;have hb0:zBh (l.drop k) 0=l[k]:=by rw[←hb];unfold zBh;simp
 unfold zAo at h;rw[hb] at h;have hs:isL l[k]=true∨isD l[k]=true∨zEp (l.drop k)≠0:=by
  cases h1:isL l[k]
  ·cases h2:isD l[k]
   ·right;right;intro h3;simp[h1,h2,h3] at h
   ·right;left;rfl
  ·left;rfl
 have ne:∀n:Int,(n=32∨n=9∨n=10∨n=37)→(l[k].toNat:Int)≠n:=by
  intro n hn he;have e32:n≤37:=by omega
  rcases hs with h1 | h1 | h1
  ·simp only[isL,Bool.and_eq_true,decide_eq_true_eq] at h1;omega
  ·simp only[isD,Bool.and_eq_true,decide_eq_true_eq] at h1;omega
  ·unfold zEp at h1
   split at h1
   ·rename_i h2
    rw[List.drop_eq_getElem_cons hk] at h2;simp only[zHZ,Bool.or_eq_true,beq_iff_eq,List.take_succ_cons,List.cons.injEq] at h2;rcases h2 with h2 | h2 | h2 | h2 | h2 <;> (rw[h2.1] at he;simp at he;omega)
   ·split at h1
    ·rename_i h2
     rw[hb0] at h2;simp only[zE6,Bool.or_eq_true,beq_iff_eq] at h2;omega
    ·exact h1 rfl
 refine⟨?_,by simpa using ne 37 (by omega)⟩
 unfold isB;rw[show ((l[k].toNat:Int)==32)=false by simpa using ne 32 (by omega),show ((l[k].toNat:Int)==9)=false by simpa using ne 9 (by omega),show ((l[k].toNat:Int)==10)=false by simpa using ne 10 (by omega)]
 rfl
theorem zOK (f:Nat) (s:ByteArray):∀(k:Nat) (acc:List Tok),(zDE f s k acc).2.2=0→∃r,(zDE f s k acc).1=acc++r:=by
 induction f with
 | zero=>intro k acc _;exact⟨[],by simp[zDE]⟩
 | succ f ih =>
   intro k acc h;by_cases h1:zAS false s.data.toList k<s.size
   ·by_cases h2:zBE (zAj s (zAS false s.data.toList k)).kind (zAj s (zAS false s.data.toList k)).text=0
    ·rw[zB1 f s k _ acc rfl h1 h2] at h ⊢
     obtain⟨r,hr⟩:=ih _ _ h;exact⟨zAj s (zAS false s.data.toList k) :: r,by rw[hr];simp⟩
    ·rw[zCz f s k _ acc rfl h1 h2] at h;exact absurd h h2
   ·exact⟨[],by rw[zDy _ s k acc h1];simp⟩
def zE7 (kind:Int) (s:ByteArray):Bool :=
 decide (0<s.size)&&(decide (s.size≤4000)&&(decide (kind≠0)&&(decide ((zAo s.data.toList 0:Int)=kind)&&(decide (zA8 s.data.toList 0=s.size)&&decide (zBE kind s=0)))))
theorem zHp (kind:Int) (s:ByteArray):zE7 kind s=true↔0<s.size∧s.size≤4000∧kind≠0∧(zAo s.data.toList 0:Int)=kind∧zA8 s.data.toList 0=s.size∧zBE kind s=0:=by
 simp only[zE7,Bool.and_eq_true,decide_eq_true_eq]
theorem zKG (s:ByteArray):s.extract 0 s.size=s:=by
 apply ByteArray.ext;rw[ByteArray.data_extract];exact Array.extract_size
theorem zA5 (s:ByteArray):s.data.toList.length=s.size:=by simp
theorem zKH (kind:Int) (s:ByteArray) (h:zE7 kind s=true):zAO s=([⟨kind,0,s⟩],0,0):=by
 obtain⟨h0,h4,hk,hkind,hend,herr⟩:=(zHp kind s).1 h;have hl:0<s.data.toList.length:=by rw[zA5];exact h0
 have hkd:zAo s.data.toList 0≠0:=by intro h';rw[h'] at hkind;exact hk hkind.symm
 obtain⟨hb1,hb2⟩:=zI8 _ 0 hl hkd;have hsk:zAS false s.data.toList 0=0:=zFy _ 0 hl hb1 hb2;have ht:zAj s 0=⟨kind,0,s⟩:=by
  unfold zAj;rw[if_neg hkd,hend,hkind,zKG];rfl
 have he:zBE (zAj s 0).kind (zAj s 0).text=0:=by rw[ht];exact herr
 unfold zAO;rw[if_neg (by omega),zB1 _ s 0 0 [] hsk h0 he,hend,ht]
 rw[zDy _ s s.size _ (by rw[zGp _ _ _ (by rw[zA5];omega)];omega)]
 simp
theorem zPZ (t:Tok):zKt t=zE7 t.kind t.text:=by
 cases hi:zE7 t.kind t.text
 ·cases ha:zKt t
  ·rfl
  ·exfalso
   simp only[zKt,Bool.and_eq_true,beq_iff_eq] at ha;obtain⟨h1,h2,h3,h4⟩:=ha;have h4':((zAO t.text).1.headD ⟨0,0,ByteArray.empty⟩).text=t.text:=by
    rw[ByteArray.toList_eq,ByteArray.toList_eq] at h4;exact ByteArray.ext (Array.toList_inj.1 h4)
   generalize hs:t.text=s at *;by_cases hbig:4000<s.size
   ·unfold zAO at h1;rw[if_pos hbig] at h1;exact absurd h1 (by decide)
   ·unfold zAO at h1 h2 h3 h4'
    rw[if_neg hbig] at h1 h2 h3 h4';by_cases hsk:zAS false s.data.toList 0<s.size
    ·by_cases he:zBE (zAj s (zAS false s.data.toList 0)).kind (zAj s (zAS false s.data.toList 0)).text=0
     ·rw[zB1 _ s 0 _ [] rfl hsk he] at h1 h2 h3 h4'
      obtain⟨r,hr⟩:=zOK _ s _ _ h1;rw[hr] at h3 h4';simp only[List.nil_append,List.cons_append,List.headD_cons] at h3 h4';have hkd:=zEX s _ he;have hl:zAS false s.data.toList 0<s.data.toList.length:=by rw[zA5];exact hsk
      have hle:=(zFb _ _ hl).2;rw[zA5] at hle;have hsz:(zAj s (zAS false s.data.toList 0)).text.size=zA8 s.data.toList (zAS false s.data.toList 0) - zAS false s.data.toList 0:=by
       unfold zAj;rw[if_neg hkd];exact zAx _ _ _ hle
      rw[h4'] at hsz;have hz:zAS false s.data.toList 0=0:=by omega
      rw[hz] at hsz h3 h4' he hkd;have hk3:(zAo s.data.toList 0:Int)=t.kind:=by rw[←h3];unfold zAj;rw[if_neg hkd]
      have:zE7 t.kind s=true:=(zHp _ _).2 ⟨by omega,by omega,by rw[←hk3];omega,hk3,by omega,by rw[h3,h4'] at he;exact he⟩
      rw[this] at hi;cases hi
     ·rw[zCz _ s 0 _ [] rfl hsk he] at h1;exact he h1
    ·rw[zDy _ s 0 [] hsk] at h2;simp at h2
 ·have h1:=zKH _ _ hi
  unfold zKt;rw[h1];simp
structure MVar where
 name:ByteArray
 lo:Int
 hi:Int
structure MLit where
 var:Int
 op:Int
 n:Int
structure MCon where
 kind:Int
 vars:List Int
 consts:List Int
 n:Int
 rows:List (List Int)
 lits:List MLit
structure Mod where
 vars:List MVar
 cons:List MCon
 goal:Int
 var:Int
def zD1 (s:ByteArray):Bool :=
 (s.toList==[118,97,114]) || ((s.toList==[99,111,110]) || ((s.toList==[115,111,108,118,101]) || ((s.toList==[108,101]) || ((s.toList==[101,113]) || ((s.toList==[110,101]) || ((s.toList==[100,105,102,102,101,114]) || ((s.toList==[101,108,101,109,101,110,116]) || ((s.toList==[116,97,98,108,101]) || ((s.toList==[116,105,109,101,115]) || ((s.toList==[109,97,120]) || ((s.toList==[99,108,97,117,115,101]) || ((s.toList==[105,102,102]) || ((s.toList==[97,110,121]) || ((s.toList==[108,101,97,115,116]) || (s.toList==[109,111,115,116])))))))))))))))
def zAb (s:ByteArray):Bool:=zE7 1 s&&!zD1 s
def inB (n most:Int):Bool:=decide (-most≤n)&&decide (n≤most)
def zBA (v n:Int):Bool:=decide (0≤v)&&decide (v<n)
def zAJ (n:Int):Bool:=inB n 1000
def varE (vs:List MVar) (v:MVar):Int :=
 if zAb v.name then
  if vs.any (fun u=>u.name.toList==v.name.toList) then 6
  else if inB v.lo 50&&(inB v.hi 50&&!decide (v.hi<v.lo)) then (if 6<v.hi - v.lo+1 then 2 else 0) else 3
 else 1
def zAQ:List Int→Int
 | []=>0
 | e :: r=>if e=0 then zAQ r else e
def zKu (vs:List MVar):Int:=zAQ ((List.range vs.length).map fun i=>varE (vs.take i) (vs.getD i ⟨ByteArray.empty,0,0⟩))
def zE8 (c:MCon):Bool:=decide (4<c.vars.length) || (decide (4<c.lits.length) || (decide (8<c.consts.length) || decide (20<c.rows.length)))
def zDl (c:MCon):Bool :=
 if c.kind=1∨c.kind=2∨c.kind=3 then decide (1≤c.vars.length)&&(decide (c.consts.length=c.vars.length)&&decide (c.rows.length+c.lits.length=0))
 else if c.n≠0 then false
 else if c.kind=4 then decide (1≤c.vars.length)&&decide (c.consts.length+c.rows.length+c.lits.length=0)
 else if c.kind=5 then decide (c.vars.length=2)&&(decide (1≤c.consts.length)&&decide (c.rows.length+c.lits.length=0))
 else if c.kind=6 then decide (1≤c.vars.length)&&(decide (c.consts.length+c.lits.length=0)&&c.rows.all fun r=>decide (r.length=c.vars.length))
 else if c.kind=7 then decide (c.vars.length=3)&&decide (c.consts.length+c.rows.length+c.lits.length=0)
 else if c.kind=8 then decide (2≤c.vars.length)&&decide (c.consts.length+c.rows.length+c.lits.length=0)
 else if c.kind=9 then decide (c.vars.length+c.consts.length+c.rows.length=0)
 else if c.kind=10 then decide (c.vars.length=1)&&(decide (c.lits.length=1)&&decide (c.consts.length+c.rows.length=0))
 else false
def zE9 (c:MCon) (n:Int):Bool:=c.vars.all (fun v=>zBA v n)&&c.lits.all (fun l=>zBA l.var n)
def zBq (c:MCon):Bool:=c.consts.all zAJ&&(zAJ c.n&&c.rows.all fun r=>r.all zAJ)
def zMN (ls:List MLit):Int :=
 if ls.all (fun l=>decide (1≤l.op)&&decide (l.op≤4)) then (if ls.all (fun l=>zAJ l.n) then 0 else 3) else 7
def conE (n:Int) (c:MCon):Int :=
 if 1≤c.kind∧c.kind≤10 then (if zE8 c then 2 else if zDl c then (if zE9 c n then (if zBq c then zMN c.lits else 3) else 5) else 1) else 7
def zRg (m:Mod):Int:=zAQ (m.cons.map (conE m.vars.length))
def zHa (m:Mod):Int :=
 if m.goal=0 then (if m.var=0 then 0 else 1) else if m.goal=1∨m.goal=2 then (if zBA m.var m.vars.length then 0 else 5) else 7
def zAF (m:Mod):Int :=
 if m.vars.length=0 then 1 else if 6<m.vars.length∨8<m.cons.length then 2
 else if zKu m.vars=0 then (if zRg m=0 then zHa m else zRg m) else zKu m.vars
theorem zGJ (a b:List Int):zAQ (a++b)=if zAQ a=0 then zAQ b else zAQ a:=by
 induction a with
 | nil=>simp[zAQ]
 | cons e r ih =>
   simp only[List.cons_append,zAQ];by_cases h:e=0
   ·simp only[h,if_true];exact ih
   ·simp only[h,if_false]
theorem zB2 (l:List Int) (k:Nat) (e:Int) (h0:zAQ (l.take k)=0) (hk:l[k]? = some e) (he:e≠0):zAQ l=e:=by
 have hs:l=l.take k++l.drop k:=(List.take_append_drop k l).symm;rw[hs,zGJ,if_pos h0];have hlt:=(List.getElem?_eq_some_iff.1 hk).1;rw[List.drop_eq_getElem_cons hlt];have:l[k]=e:=by rw[List.getElem?_eq_getElem hlt] at hk;exact Option.some.inj hk
 rw[this,zAQ,if_neg he]
theorem zCB (l:List Int) (k:Nat) (h0:zAQ (l.take k)=0) (hk:l[k]? = some 0):zAQ (l.take (k+1))=0:=by
 rw[List.take_add_one,hk,zGJ,if_pos h0];rfl
theorem zDJ (l:List Int) (h:zAQ l=0):∀e∈l,e=0:=by
 induction l with
 | nil=>intro e he;cases he
 | cons a r ih =>
   unfold zAQ at h;by_cases h0:a=0
   ·rw[if_pos h0] at h
    intro e he;rcases List.mem_cons.1 he with rfl | he
    ·exact h0
    ·exact ih h e he
   ·rw[if_neg h0] at h;exact absurd h h0
theorem zA9 (m:Mod) (h:zAF m=0):1≤m.vars.length∧m.vars.length≤6∧m.cons.length≤8∧zKu m.vars=0∧zRg m=0∧zHa m=0:=by
 unfold zAF at h;by_cases h0:m.vars.length=0
 ·rw[if_pos h0] at h;cases h
 ·rw[if_neg h0] at h
  by_cases h1:6<m.vars.length∨8<m.cons.length
  ·rw[if_pos h1] at h;cases h
  ·rw[if_neg h1] at h
   by_cases h2:zKu m.vars=0
   ·rw[if_pos h2] at h
    by_cases h3:zRg m=0
    ·rw[if_pos h3] at h;exact⟨by omega,by omega,by omega,h2,h3,h⟩
    ·rw[if_neg h3] at h;exact absurd h h3
   ·rw[if_neg h2] at h;exact absurd h h2
theorem zTH (vs:List MVar) (v:MVar) (h:varE vs v=0):-50≤v.lo∧v.hi≤50∧v.lo≤v.hi∧v.hi - v.lo+1≤6:=by
 unfold varE at h
 split at h
 ·split at h
  ·cases h
  ·split at h
   ·rename_i h1
    simp only[inB,Bool.and_eq_true,decide_eq_true_eq,Bool.not_eq_true',decide_eq_false_iff_not] at h1
    split at h
    ·cases h
    ·omega
   ·cases h
 ·cases h
theorem zKv (m:Mod) (h:zAF m=0) (i:Nat) (v:MVar) (hv:m.vars[i]? = some v):-50≤v.lo∧v.hi≤50∧v.lo≤v.hi∧v.hi - v.lo+1≤6:=by
 have h1:=(zA9 m h).2.2.2.1;have h2:=zDJ _ h1 (varE (m.vars.take i) v) (by
  have hi:i<m.vars.length:=(List.getElem?_eq_some_iff.1 hv).1;refine List.mem_map.2 ⟨i,List.mem_range.2 hi,?_⟩;rw[List.getD_eq_getElem?_getD,hv];rfl)
 exact zTH _ _ h2
theorem zKw (m:Mod) (h:zAF m=0) (i:Nat) (c:MCon) (hc:m.cons[i]? = some c):conE m.vars.length c=0:=by
 have h1:=(zA9 m h).2.2.2.2.1;exact zDJ _ h1 _ (List.mem_map.2 ⟨c,List.mem_of_getElem? hc,rfl⟩)
def litV (x:Int) (l:MLit):Bool :=
 if l.op=1 then decide (x≤l.n) else if l.op=2 then decide (l.n≤x) else if l.op=3 then x==l.n else if l.op=4 then x != l.n else false
def IArg (w:World) (v:Value) (l:List Int):Prop :=
 ∃a c,v=.slice a l.length c∧(l.length≤c∧c≤maxLen)∧∀(i:Nat) (z:Int),l[i]? = some z→∃b off,a=some ⟨b,off,none⟩∧b<w.heap.size∧w.cell? ⟨b,off+i,none⟩=some (.int .i64 z)
def RArg (w:World) (v:Value) (l:List (List Int)):Prop :=
 ∃a c,v=.slice a l.length c∧(l.length≤c∧c≤maxLen)∧∀(i:Nat) (r:List Int),l[i]? = some r→∃b off x,a=some ⟨b,off,none⟩∧b<w.heap.size∧w.cell? ⟨b,off+i,none⟩=some x∧IArg w x r
def LArg (w:World) (v:Value) (l:List MLit):Prop :=
 ∃a c,v=.slice a l.length c∧(l.length≤c∧c≤maxLen)∧∀(i:Nat) (t:MLit),l[i]? = some t→∃b off,a=some ⟨b,off,none⟩∧b<w.heap.size ∧
  w.cell? ⟨b,off+i * 3,none⟩=some (.int .i64 t.var)∧w.cell? ⟨b,off+i * 3+1,none⟩=some (.int .i64 t.op)∧w.cell? ⟨b,off+i * 3+2,none⟩=some (.int .i64 t.n)
def VArg (w:World) (v:Value) (l:List MVar):Prop :=
 ∃a c,v=.slice a l.length c∧(l.length≤c∧c≤maxLen)∧∀(i:Nat) (t:MVar),l[i]? = some t→t.name.size≤maxLen∧∃b off,a=some ⟨b,off,none⟩∧b<w.heap.size ∧
  w.cell? ⟨b,off+i * 3,none⟩=some (.string t.name)∧w.cell? ⟨b,off+i * 3+1,none⟩=some (.int .i64 t.lo)∧w.cell? ⟨b,off+i * 3+2,none⟩=some (.int .i64 t.hi)
def KArg (w:World) (vv vc vr vl:Value) (c:MCon):Prop:=IArg w vv c.vars∧IArg w vc c.consts∧RArg w vr c.rows∧LArg w vl c.lits
def conV (vv vc vr vl:Value) (c:MCon):Value:=.agg #[.int .i64 c.kind,vv,vc,.int .i64 c.n,vr,vl]
def CArg (w:World) (v:Value) (l:List MCon):Prop :=
 ∃a c,v=.slice a l.length c∧(l.length≤c∧c≤maxLen)∧∀(i:Nat) (t:MCon),l[i]? = some t→∃b off vv vc vr vl,a=some ⟨b,off,none⟩∧b<w.heap.size ∧
  w.cell? ⟨b,off+i * 6,none⟩=some (.int .i64 t.kind)∧w.cell? ⟨b,off+i * 6+1,none⟩=some vv∧w.cell? ⟨b,off+i * 6+2,none⟩=some vc ∧
  w.cell? ⟨b,off+i * 6+3,none⟩=some (.int .i64 t.n)∧w.cell? ⟨b,off+i * 6+4,none⟩=some vr∧w.cell? ⟨b,off+i * 6+5,none⟩=some vl∧KArg w vv vc vr vl t
def MArg (w:World) (vs cs:Value) (m:Mod):Prop:=VArg w vs m.vars∧CArg w cs m.cons
def modV (vs cs:Value) (m:Mod):Value:=.agg #[vs,cs,.int .i64 m.goal,.int .i64 m.var]
section
variable {w w':World} (hb:Below w.heap.size w w')
theorem IArg.below {v:Value} {l:List Int} (hb:Below w.heap.size w w') (h:IArg w v l):IArg w' v l:=by
 obtain⟨a,c,hv,hm,hr⟩:=h;refine⟨a,c,hv,hm,fun i z hz=>?_⟩
 obtain⟨b,off,ha,hlt,hc⟩:=hr i z hz;exact⟨b,off,ha,Nat.lt_of_lt_of_le hlt hb.size,(hb.cell (p:=⟨b,off+i,none⟩) hlt).trans hc⟩
theorem RArg.below {v:Value} {l:List (List Int)} (hb:Below w.heap.size w w') (h:RArg w v l):RArg w' v l:=by
 obtain⟨a,c,hv,hm,hr⟩:=h;refine⟨a,c,hv,hm,fun i z hz=>?_⟩
 obtain⟨b,off,x,ha,hlt,hc,hx⟩:=hr i z hz;exact⟨b,off,x,ha,Nat.lt_of_lt_of_le hlt hb.size,(hb.cell (p:=⟨b,off+i,none⟩) hlt).trans hc,IArg.below hb hx⟩
theorem LArg.below {v:Value} {l:List MLit} (hb:Below w.heap.size w w') (h:LArg w v l):LArg w' v l:=by
 obtain⟨a,c,hv,hm,hr⟩:=h;refine⟨a,c,hv,hm,fun i z hz=>?_⟩
 obtain⟨b,off,ha,hlt,c0,c1,c2⟩:=hr i z hz;exact⟨b,off,ha,Nat.lt_of_lt_of_le hlt hb.size,(hb.cell (p:=⟨b,off+i * 3,none⟩) hlt).trans c0,(hb.cell (p:=⟨b,off+i * 3+1,none⟩) hlt).trans c1,(hb.cell (p:=⟨b,off+i * 3+2,none⟩) hlt).trans c2⟩
theorem VArg.below {v:Value} {l:List MVar} (hb:Below w.heap.size w w') (h:VArg w v l):VArg w' v l:=by
 obtain⟨a,c,hv,hm,hr⟩:=h;refine⟨a,c,hv,hm,fun i z hz=>?_⟩
 obtain⟨hs,b,off,ha,hlt,c0,c1,c2⟩:=hr i z hz;exact⟨hs,b,off,ha,Nat.lt_of_lt_of_le hlt hb.size,(hb.cell (p:=⟨b,off+i * 3,none⟩) hlt).trans c0,(hb.cell (p:=⟨b,off+i * 3+1,none⟩) hlt).trans c1,(hb.cell (p:=⟨b,off+i * 3+2,none⟩) hlt).trans c2⟩
theorem KArg.below {vv vc vr vl:Value} {c:MCon} (hb:Below w.heap.size w w') (h:KArg w vv vc vr vl c):KArg w' vv vc vr vl c :=
 ⟨IArg.below hb h.1,IArg.below hb h.2.1,RArg.below hb h.2.2.1,LArg.below hb h.2.2.2⟩
theorem CArg.below {v:Value} {l:List MCon} (hb:Below w.heap.size w w') (h:CArg w v l):CArg w' v l:=by
 obtain⟨a,c,hv,hm,hr⟩:=h;refine⟨a,c,hv,hm,fun i z hz=>?_⟩
 obtain⟨b,off,vv,vc,vr,vl,ha,hlt,c0,c1,c2,c3,c4,c5,hk⟩:=hr i z hz;exact⟨b,off,vv,vc,vr,vl,ha,Nat.lt_of_lt_of_le hlt hb.size,(hb.cell (p:=⟨b,off+i * 6,none⟩) hlt).trans c0,(hb.cell (p:=⟨b,off+i * 6+1,none⟩) hlt).trans c1,(hb.cell (p:=⟨b,off+i * 6+2,none⟩) hlt).trans c2,
  (hb.cell (p:=⟨b,off+i * 6+3,none⟩) hlt).trans c3,(hb.cell (p:=⟨b,off+i * 6+4,none⟩) hlt).trans c4,(hb.cell (p:=⟨b,off+i * 6+5,none⟩) hlt).trans c5,KArg.below hb hk⟩
theorem MArg.below {vs cs:Value} {m:Mod} (hb:Below w.heap.size w w') (h:MArg w vs cs m):MArg w' vs cs m:=⟨VArg.below hb h.1,CArg.below hb h.2⟩
end
theorem zAA (w:World) (o:Obj):Below w.heap.size w (w.alloc o):=(Below.refl _ _).alloc (Nat.le_refl _) o
end Go.Proofs.YtdjbejlbmaiocagGreatDoor
