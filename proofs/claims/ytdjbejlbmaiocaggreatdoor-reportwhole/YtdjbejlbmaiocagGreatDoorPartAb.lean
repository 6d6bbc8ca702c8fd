/- What the proof leans on, part 2. -/
import Derived.Test.YtdjbejlbmaiocagGreatDoorPartAa
import Derived.Deep.QuietTactic
import Derived.BigQuiet
namespace Go.Proofs.YtdjbejlbmaiocagGreatDoor
open Go.RowKit
set_option maxHeartbeats 400000 in
set_option maxRecDepth 100000 in
theorem zFD (s:ByteArray) (hs:s.size≤maxLen) (w:World) :
 Calls Tryz.prog 68 #[.string s] w fun e w'=>∃v,e=.returned (.tuple #[v,.int .i64 (zAr s).2.1,.int .i64 (zAr s).2.2]) ∧
  w'.ownsRow w.heap.size 158 3 v (zAr s).1.length (zBa (zAr s).1)∧Below w.heap.size w w':=by
 by_cases h:s.size≤4000
 ·exact zRI s h w
 ·unfold maxLen at hs
  have hR:zAr s=([],0,2):=by unfold zAr;rw[if_pos (by omega)]
  rw[hR]
  clear hR
  go_enter Tryz.func68,Tryz.ntmps68
  go_wp2
  go_ret3
  exact⟨_,rfl,World.ownsRow_nil _ _ _ _,Below.refl _ _⟩
theorem zCN (w:World) (a b:Nat):(w.drewN a).drewN b=w.drewN (a+b):=by
 unfold World.drewN;simp only[Nat.add_assoc]
def zTX (w:World) (b off:Nat) (ts:List Tok):Prop :=
 ∀(i:Nat) (t:Tok),ts[i]? = some t→w.cell? ⟨b,off+i * 3,none⟩=some (.int .i64 t.kind)∧w.cell? ⟨b,off+i * 3+1,none⟩=some (.int .i64 t.place)∧w.cell? ⟨b,off+i * 3+2,none⟩=some (.string t.text)
def zKa (t:Tok):Bool :=
 ((zAr t.text).2.2==0)&&(((zAr t.text).1.length==1)&&(((zAr t.text).1.headD ⟨0,0,ByteArray.empty⟩).kind==t.kind&&((zAr t.text).1.headD ⟨0,0,ByteArray.empty⟩).text.toList==t.text.toList))
theorem zAB {w:World} {base:Nat} {e:TypeId} {size n:Nat} {v:Value} {xs:List Value} (h:w.ownsRow base e size v n xs):∃a cap,v=.slice a n cap:=by
 rcases h.2 with ⟨rfl,rfl⟩ | ⟨g,cap,cur,rfl,_⟩
 ·exact⟨_,_,rfl⟩
 ·exact⟨_,_,rfl⟩
theorem zL0 {w:World} {base:Nat} {v:Value} {ts:List Tok} (h:w.ownsRow base 158 3 v ts.length (zBa ts)) (h0:ts≠[]) :
 ∃g cap,v=.slice (some ⟨g,0,none⟩) ts.length cap∧base≤g∧g<w.heap.size∧zTX w g 0 ts:=by
 rcases h.2 with ⟨_,hn⟩ | ⟨g,cap,cur,hv,hg,hb,hrest⟩
 ·exact absurd (List.eq_nil_of_length_eq_zero hn) h0
 ·have hlt:g<w.heap.size:=(Array.getElem?_eq_some_iff.1 hb).1
  refine⟨g,cap,hv,hg,hlt,?_⟩
  have hc:=h.cells (g:=g) (by rw[hv];rfl)
  intro i t ht
  have key:∀j,j<3→(zBa ts)[i * 3+j]? = (zBk t)[j]? := by
   intro j hj
   clear hc h hrest hb hv h0
   induction ts generalizing i with
   | nil=>simp at ht
   | cons a r ih =>
     cases i with
     | zero =>
       simp at ht;subst ht
       simp only[zBa,List.flatMap_cons]
       rw[List.getElem?_append_left (by simp[zBk];omega)];simp
     | succ i =>
       simp only[zBa,List.flatMap_cons]
       rw[List.getElem?_append_right (by simp[zBk];omega)]
       have e1:(i+1) * 3+j - (zBk a).length=i * 3+j:=by simp[zBk];omega
       rw[e1]
       exact ih i (by simpa using ht)
  have hadd:∀j,(⟨g,0,none⟩:Addr).add j=⟨g,0+j,none⟩:=fun j=>by unfold Addr.add;split <;> simp_all
  refine⟨?_,?_,?_⟩
  ·have:=hc (i * 3+0) _ (by rw[key 0 (by omega)];rfl);rw[hadd] at this;exact this
  ·have:=hc (i * 3+1) _ (by rw[key 1 (by omega)];rfl);rw[hadd] at this;exact this
  ·have:=hc (i * 3+2) _ (by rw[key 2 (by omega)];rfl);rw[hadd] at this;exact this
theorem zFT (l:List UInt8) (k:Nat) (hk:k<l.length) (h:zBE l k≠0):isB l[k]=false∧((l[k].toNat:Int)==37)=false:=by
 have hb:=zD0 l k hk
 have hb0:zBt (l.drop k) 0=l[k]:=by rw[←hb];unfold zBt;simp
 unfold zBE at h
 rw[hb] at h
 have hs:isL l[k]=true∨isD l[k]=true∨zDu (l.drop k)≠0:=by
  cases h1:isL l[k]
  ·cases h2:isD l[k]
   ·right;right;intro h3;simp[h1,h2,h3] at h
   ·right;left;rfl
  ·left;rfl
 have ne:∀n:Int,(n=32∨n=9∨n=10∨n=37)→(l[k].toNat:Int)≠n:=by
  intro n hn he
  have e32:n≤37:=by omega
  rcases hs with h1 | h1 | h1
  ·simp only[isL,Bool.and_eq_true,decide_eq_true_eq] at h1;omega
  ·simp only[isD,Bool.and_eq_true,decide_eq_true_eq] at h1;omega
  ·unfold zDu at h1
   split at h1
   ·rename_i h2
    rw[List.drop_eq_getElem_cons hk] at h2
    simp only[zFd,Bool.or_eq_true,beq_iff_eq,List.take_succ_cons,List.cons.injEq] at h2
    rcases h2 with h2 | h2 | h2 | h2 | h2 <;> (rw[h2.1] at he;simp at he;omega)
   ·split at h1
    ·rename_i h2
     rw[hb0] at h2
     simp only[zKW,Bool.or_eq_true,beq_iff_eq] at h2
     omega
    ·exact h1 rfl
 refine⟨?_,by simpa using ne 37 (by omega)⟩
 unfold isB
 rw[show ((l[k].toNat:Int)==32)=false by simpa using ne 32 (by omega),show ((l[k].toNat:Int)==9)=false by simpa using ne 9 (by omega),show ((l[k].toNat:Int)==10)=false by simpa using ne 10 (by omega)]
 rfl
theorem zN3 (f:Nat) (s:ByteArray):∀(k:Nat) (acc:List Tok),(zDQ f s k acc).2.2=0→∃r,(zDQ f s k acc).1=acc++r:=by
 induction f with
 | zero=>intro k acc _;exact⟨[],by simp[zDQ]⟩
 | succ f ih =>
   intro k acc h
   by_cases h1:zAU false s.data.toList k<s.size
   ·by_cases h2:zC3 (zA9 s (zAU false s.data.toList k)).kind (zA9 s (zAU false s.data.toList k)).text=0
    ·rw[zDL f s k _ acc rfl h1 h2] at h ⊢
     obtain⟨r,hr⟩:=ih _ _ h
     exact⟨zA9 s (zAU false s.data.toList k) :: r,by rw[hr];simp⟩
    ·rw[zFz f s k _ acc rfl h1 h2] at h;exact absurd h h2
   ·exact⟨[],by rw[zD1 _ s k acc h1];simp⟩
def zEj (kind:Int) (s:ByteArray):Bool :=
 decide (0<s.size)&&(decide (s.size≤4000)&&(decide (kind≠0)&&(decide ((zBE s.data.toList 0:Int)=kind)&&(decide (zBq s.data.toList 0=s.size)&&decide (zC3 kind s=0)))))
theorem zDR (kind:Int) (s:ByteArray):zEj kind s=true↔0<s.size∧s.size≤4000∧kind≠0∧(zBE s.data.toList 0:Int)=kind∧zBq s.data.toList 0=s.size∧zC3 kind s=0:=by
 simp only[zEj,Bool.and_eq_true,decide_eq_true_eq]
theorem zJv (s:ByteArray):s.extract 0 s.size=s:=by
 apply ByteArray.ext
 rw[ByteArray.data_extract];exact Array.extract_size
theorem zAX (s:ByteArray):s.data.toList.length=s.size:=by simp
theorem zJw (kind:Int) (s:ByteArray) (h:zEj kind s=true):zAr s=([⟨kind,0,s⟩],0,0):=by
 obtain⟨h0,h4,hk,hkind,hend,herr⟩:=(zDR kind s).1 h
 have hl:0<s.data.toList.length:=by rw[zAX];exact h0
 have hkd:zBE s.data.toList 0≠0:=by intro h';rw[h'] at hkind;exact hk hkind.symm
 obtain⟨hb1,hb2⟩:=zFT _ 0 hl hkd
 have hsk:zAU false s.data.toList 0=0:=zFc _ 0 hl hb1 hb2
 have ht:zA9 s 0=⟨kind,0,s⟩:=by
  unfold zA9;rw[if_neg hkd,hend,hkind,zJv];rfl
 have he:zC3 (zA9 s 0).kind (zA9 s 0).text=0:=by rw[ht];exact herr
 unfold zAr
 rw[if_neg (by omega),zDL _ s 0 0 [] hsk h0 he,hend,ht]
 rw[zD1 _ s s.size _ (by rw[zGc _ _ _ (by rw[zAX];omega)];omega)]
 simp
theorem zPM (t:Tok):zKa t=zEj t.kind t.text:=by
 cases hi:zEj t.kind t.text
 ·cases ha:zKa t
  ·rfl
  ·exfalso
   simp only[zKa,Bool.and_eq_true,beq_iff_eq] at ha
   obtain⟨h1,h2,h3,h4⟩:=ha
   have h4':((zAr t.text).1.headD ⟨0,0,ByteArray.empty⟩).text=t.text:=by
    rw[ByteArray.toList_eq,ByteArray.toList_eq] at h4
    exact ByteArray.ext (Array.toList_inj.1 h4)
   generalize hs:t.text=s at *
   by_cases hbig:4000<s.size
   ·unfold zAr at h1;rw[if_pos hbig] at h1;exact absurd h1 (by decide)
   ·unfold zAr at h1 h2 h3 h4'
    rw[if_neg hbig] at h1 h2 h3 h4'
    by_cases hsk:zAU false s.data.toList 0<s.size
    ·by_cases he:zC3 (zA9 s (zAU false s.data.toList 0)).kind (zA9 s (zAU false s.data.toList 0)).text=0
     ·rw[zDL _ s 0 _ [] rfl hsk he] at h1 h2 h3 h4'
      obtain⟨r,hr⟩:=zN3 _ s _ _ h1
      rw[hr] at h3 h4'
      simp only[List.nil_append,List.cons_append,List.headD_cons] at h3 h4'
      have hkd:=zFC s _ he
      have hl:zAU false s.data.toList 0<s.data.toList.length:=by rw[zAX];exact hsk
      have hle:=(zHI _ _ hl).2
      rw[zAX] at hle
      have hsz:(zA9 s (zAU false s.data.toList 0)).text.size=zBq s.data.toList (zAU false s.data.toList 0) - zAU false s.data.toList 0:=by
       unfold zA9;rw[if_neg hkd];exact zC4 _ _ _ hle
      rw[h4'] at hsz
      have hz:zAU false s.data.toList 0=0:=by omega
      rw[hz] at hsz h3 h4' he hkd
      have hk3:(zBE s.data.toList 0:Int)=t.kind:=by rw[←h3];unfold zA9;rw[if_neg hkd]
      have:zEj t.kind s=true:=(zDR _ _).2 ⟨by omega,by omega,by rw[←hk3];omega,hk3,by omega,by rw[h3,h4'] at he;exact he⟩
      rw[this] at hi;cases hi
     ·rw[zFz _ s 0 _ [] rfl hsk he] at h1;exact he h1
    ·rw[zD1 _ s 0 [] hsk] at h2;simp at h2
 ·have h1:=zJw _ _ hi
  unfold zKa
  rw[h1];simp
structure MVar where
 name:ByteArray
 lo:Int
 hi:Int
structure MLit where
 var:Int
 op:Int
 n:Int
structure MCon where
 kind:Int
 vars:List Int
 consts:List Int
 n:Int
 rows:List (List Int)
 lits:List MLit
structure Mod where
 vars:List MVar
 cons:List MCon
 goal:Int
 var:Int
def zHQ (s:ByteArray):Bool :=
 (s.toList==[118,97,114]) || ((s.toList==[99,111,110]) || ((s.toList==[115,111,108,118,101]) || ((s.toList==[108,101]) || ((s.toList==[101,113]) || ((s.toList==[110,101]) || ((s.toList==[100,105,102,102,101,114]) || ((s.toList==[101,108,101,109,101,110,116]) || ((s.toList==[116,97,98,108,101]) || ((s.toList==[116,105,109,101,115]) || ((s.toList==[109,97,120]) || ((s.toList==[99,108,97,117,115,101]) || ((s.toList==[105,102,102]) || ((s.toList==[97,110,121]) || ((s.toList==[108,101,97,115,116]) || (s.toList==[109,111,115,116])))))))))))))))
def zBO (s:ByteArray):Bool:=zEj 1 s&&!zHQ s
def inB (n most:Int):Bool:=decide (-most≤n)&&decide (n≤most)
def zBu (v n:Int):Bool:=decide (0≤v)&&decide (v<n)
def zAT (n:Int):Bool:=inB n 1000
def varE (vs:List MVar) (v:MVar):Int :=
 if zBO v.name then
  if vs.any (fun u=>u.name.toList==v.name.toList) then 6
  else if inB v.lo 50&&(inB v.hi 50&&!decide (v.hi<v.lo)) then (if 6<v.hi - v.lo+1 then 2 else 0) else 3
 else 1
def zAi:List Int→Int
 | []=>0
 | e :: r=>if e=0 then zAi r else e
def zPN (vs:List MVar):Int:=zAi ((List.range vs.length).map fun i=>varE (vs.take i) (vs.getD i ⟨ByteArray.empty,0,0⟩))
def zF0 (c:MCon):Bool:=decide (4<c.vars.length) || (decide (4<c.lits.length) || (decide (8<c.consts.length) || decide (20<c.rows.length)))
def zDS (c:MCon):Bool :=
 if c.kind=1∨c.kind=2∨c.kind=3 then decide (1≤c.vars.length)&&(decide (c.consts.length=c.vars.length)&&decide (c.rows.length+c.lits.length=0))
 else if c.n≠0 then false
 else if c.kind=4 then decide (1≤c.vars.length)&&decide (c.consts.length+c.rows.length+c.lits.length=0)
 else if c.kind=5 then decide (c.vars.length=2)&&(decide (1≤c.consts.length)&&decide (c.rows.length+c.lits.length=0))
 else if c.kind=6 then decide (1≤c.vars.length)&&(decide (c.consts.length+c.lits.length=0)&&c.rows.all fun r=>decide (r.length=c.vars.length))
 else if c.kind=7 then decide (c.vars.length=3)&&decide (c.consts.length+c.rows.length+c.lits.length=0)
 else if c.kind=8 then decide (2≤c.vars.length)&&decide (c.consts.length+c.rows.length+c.lits.length=0)
 else if c.kind=9 then decide (c.vars.length+c.consts.length+c.rows.length=0)
 else if c.kind=10 then decide (c.vars.length=1)&&(decide (c.lits.length=1)&&decide (c.consts.length+c.rows.length=0))
 else false
def zHR (c:MCon) (n:Int):Bool:=c.vars.all (fun v=>zBu v n)&&c.lits.all (fun l=>zBu l.var n)
def zDT (c:MCon):Bool:=c.consts.all zAT&&(zAT c.n&&c.rows.all fun r=>r.all zAT)
def zN4 (ls:List MLit):Int :=
 if ls.all (fun l=>decide (1≤l.op)&&decide (l.op≤4)) then (if ls.all (fun l=>zAT l.n) then 0 else 3) else 7
def conE (n:Int) (c:MCon):Int :=
 if 1≤c.kind∧c.kind≤10 then (if zF0 c then 2 else if zDS c then (if zHR c n then (if zDT c then zN4 c.lits else 3) else 5) else 1) else 7
def zRJ (m:Mod):Int:=zAi (m.cons.map (conE m.vars.length))
def zJx (m:Mod):Int :=
 if m.goal=0 then (if m.var=0 then 0 else 1) else if m.goal=1∨m.goal=2 then (if zBu m.var m.vars.length then 0 else 5) else 7
def zAE (m:Mod):Int :=
 if m.vars.length=0 then 1 else if 6<m.vars.length∨8<m.cons.length then 2
 else if zPN m.vars=0 then (if zRJ m=0 then zJx m else zRJ m) else zPN m.vars
theorem zF1 (a b:List Int):zAi (a++b)=if zAi a=0 then zAi b else zAi a:=by
 induction a with
 | nil=>simp[zAi]
 | cons e r ih =>
   simp only[List.cons_append,zAi]
   by_cases h:e=0
   ·simp only[h,if_true];exact ih
   ·simp only[h,if_false]
theorem zD4 (l:List Int) (k:Nat) (e:Int) (h0:zAi (l.take k)=0) (hk:l[k]? = some e) (he:e≠0):zAi l=e:=by
 have hs:l=l.take k++l.drop k:=(List.take_append_drop k l).symm
 rw[hs,zF1,if_pos h0]
 have hlt:=(List.getElem?_eq_some_iff.1 hk).1
 rw[List.drop_eq_getElem_cons hlt]
 have:l[k]=e:=by rw[List.getElem?_eq_getElem hlt] at hk;exact Option.some.inj hk
 rw[this,zAi,if_neg he]
theorem zDU (l:List Int) (k:Nat) (h0:zAi (l.take k)=0) (hk:l[k]? = some 0):zAi (l.take (k+1))=0:=by
 rw[List.take_add_one,hk,zF1,if_pos h0];rfl
theorem zCl (l:List Int) (h:zAi l=0):∀e∈l,e=0:=by
 induction l with
 | nil=>intro e he;cases he
 | cons a r ih =>
   unfold zAi at h
   by_cases h0:a=0
   ·rw[if_pos h0] at h
    intro e he
    rcases List.mem_cons.1 he with rfl | he
    ·exact h0
    ·exact ih h e he
   ·rw[if_neg h0] at h;exact absurd h h0
theorem zAx (m:Mod) (h:zAE m=0):1≤m.vars.length∧m.vars.length≤6∧m.cons.length≤8∧zPN m.vars=0∧zRJ m=0∧zJx m=0:=by
 unfold zAE at h
 by_cases h0:m.vars.length=0
 ·rw[if_pos h0] at h;cases h
 ·rw[if_neg h0] at h
  by_cases h1:6<m.vars.length∨8<m.cons.length
  ·rw[if_pos h1] at h;cases h
  ·rw[if_neg h1] at h
   by_cases h2:zPN m.vars=0
   ·rw[if_pos h2] at h
    by_cases h3:zRJ m=0
    ·rw[if_pos h3] at h;exact⟨by omega,by omega,by omega,h2,h3,h⟩
    ·rw[if_neg h3] at h;exact absurd h h3
   ·rw[if_neg h2] at h;exact absurd h h2
theorem zSs (vs:List MVar) (v:MVar) (h:varE vs v=0):-50≤v.lo∧v.hi≤50∧v.lo≤v.hi∧v.hi - v.lo+1≤6:=by
 unfold varE at h
 split at h
 ·split at h
  ·cases h
  ·split at h
   ·rename_i h1
    simp only[inB,Bool.and_eq_true,decide_eq_true_eq,Bool.not_eq_true',decide_eq_false_iff_not] at h1
    split at h
    ·cases h
    ·omega
   ·cases h
 ·cases h
theorem zIl (m:Mod) (h:zAE m=0) (i:Nat) (v:MVar) (hv:m.vars[i]? = some v):-50≤v.lo∧v.hi≤50∧v.lo≤v.hi∧v.hi - v.lo+1≤6:=by
 have h1:=(zAx m h).2.2.2.1
 have h2:=zCl _ h1 (varE (m.vars.take i) v) (by
  have hi:i<m.vars.length:=(List.getElem?_eq_some_iff.1 hv).1
  refine List.mem_map.2 ⟨i,List.mem_range.2 hi,?_⟩
  rw[List.getD_eq_getElem?_getD,hv];rfl)
 exact zSs _ _ h2
theorem zHS (m:Mod) (h:zAE m=0) (i:Nat) (c:MCon) (hc:m.cons[i]? = some c):conE m.vars.length c=0:=by
 have h1:=(zAx m h).2.2.2.2.1
 exact zCl _ h1 _ (List.mem_map.2 ⟨c,List.mem_of_getElem? hc,rfl⟩)
def litV (x:Int) (l:MLit):Bool :=
 if l.op=1 then decide (x≤l.n) else if l.op=2 then decide (l.n≤x) else if l.op=3 then x==l.n else if l.op=4 then x != l.n else false
def IArg (w:World) (v:Value) (l:List Int):Prop :=
 ∃a c,v=.slice a l.length c∧(l.length≤c∧c≤maxLen)∧∀(i:Nat) (z:Int),l[i]? = some z→∃b off,a=some ⟨b,off,none⟩∧b<w.heap.size∧w.cell? ⟨b,off+i,none⟩=some (.int .i64 z)
def RArg (w:World) (v:Value) (l:List (List Int)):Prop :=
 ∃a c,v=.slice a l.length c∧(l.length≤c∧c≤maxLen)∧∀(i:Nat) (r:List Int),l[i]? = some r→∃b off x,a=some ⟨b,off,none⟩∧b<w.heap.size∧w.cell? ⟨b,off+i,none⟩=some x∧IArg w x r
def LArg (w:World) (v:Value) (l:List MLit):Prop :=
 ∃a c,v=.slice a l.length c∧(l.length≤c∧c≤maxLen)∧∀(i:Nat) (t:MLit),l[i]? = some t→∃b off,a=some ⟨b,off,none⟩∧b<w.heap.size ∧
  w.cell? ⟨b,off+i * 3,none⟩=some (.int .i64 t.var)∧w.cell? ⟨b,off+i * 3+1,none⟩=some (.int .i64 t.op)∧w.cell? ⟨b,off+i * 3+2,none⟩=some (.int .i64 t.n)
def VArg (w:World) (v:Value) (l:List MVar):Prop :=
 ∃a c,v=.slice a l.length c∧(l.length≤c∧c≤maxLen)∧∀(i:Nat) (t:MVar),l[i]? = some t→t.name.size≤maxLen∧∃b off,a=some ⟨b,off,none⟩∧b<w.heap.size ∧
  w.cell? ⟨b,off+i * 3,none⟩=some (.string t.name)∧w.cell? ⟨b,off+i * 3+1,none⟩=some (.int .i64 t.lo)∧w.cell? ⟨b,off+i * 3+2,none⟩=some (.int .i64 t.hi)
def KArg (w:World) (vv vc vr vl:Value) (c:MCon):Prop:=IArg w vv c.vars∧IArg w vc c.consts∧RArg w vr c.rows∧LArg w vl c.lits
def conV (vv vc vr vl:Value) (c:MCon):Value:=.agg #[.int .i64 c.kind,vv,vc,.int .i64 c.n,vr,vl]
def CArg (w:World) (v:Value) (l:List MCon):Prop :=
 ∃a c,v=.slice a l.length c∧(l.length≤c∧c≤maxLen)∧∀(i:Nat) (t:MCon),l[i]? = some t→∃b off vv vc vr vl,a=some ⟨b,off,none⟩∧b<w.heap.size ∧
  w.cell? ⟨b,off+i * 6,none⟩=some (.int .i64 t.kind)∧w.cell? ⟨b,off+i * 6+1,none⟩=some vv∧w.cell? ⟨b,off+i * 6+2,none⟩=some vc ∧
  w.cell? ⟨b,off+i * 6+3,none⟩=some (.int .i64 t.n)∧w.cell? ⟨b,off+i * 6+4,none⟩=some vr∧w.cell? ⟨b,off+i * 6+5,none⟩=some vl∧KArg w vv vc vr vl t
def MArg (w:World) (vs cs:Value) (m:Mod):Prop:=VArg w vs m.vars∧CArg w cs m.cons
def modV (vs cs:Value) (m:Mod):Value:=.agg #[vs,cs,.int .i64 m.goal,.int .i64 m.var]
section
variable {w w':World} (hb:Below w.heap.size w w')
theorem IArg.below {v:Value} {l:List Int} (hb:Below w.heap.size w w') (h:IArg w v l):IArg w' v l:=by
 obtain⟨a,c,hv,hm,hr⟩:=h
 refine⟨a,c,hv,hm,fun i z hz=>?_⟩
 obtain⟨b,off,ha,hlt,hc⟩:=hr i z hz
 exact⟨b,off,ha,Nat.lt_of_lt_of_le hlt hb.size,(hb.cell (p:=⟨b,off+i,none⟩) hlt).trans hc⟩
theorem RArg.below {v:Value} {l:List (List Int)} (hb:Below w.heap.size w w') (h:RArg w v l):RArg w' v l:=by
 obtain⟨a,c,hv,hm,hr⟩:=h
 refine⟨a,c,hv,hm,fun i z hz=>?_⟩
 obtain⟨b,off,x,ha,hlt,hc,hx⟩:=hr i z hz
 exact⟨b,off,x,ha,Nat.lt_of_lt_of_le hlt hb.size,(hb.cell (p:=⟨b,off+i,none⟩) hlt).trans hc,IArg.below hb hx⟩
theorem LArg.below {v:Value} {l:List MLit} (hb:Below w.heap.size w w') (h:LArg w v l):LArg w' v l:=by
 obtain⟨a,c,hv,hm,hr⟩:=h
 refine⟨a,c,hv,hm,fun i z hz=>?_⟩
 obtain⟨b,off,ha,hlt,c0,c1,c2⟩:=hr i z hz
 exact⟨b,off,ha,Nat.lt_of_lt_of_le hlt hb.size,(hb.cell (p:=⟨b,off+i * 3,none⟩) hlt).trans c0,(hb.cell (p:=⟨b,off+i * 3+1,none⟩) hlt).trans c1,(hb.cell (p:=⟨b,off+i * 3+2,none⟩) hlt).trans c2⟩
theorem VArg.below {v:Value} {l:List MVar} (hb:Below w.heap.size w w') (h:VArg w v l):VArg w' v l:=by
 obtain⟨a,c,hv,hm,hr⟩:=h
 refine⟨a,c,hv,hm,fun i z hz=>?_⟩
 obtain⟨hs,b,off,ha,hlt,c0,c1,c2⟩:=hr i z hz
 exact⟨hs,b,off,ha,Nat.lt_of_lt_of_le hlt hb.size,(hb.cell (p:=⟨b,off+i * 3,none⟩) hlt).trans c0,(hb.cell (p:=⟨b,off+i * 3+1,none⟩) hlt).trans c1,(hb.cell (p:=⟨b,off+i * 3+2,none⟩) hlt).trans c2⟩
theorem KArg.below {vv vc vr vl:Value} {c:MCon} (hb:Below w.heap.size w w') (h:KArg w vv vc vr vl c):KArg w' vv vc vr vl c :=
 ⟨IArg.below hb h.1,IArg.below hb h.2.1,RArg.below hb h.2.2.1,LArg.below hb h.2.2.2⟩
theorem CArg.below {v:Value} {l:List MCon} (hb:Below w.heap.size w w') (h:CArg w v l):CArg w' v l:=by
 obtain⟨a,c,hv,hm,hr⟩:=h
 refine⟨a,c,hv,hm,fun i z hz=>?_⟩
 obtain⟨b,off,vv,vc,vr,vl,ha,hlt,c0,c1,c2,c3,c4,c5,hk⟩:=hr i z hz
 exact⟨b,off,vv,vc,vr,vl,ha,Nat.lt_of_lt_of_le hlt hb.size,(hb.cell (p:=⟨b,off+i * 6,none⟩) hlt).trans c0,(hb.cell (p:=⟨b,off+i * 6+1,none⟩) hlt).trans c1,(hb.cell (p:=⟨b,off+i * 6+2,none⟩) hlt).trans c2,
  (hb.cell (p:=⟨b,off+i * 6+3,none⟩) hlt).trans c3,(hb.cell (p:=⟨b,off+i * 6+4,none⟩) hlt).trans c4,(hb.cell (p:=⟨b,off+i * 6+5,none⟩) hlt).trans c5,KArg.below hb hk⟩
theorem MArg.below {vs cs:Value} {m:Mod} (hb:Below w.heap.size w w') (h:MArg w vs cs m):MArg w' vs cs m:=⟨VArg.below hb h.1,CArg.below hb h.2⟩
end
theorem zAA (w:World) (o:Obj):Below w.heap.size w (w.alloc o):=(Below.refl _ _).alloc (Nat.le_refl _) o
end Go.Proofs.YtdjbejlbmaiocagGreatDoor
