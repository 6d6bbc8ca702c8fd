/- What the proof leans on, part 3. -/
import Derived.Test.YtndcpnlaadikoaaGreatDoorPartAb
namespace Go.Proofs.YtndcpnlaadikoaaGreatDoor
open Go.RowKit
def IArg (w:World) (v:Value) (l:List Int):Prop :=
 ∃a c,v=.slice a l.length c∧(l.length≤c∧c≤maxLen)∧∀(i:Nat) (z:Int),l[i]? = some z→∃b off,a=some ⟨b,off,none⟩∧b<w.heap.size∧w.cell? ⟨b,off+i,none⟩=some (.int .i64 z)
def RArg (w:World) (v:Value) (l:List (List Int)):Prop :=
 ∃a c,v=.slice a l.length c∧(l.length≤c∧c≤maxLen)∧∀(i:Nat) (r:List Int),l[i]? = some r→∃b off x,a=some ⟨b,off,none⟩∧b<w.heap.size∧w.cell? ⟨b,off+i,none⟩=some x∧IArg w x r
def LArg (w:World) (v:Value) (l:List MLit):Prop :=
 ∃a c,v=.slice a l.length c∧(l.length≤c∧c≤maxLen)∧∀(i:Nat) (t:MLit),l[i]? = some t→∃b off,a=some ⟨b,off,none⟩∧b<w.heap.size ∧
  w.cell? ⟨b,off+i * 3,none⟩=some (.int .i64 t.var)∧w.cell? ⟨b,off+i * 3+1,none⟩=some (.int .i64 t.op)∧w.cell? ⟨b,off+i * 3+2,none⟩=some (.int .i64 t.n)
def VArg (w:World) (v:Value) (l:List MVar):Prop :=
 ∃a c,v=.slice a l.length c∧(l.length≤c∧c≤maxLen)∧∀(i:Nat) (t:MVar),l[i]? = some t→t.name.size≤maxLen∧∃b off,a=some ⟨b,off,none⟩∧b<w.heap.size ∧
  w.cell? ⟨b,off+i * 3,none⟩=some (.string t.name)∧w.cell? ⟨b,off+i * 3+1,none⟩=some (.int .i64 t.lo)∧w.cell? ⟨b,off+i * 3+2,none⟩=some (.int .i64 t.hi)
def KArg (w:World) (vv vc vr vl:Value) (c:MCon):Prop:=IArg w vv c.vars∧IArg w vc c.consts∧RArg w vr c.rows∧LArg w vl c.lits
def conV (vv vc vr vl:Value) (c:MCon):Value:=.agg #[.int .i64 c.kind,vv,vc,.int .i64 c.n,vr,vl]
def CArg (w:World) (v:Value) (l:List MCon):Prop :=
 ∃a c,v=.slice a l.length c∧(l.length≤c∧c≤maxLen)∧∀(i:Nat) (t:MCon),l[i]? = some t→∃b off vv vc vr vl,a=some ⟨b,off,none⟩∧b<w.heap.size ∧
  w.cell? ⟨b,off+i * 6,none⟩=some (.int .i64 t.kind)∧w.cell? ⟨b,off+i * 6+1,none⟩=some vv∧w.cell? ⟨b,off+i * 6+2,none⟩=some vc ∧
  w.cell? ⟨b,off+i * 6+3,none⟩=some (.int .i64 t.n)∧w.cell? ⟨b,off+i * 6+4,none⟩=some vr∧w.cell? ⟨b,off+i * 6+5,none⟩=some vl∧KArg w vv vc vr vl t
def MArg (w:World) (vs cs:Value) (m:Mod):Prop:=VArg w vs m.vars∧CArg w cs m.cons
def modV (vs cs:Value) (m:Mod):Value:=.agg #[vs,cs,.int .i64 m.goal,.int .i64 m.var]
section
variable {w w':World} (hb:Below w.heap.size w w')
theorem IArg.below {v:Value} {l:List Int} (hb:Below w.heap.size w w') (h:IArg w v l):IArg w' v l:=by
 obtain⟨a,c,hv,hm,hr⟩:=h
 refine⟨a,c,hv,hm,fun i z hz=>?_⟩
 obtain⟨b,off,ha,hlt,hc⟩:=hr i z hz
 exact⟨b,off,ha,Nat.lt_of_lt_of_le hlt hb.size,(hb.cell (p:=⟨b,off+i,none⟩) hlt).trans hc⟩
theorem RArg.below {v:Value} {l:List (List Int)} (hb:Below w.heap.size w w') (h:RArg w v l):RArg w' v l:=by
 obtain⟨a,c,hv,hm,hr⟩:=h
 refine⟨a,c,hv,hm,fun i z hz=>?_⟩
 obtain⟨b,off,x,ha,hlt,hc,hx⟩:=hr i z hz
 exact⟨b,off,x,ha,Nat.lt_of_lt_of_le hlt hb.size,(hb.cell (p:=⟨b,off+i,none⟩) hlt).trans hc,IArg.below hb hx⟩
theorem LArg.below {v:Value} {l:List MLit} (hb:Below w.heap.size w w') (h:LArg w v l):LArg w' v l:=by
 obtain⟨a,c,hv,hm,hr⟩:=h
 refine⟨a,c,hv,hm,fun i z hz=>?_⟩
 obtain⟨b,off,ha,hlt,c0,c1,c2⟩:=hr i z hz
 exact⟨b,off,ha,Nat.lt_of_lt_of_le hlt hb.size,(hb.cell (p:=⟨b,off+i * 3,none⟩) hlt).trans c0,(hb.cell (p:=⟨b,off+i * 3+1,none⟩) hlt).trans c1,(hb.cell (p:=⟨b,off+i * 3+2,none⟩) hlt).trans c2⟩
theorem VArg.below {v:Value} {l:List MVar} (hb:Below w.heap.size w w') (h:VArg w v l):VArg w' v l:=by
 obtain⟨a,c,hv,hm,hr⟩:=h
 refine⟨a,c,hv,hm,fun i z hz=>?_⟩
 obtain⟨hs,b,off,ha,hlt,c0,c1,c2⟩:=hr i z hz
 exact⟨hs,b,off,ha,Nat.lt_of_lt_of_le hlt hb.size,(hb.cell (p:=⟨b,off+i * 3,none⟩) hlt).trans c0,(hb.cell (p:=⟨b,off+i * 3+1,none⟩) hlt).trans c1,(hb.cell (p:=⟨b,off+i * 3+2,none⟩) hlt).trans c2⟩
theorem KArg.below {vv vc vr vl:Value} {c:MCon} (hb:Below w.heap.size w w') (h:KArg w vv vc vr vl c):KArg w' vv vc vr vl c :=
 ⟨IArg.below hb h.1,IArg.below hb h.2.1,RArg.below hb h.2.2.1,LArg.below hb h.2.2.2⟩
theorem CArg.below {v:Value} {l:List MCon} (hb:Below w.heap.size w w') (h:CArg w v l):CArg w' v l:=by
 obtain⟨a,c,hv,hm,hr⟩:=h
 refine⟨a,c,hv,hm,fun i z hz=>?_⟩
 obtain⟨b,off,vv,vc,vr,vl,ha,hlt,c0,c1,c2,c3,c4,c5,hk⟩:=hr i z hz
 exact⟨b,off,vv,vc,vr,vl,ha,Nat.lt_of_lt_of_le hlt hb.size,(hb.cell (p:=⟨b,off+i * 6,none⟩) hlt).trans c0,(hb.cell (p:=⟨b,off+i * 6+1,none⟩) hlt).trans c1,(hb.cell (p:=⟨b,off+i * 6+2,none⟩) hlt).trans c2,
  (hb.cell (p:=⟨b,off+i * 6+3,none⟩) hlt).trans c3,(hb.cell (p:=⟨b,off+i * 6+4,none⟩) hlt).trans c4,(hb.cell (p:=⟨b,off+i * 6+5,none⟩) hlt).trans c5,KArg.below hb hk⟩
theorem MArg.below {vs cs:Value} {m:Mod} (hb:Below w.heap.size w w') (h:MArg w vs cs m):MArg w' vs cs m:=⟨VArg.below hb h.1,CArg.below hb h.2⟩
end
theorem zAA (w:World) (o:Obj):Below w.heap.size w (w.alloc o):=(Below.refl _ _).alloc (Nat.le_refl _) o
set_option maxHeartbeats 400000 in
theorem zA2 (n most:Int) (h0:0≤most) (h1:most≤1000) (w:World) :
 Calls Tryz.prog 111 #[.int .i64 n,.int .i64 most] w fun e w'=>e=.returned (.bool (inB n most))∧w'=w:=by
 unfold inB
 go_enter Tryz.func111,Tryz.ntmps111
 go_wp2
 ·go_ret;exact⟨zAB (by simp[*]),rfl⟩
 ·go_ret;exact⟨zAB (by rw[decide_eq_false (p:=-most≤n) (by omega)];rfl),rfl⟩
set_option maxHeartbeats 1000000 in
set_option maxRecDepth 100000 in
theorem zNK (s:ByteArray) (w:World) :
 Calls Tryz.prog 240 #[.string s] w fun e w'=>e=.returned (.bool (zE9 s))∧w'=w:=by
 go_enter Tryz.func240,Tryz.ntmps240
 go_wp2
 all_goals (go_ret;refine⟨zAB ?_,rfl⟩;simp_all[zE9])
set_option maxHeartbeats 1000000 in
set_option maxRecDepth 100000 in
theorem zDe (s:ByteArray) (hs:s.size≤maxLen) (w:World) :
 Calls Tryz.prog 178 #[.string s] w fun e w'=>e=.returned (.bool (zBm s))∧Below w.heap.size w w':=by
 rcases hR:zA9 s with ⟨ts,pl,er⟩
 have hA:zBm s=(((er==0)&&((ts.length==1)&&((ts.headD ⟨0,0,ByteArray.empty⟩).kind==1&&(ts.headD ⟨0,0,ByteArray.empty⟩).text.toList==s.toList)))&&!zE9 s):=by
  unfold zBm;rw[←zKs ⟨1,0,s⟩];unfold zHJ;rw[hR]
 have HR:Hid (zA9 s=(ts,pl,er)):=hR
 have HS:Hid (s.size≤maxLen):=hs
 clear hR hs
 by_cases her:er=0
 ·subst her
  by_cases hl:ts.length=1
  ·obtain⟨u,rfl⟩:∃u,ts=[u]:=List.length_eq_one_iff.1 hl
   clear hl
   cases hkd:(u.kind==1)
   ·have hA2:zBm s=false:=by rw[hA];simp only[List.headD_cons];rw[hkd];rfl
    rw[hA2];clear hA hA2
    go_enter Tryz.func178,Tryz.ntmps178
    go_wp2_with fail
    refine (zDs s HS.out _).mono ?_
    rintro e w1 ⟨v,rfl,hown,hb1⟩
    rw[HR.out] at hown ⊢
    obtain⟨g,cap,rfl,_,_,hrow⟩:=zIQ hown (by simp)
    obtain⟨c0,c1,c2⟩:=hrow 0 u rfl
    clear hrow hown
    simp only[Nat.zero_mul,Nat.add_zero,Nat.zero_add] at c0 c1 c2
    go_wp2
    go_ret
    exact⟨rfl,hb1⟩
   ·cases htx:(u.text.toList==s.toList)
    ·have hA2:zBm s=false:=by rw[hA];simp only[List.headD_cons];rw[hkd,htx];rfl
     rw[hA2];clear hA hA2
     go_enter Tryz.func178,Tryz.ntmps178
     go_wp2_with fail
     refine (zDs s HS.out _).mono ?_
     rintro e w1 ⟨v,rfl,hown,hb1⟩
     rw[HR.out] at hown ⊢
     obtain⟨g,cap,rfl,_,_,hrow⟩:=zIQ hown (by simp)
     obtain⟨c0,c1,c2⟩:=hrow 0 u rfl
     clear hrow hown
     simp only[Nat.zero_mul,Nat.add_zero,Nat.zero_add] at c0 c1 c2
     go_wp2
     go_ret
     exact⟨rfl,hb1⟩
    ·have hA2:zBm s=!zE9 s:=by rw[hA];simp only[List.headD_cons];rw[hkd,htx];rfl
     rw[hA2];clear hA hA2
     go_enter Tryz.func178,Tryz.ntmps178
     go_wp2_with fail
     refine (zDs s HS.out _).mono ?_
     rintro e w1 ⟨v,rfl,hown,hb1⟩
     rw[HR.out] at hown ⊢
     obtain⟨g,cap,rfl,_,_,hrow⟩:=zIQ hown (by simp)
     obtain⟨c0,c1,c2⟩:=hrow 0 u rfl
     clear hrow hown
     simp only[Nat.zero_mul,Nat.add_zero,Nat.zero_add] at c0 c1 c2
     go_wp2_with fail
     refine (zNK _ _).mono ?_
     rintro e w1 ⟨rfl,rfl⟩
     go_wp2
     go_ret
     exact⟨rfl,hb1⟩
  ·have hl2:((ts.length:Int)==1)=false:=by simpa using (show ¬(ts.length:Int)=1 by omega)
   have hA2:zBm s=false:=by rw[hA];rw[show (ts.length==1)=false by simpa using hl];rfl
   rw[hA2];clear hA hA2 hl
   go_enter Tryz.func178,Tryz.ntmps178
   go_wp2_with fail
   refine (zDs s HS.out _).mono ?_
   rintro e w1 ⟨v,rfl,hown,hb1⟩
   rw[HR.out] at hown ⊢
   obtain⟨ad,cap,rfl⟩:=zAE hown
   clear hown
   go_wp2
   go_ret
   exact⟨rfl,hb1⟩
 ·have her2:(er==0)=false:=by simpa using her
  have hA2:zBm s=false:=by rw[hA,her2];rfl
  rw[hA2];clear hA hA2 her
  go_enter Tryz.func178,Tryz.ntmps178
  go_wp2_with fail
  refine (zDs s HS.out _).mono ?_
  rintro e w1 ⟨v,rfl,hown,hb1⟩
  rw[HR.out] at hown ⊢
  obtain⟨ad,cap,rfl⟩:=zAE hown
  clear hown
  go_wp2
  go_ret
  exact⟨rfl,hb1⟩
set_option maxHeartbeats 400000 in
theorem zJJ (b:Nat) (u:MVar) (nm:ByteArray) (w:World) (hc:w.cell? ⟨b,0,none⟩=some (.string nm)) :
 Calls Tryz.prog 180 #[.agg #[.string u.name,.int .i64 u.lo,.int .i64 u.hi],.pointer (some ⟨b,0,none⟩)] w fun e w'=>e=.returned (.bool (u.name.toList==nm.toList))∧Below w.heap.size w w':=by
 have hb:b<w.heap.size:=World.block_lt_of_cell? w _ hc
 go_enter Tryz.func180,Tryz.ntmps180
 go_wp2
 go_ret
 exact⟨rfl,zAA _ _⟩
def zB6 (l:List MVar) (nm:ByteArray):Bool:=l.any fun u=>u.name.toList==nm.toList
theorem zKu (l:List MVar) (nm:ByteArray) (m:Nat) (t:MVar) (ht:l[m]? = some t) (h:(t.name.toList==nm.toList)=true):zB6 l nm=true:=by
 unfold zB6;exact List.any_eq_true.2 ⟨t,List.mem_of_getElem? ht,h⟩
theorem zJ0 (l:List MVar) (nm:ByteArray) (m:Nat) (t:MVar) (ht:l[m]? = some t) (h0:zB6 (l.take m) nm=false) (h:(t.name.toList==nm.toList)=false):zB6 (l.take (m+1)) nm=false:=by
 unfold zB6 at *;rw[List.take_add_one,ht,List.any_append,h0];simp[h]
set_option maxHeartbeats 800000 in
set_option maxRecDepth 100000 in
theorem zJ1 (l:List MVar) (v:Value) (b:Nat) (nm:ByteArray) (w:World) (hv:VArg w v l) (hc:w.cell? ⟨b,0,none⟩=some (.string nm)) :
 Calls Tryz.prog 241 #[v,.func (.func 180) #[] #[.pointer (some ⟨b,0,none⟩)]] w fun e w'=>∃z:Int,e=.returned (.int .i64 z)∧decide (0≤z)=zB6 l nm∧Below w.heap.size w w':=by
 obtain⟨a,c,rfl,hm,hr⟩:=hv
 have HV:Hid (∀(i:Nat) (t:MVar),l[i]? = some t→t.name.size≤maxLen∧∃b off,a=some ⟨b,off,none⟩∧b<w.heap.size ∧
  w.cell? ⟨b,off+i * 3,none⟩=some (.string t.name)∧w.cell? ⟨b,off+i * 3+1,none⟩=some (.int .i64 t.lo)∧w.cell? ⟨b,off+i * 3+2,none⟩=some (.int .i64 t.hi)):=hr
 have hbs:b<w.heap.size:=World.block_lt_of_cell? w _ hc
 have HC:Hid (w.cell? ⟨b,0,none⟩=some (.string nm)):=hc
 obtain⟨tw,htw⟩:∃tw,zB6 l nm=tw:=⟨_,rfl⟩
 rw[htw]
 have HTW:Hid (zB6 l nm=tw):=htw
 clear hr hc htw
 unfold maxLen at hm
 obtain⟨hm1,hm⟩:=hm
 go_enter Tryz.func241,Tryz.ntmps241
 go_wp2_with fail
 go_loopw [8] (fun i wr=>∃m:Nat,m≤l.length∧i=.int .i64 m∧Hid (zB6 (l.take m) nm=false)∧Below w.heap.size w wr) (fun i _=>l.length - (intOf i).toNat)
 case atStart=>exact⟨0,by omega,rfl,rfl,Below.refl _ _⟩
 case round =>
  obtain⟨m,hml,rfl,hno,hbw⟩:=hrel
  by_cases hlt:m<l.length
  ·obtain⟨t,ht⟩:∃t,l[m]? = some t:=⟨l[m],by simp[hlt]⟩
   obtain⟨_,b2,off,ha,hlt2,c0,c1,c2⟩:=HV.out m t ht
   have hc0:=(hbw.cell (p:=⟨b2,off+m * 3,none⟩) hlt2).trans c0
   have hc1:=(hbw.cell (p:=⟨b2,off+m * 3+1,none⟩) hlt2).trans c1
   have hc2:=(hbw.cell (p:=⟨b2,off+m * 3+2,none⟩) hlt2).trans c2
   have hcb:=(hbw.cell (p:=⟨b,0,none⟩) hbs).trans HC.out
   have HT:Hid (l[m]? = some t):=ht
   subst ha
   clear c0 c1 c2 ht
   cases hq:(t.name.toList==nm.toList)
   ·have HNO:Hid (zB6 (l.take (m+1)) nm=false):=zJ0 l nm m t HT.out hno.out hq
    go_wp2_with fail
    refine (zJJ b t nm _ hcb).mono ?_
    rintro e w1 ⟨rfl,hb1⟩
    rw[hq]
    clear hq
    go_wp2
    go_roundw
    case rel=>exact⟨m+1,by omega,by go_num,HNO,hbw.trans (hb1.mono hbw.size)⟩
    case measure=>simp[intOf];omega
   ·have HY:Hid (tw=true):=by rw[←HTW.out];exact zKu l nm m t HT.out hq
    go_wp2_with fail
    refine (zJJ b t nm _ hcb).mono ?_
    rintro e w1 ⟨rfl,hb1⟩
    rw[hq]
    clear hq
    go_wp2
    go_ret
    exact⟨_,rfl,by rw[HY.out];simp,hbw.trans (hb1.mono hbw.size)⟩
  ·have HN:Hid (tw=false):=by
    have hmn:m=l.length:=by omega
    have:=hno.out;rw[hmn,List.take_length,HTW.out] at this;exact this
   go_wp2
   go_ret
   exact⟨_,rfl,by rw[HN.out];rfl,hbw⟩
set_option maxHeartbeats 400000 in
theorem zBD (l:List MVar) (v:Value) (b:Nat) (nm:ByteArray) (w:World) (hv:VArg w v l) (hc:w.cell? ⟨b,0,none⟩=some (.string nm)) :
 Calls Tryz.prog 179 #[v,.func (.func 180) #[] #[.pointer (some ⟨b,0,none⟩)]] w fun e w'=>e=.returned (.bool (zB6 l nm))∧Below w.heap.size w w':=by
 go_enter Tryz.func179,Tryz.ntmps179
 go_wp2_with fail
 refine (zJ1 l v b nm _ hv hc).mono ?_
 rintro e w1 ⟨z,rfl,hz,hb1⟩
 have HZ:Hid (decide (0≤z)=zB6 l nm):=hz
 clear hz
 go_wp2
 go_ret
 exact⟨zAB HZ.out,hb1⟩
theorem VArg.take {w:World} {a:Option Addr} {n c:Nat} {vs:List MVar} (h:VArg w (.slice a n c) vs) (k:Nat) (hk:k≤vs.length):VArg w (.slice a k c) (vs.take k):=by
 obtain⟨a',c',hv,hm,hr⟩:=h
 cases hv
 refine⟨a,c,by rw[List.length_take,Nat.min_eq_left hk],⟨by rw[List.length_take];omega,hm.2⟩,fun i t ht=>?_⟩
 rw[List.getElem?_take] at ht
 split at ht
 ·exact hr i t ht
 ·cases ht
set_option maxHeartbeats 1600000 in
set_option maxRecDepth 100000 in
theorem zKv (vs:List MVar) (v:Value) (k:Nat) (t:MVar) (w:World) (hv:VArg w v vs) (ht:vs[k]? = some t) :
 Calls Tryz.prog 112 #[v,.int .i64 k] w fun e w'=>e=.returned (.int .i64 (varE (vs.take k) t))∧Below w.heap.size w w':=by
 have hv0:=hv
 obtain⟨a,c,rfl,hm,hr⟩:=hv
 have hkl:k<vs.length:=(List.getElem?_eq_some_iff.1 ht).1
 have HTAKE:Hid (VArg w (.slice a k c) (vs.take k)):=VArg.take hv0 k (by omega)
 obtain⟨hts,b,off,rfl,hlt,c0,c1,c2⟩:=hr k t ht
 have HTS:Hid (t.name.size≤maxLen):=hts
 obtain⟨R,hR⟩:∃R,varE (vs.take k) t=R:=⟨_,rfl⟩
 rw[hR]
 have hE:R=(if zBm t.name then (if zB6 (vs.take k) t.name then 6 else if inB t.lo 50&&(inB t.hi 50&&!decide (t.hi<t.lo)) then (if 6<t.hi - t.lo+1 then 2 else 0) else 3) else 1):=by rw[←hR];rfl
 clear hr hv0 hts ht hR
 unfold maxLen at hm
 obtain⟨hm1,hm⟩:=hm
 cases hn:zBm t.name
 ·have HE:Hid (R=1):=by rw[hE,hn];rfl
  have HN:Hid (zBm t.name=false):=hn
  clear hn hE
  go_enter Tryz.func112,Tryz.ntmps112
  go_wp2_with fail
  refine (zDe _ HTS.out _).mono ?_
  rintro e w1 ⟨rfl,hb1⟩
  rw[HN.out]
  have hB1:Below w.heap.size w w1:=(zAA _ _).trans (hb1.mono (by simp))
  have d0:w1.cell? ⟨w.heap.size,0,none⟩=some (.string t.name):=(hb1.cell (by simp)).trans (by simp)
  have d1:w1.cell? ⟨w.heap.size,1,none⟩=some (.int .i64 t.lo):=(hb1.cell (by simp)).trans (by simp)
  have d2:w1.cell? ⟨w.heap.size,2,none⟩=some (.int .i64 t.hi):=(hb1.cell (by simp)).trans (by simp)
  have hs1:w.heap.size+1≤w1.heap.size:=by simpa using hb1.size
  clear hb1
  go_wp2
  go_ret
  exact⟨zAI HE.out.symm,hB1⟩
 ·have HN:Hid (zBm t.name=true):=hn
  cases htw:zB6 (vs.take k) t.name
  ·have HTW:Hid (zB6 (vs.take k) t.name=false):=htw
   cases hlo:inB t.lo 50
   ·have HE:Hid (R=3):=by rw[hE,hn,htw,hlo];rfl
    have HLO:Hid (inB t.lo 50=false):=hlo
    clear hn htw hlo hE
    go_enter Tryz.func112,Tryz.ntmps112
    go_wp2_with fail
    refine (zDe _ HTS.out _).mono ?_
    rintro e w1 ⟨rfl,hb1⟩
    rw[HN.out]
    have hB1:Below w.heap.size w w1:=(zAA _ _).trans (hb1.mono (by simp))
    have d0:w1.cell? ⟨w.heap.size,0,none⟩=some (.string t.name):=(hb1.cell (by simp)).trans (by simp)
    have d1:w1.cell? ⟨w.heap.size,1,none⟩=some (.int .i64 t.lo):=(hb1.cell (by simp)).trans (by simp)
    have d2:w1.cell? ⟨w.heap.size,2,none⟩=some (.int .i64 t.hi):=(hb1.cell (by simp)).trans (by simp)
    have hs1:w.heap.size+1≤w1.heap.size:=by simpa using hb1.size
    clear hb1
    go_wp2_with fail
    refine (zBD (vs.take k) _ w.heap.size t.name _ (VArg.below hB1 HTAKE.out) d0).mono ?_
    rintro e w2 ⟨rfl,hb2⟩
    rw[HTW.out]
    have hB2:Below w.heap.size w w2:=hB1.trans (hb2.mono (by omega))
    have e1:w2.cell? ⟨w.heap.size,1,none⟩=some (.int .i64 t.lo):=(hb2.cell (p:=⟨w.heap.size,1,none⟩) (by simp only;omega)).trans d1
    have e2:w2.cell? ⟨w.heap.size,2,none⟩=some (.int .i64 t.hi):=(hb2.cell (p:=⟨w.heap.size,2,none⟩) (by simp only;omega)).trans d2
    clear hb2 d0 d1 d2
    go_wp2_with fail
    refine (zA2 _ 50 (by omega) (by omega) _).mono ?_
    rintro e w2 ⟨rfl,rfl⟩
    rw[HLO.out]
    go_wp2
    go_ret
    exact⟨zAI HE.out.symm,hB2⟩
   ·have HLO:Hid (inB t.lo 50=true):=hlo
    have hl1:-50≤t.lo∧t.lo≤50:=by simpa[inB] using hlo
    cases hhi:inB t.hi 50
    ·have HE:Hid (R=3):=by rw[hE,hn,htw,hlo,hhi];rfl
     have HHI:Hid (inB t.hi 50=false):=hhi
     clear hn htw hlo hhi hE
     go_enter Tryz.func112,Tryz.ntmps112
     go_wp2_with fail
     refine (zDe _ HTS.out _).mono ?_
     rintro e w1 ⟨rfl,hb1⟩
     rw[HN.out]
     have hB1:Below w.heap.size w w1:=(zAA _ _).trans (hb1.mono (by simp))
     have d0:w1.cell? ⟨w.heap.size,0,none⟩=some (.string t.name):=(hb1.cell (by simp)).trans (by simp)
     have d1:w1.cell? ⟨w.heap.size,1,none⟩=some (.int .i64 t.lo):=(hb1.cell (by simp)).trans (by simp)
     have d2:w1.cell? ⟨w.heap.size,2,none⟩=some (.int .i64 t.hi):=(hb1.cell (by simp)).trans (by simp)
     have hs1:w.heap.size+1≤w1.heap.size:=by simpa using hb1.size
     clear hb1
     go_wp2_with fail
     refine (zBD (vs.take k) _ w.heap.size t.name _ (VArg.below hB1 HTAKE.out) d0).mono ?_
     rintro e w2 ⟨rfl,hb2⟩
     rw[HTW.out]
     have hB2:Below w.heap.size w w2:=hB1.trans (hb2.mono (by omega))
     have e1:w2.cell? ⟨w.heap.size,1,none⟩=some (.int .i64 t.lo):=(hb2.cell (p:=⟨w.heap.size,1,none⟩) (by simp only;omega)).trans d1
     have e2:w2.cell? ⟨w.heap.size,2,none⟩=some (.int .i64 t.hi):=(hb2.cell (p:=⟨w.heap.size,2,none⟩) (by simp only;omega)).trans d2
     clear hb2 d0 d1 d2
     go_wp2_with fail
     refine (zA2 _ 50 (by omega) (by omega) _).mono ?_
     rintro e w2 ⟨rfl,rfl⟩
     rw[HLO.out]
     go_wp2_with fail
     refine (zA2 _ 50 (by omega) (by omega) _).mono ?_
     rintro e w2 ⟨rfl,rfl⟩
     rw[HHI.out]
     go_wp2
     go_ret
     exact⟨zAI HE.out.symm,hB2⟩
    ·have HHI:Hid (inB t.hi 50=true):=hhi
     have hh1:-50≤t.hi∧t.hi≤50:=by simpa[inB] using hhi
     by_cases hlh:t.hi<t.lo
     ·have HE:Hid (R=3):=by rw[hE,hn,htw,hlo,hhi,decide_eq_true hlh];rfl
      clear hn htw hlo hhi hE
      go_enter Tryz.func112,Tryz.ntmps112
      go_wp2_with fail
      refine (zDe _ HTS.out _).mono ?_
      rintro e w1 ⟨rfl,hb1⟩
      rw[HN.out]
      have hB1:Below w.heap.size w w1:=(zAA _ _).trans (hb1.mono (by simp))
      have d0:w1.cell? ⟨w.heap.size,0,none⟩=some (.string t.name):=(hb1.cell (by simp)).trans (by simp)
      have d1:w1.cell? ⟨w.heap.size,1,none⟩=some (.int .i64 t.lo):=(hb1.cell (by simp)).trans (by simp)
      have d2:w1.cell? ⟨w.heap.size,2,none⟩=some (.int .i64 t.hi):=(hb1.cell (by simp)).trans (by simp)
      have hs1:w.heap.size+1≤w1.heap.size:=by simpa using hb1.size
      clear hb1
      go_wp2_with fail
      refine (zBD (vs.take k) _ w.heap.size t.name _ (VArg.below hB1 HTAKE.out) d0).mono ?_
      rintro e w2 ⟨rfl,hb2⟩
      rw[HTW.out]
      have hB2:Below w.heap.size w w2:=hB1.trans (hb2.mono (by omega))
      have e1:w2.cell? ⟨w.heap.size,1,none⟩=some (.int .i64 t.lo):=(hb2.cell (p:=⟨w.heap.size,1,none⟩) (by simp only;omega)).trans d1
      have e2:w2.cell? ⟨w.heap.size,2,none⟩=some (.int .i64 t.hi):=(hb2.cell (p:=⟨w.heap.size,2,none⟩) (by simp only;omega)).trans d2
      clear hb2 d0 d1 d2
      go_wp2_with fail
      refine (zA2 _ 50 (by omega) (by omega) _).mono ?_
      rintro e w2 ⟨rfl,rfl⟩
      rw[HLO.out]
      go_wp2_with fail
      refine (zA2 _ 50 (by omega) (by omega) _).mono ?_
      rintro e w2 ⟨rfl,rfl⟩
      rw[HHI.out]
      go_wp2
      go_ret
      exact⟨zAI HE.out.symm,hB2⟩
     ·by_cases h6:6<t.hi - t.lo+1
      ·have HE:Hid (R=2):=by rw[hE,hn,htw,hlo,hhi,decide_eq_false hlh,if_pos h6];rfl
       clear hn htw hlo hhi hE
       go_enter Tryz.func112,Tryz.ntmps112
       go_wp2_with fail
       refine (zDe _ HTS.out _).mono ?_
       rintro e w1 ⟨rfl,hb1⟩
       rw[HN.out]
       have hB1:Below w.heap.size w w1:=(zAA _ _).trans (hb1.mono (by simp))
       have d0:w1.cell? ⟨w.heap.size,0,none⟩=some (.string t.name):=(hb1.cell (by simp)).trans (by simp)
       have d1:w1.cell? ⟨w.heap.size,1,none⟩=some (.int .i64 t.lo):=(hb1.cell (by simp)).trans (by simp)
       have d2:w1.cell? ⟨w.heap.size,2,none⟩=some (.int .i64 t.hi):=(hb1.cell (by simp)).trans (by simp)
       have hs1:w.heap.size+1≤w1.heap.size:=by simpa using hb1.size
       clear hb1
       go_wp2_with fail
       refine (zBD (vs.take k) _ w.heap.size t.name _ (VArg.below hB1 HTAKE.out) d0).mono ?_
       rintro e w2 ⟨rfl,hb2⟩
       rw[HTW.out]
       have hB2:Below w.heap.size w w2:=hB1.trans (hb2.mono (by omega))
       have e1:w2.cell? ⟨w.heap.size,1,none⟩=some (.int .i64 t.lo):=(hb2.cell (p:=⟨w.heap.size,1,none⟩) (by simp only;omega)).trans d1
       have e2:w2.cell? ⟨w.heap.size,2,none⟩=some (.int .i64 t.hi):=(hb2.cell (p:=⟨w.heap.size,2,none⟩) (by simp only;omega)).trans d2
       clear hb2 d0 d1 d2
       go_wp2_with fail
       refine (zA2 _ 50 (by omega) (by omega) _).mono ?_
       rintro e w2 ⟨rfl,rfl⟩
       rw[HLO.out]
       go_wp2_with fail
       refine (zA2 _ 50 (by omega) (by omega) _).mono ?_
       rintro e w2 ⟨rfl,rfl⟩
       rw[HHI.out]
       go_wp2
       go_ret
       exact⟨zAI HE.out.symm,hB2⟩
      ·have HE:Hid (R=0):=by rw[hE,hn,htw,hlo,hhi,decide_eq_false hlh,if_neg h6];rfl
       clear hn htw hlo hhi hE
       go_enter Tryz.func112,Tryz.ntmps112
       go_wp2_with fail
       refine (zDe _ HTS.out _).mono ?_
       rintro e w1 ⟨rfl,hb1⟩
       rw[HN.out]
       have hB1:Below w.heap.size w w1:=(zAA _ _).trans (hb1.mono (by simp))
       have d0:w1.cell? ⟨w.heap.size,0,none⟩=some (.string t.name):=(hb1.cell (by simp)).trans (by simp)
       have d1:w1.cell? ⟨w.heap.size,1,none⟩=some (.int .i64 t.lo):=(hb1.cell (by simp)).trans (by simp)
       have d2:w1.cell? ⟨w.heap.size,2,none⟩=some (.int .i64 t.hi):=(hb1.cell (by simp)).trans (by simp)
       have hs1:w.heap.size+1≤w1.heap.size:=by simpa using hb1.size
       clear hb1
       go_wp2_with fail
       refine (zBD (vs.take k) _ w.heap.size t.name _ (VArg.below hB1 HTAKE.out) d0).mono ?_
       rintro e w2 ⟨rfl,hb2⟩
       rw[HTW.out]
       have hB2:Below w.heap.size w w2:=hB1.trans (hb2.mono (by omega))
       have e1:w2.cell? ⟨w.heap.size,1,none⟩=some (.int .i64 t.lo):=(hb2.cell (p:=⟨w.heap.size,1,none⟩) (by simp only;omega)).trans d1
       have e2:w2.cell? ⟨w.heap.size,2,none⟩=some (.int .i64 t.hi):=(hb2.cell (p:=⟨w.heap.size,2,none⟩) (by simp only;omega)).trans d2
       clear hb2 d0 d1 d2
       go_wp2_with fail
       refine (zA2 _ 50 (by omega) (by omega) _).mono ?_
       rintro e w2 ⟨rfl,rfl⟩
       rw[HLO.out]
       go_wp2_with fail
       refine (zA2 _ 50 (by omega) (by omega) _).mono ?_
       rintro e w2 ⟨rfl,rfl⟩
       rw[HHI.out]
       go_wp2
       go_ret
       exact⟨zAI HE.out.symm,hB2⟩
  ·have HE:Hid (R=6):=by rw[hE,hn,htw];rfl
   have HTW:Hid (zB6 (vs.take k) t.name=true):=htw
   clear hn htw hE
   go_enter Tryz.func112,Tryz.ntmps112
   go_wp2_with fail
   refine (zDe _ HTS.out _).mono ?_
   rintro e w1 ⟨rfl,hb1⟩
   rw[HN.out]
   have hB1:Below w.heap.size w w1:=(zAA _ _).trans (hb1.mono (by simp))
   have d0:w1.cell? ⟨w.heap.size,0,none⟩=some (.string t.name):=(hb1.cell (by simp)).trans (by simp)
   have d1:w1.cell? ⟨w.heap.size,1,none⟩=some (.int .i64 t.lo):=(hb1.cell (by simp)).trans (by simp)
   have d2:w1.cell? ⟨w.heap.size,2,none⟩=some (.int .i64 t.hi):=(hb1.cell (by simp)).trans (by simp)
   have hs1:w.heap.size+1≤w1.heap.size:=by simpa using hb1.size
   clear hb1
   go_wp2_with fail
   refine (zBD (vs.take k) _ w.heap.size t.name _ (VArg.below hB1 HTAKE.out) d0).mono ?_
   rintro e w2 ⟨rfl,hb2⟩
   rw[HTW.out]
   have hB2:Below w.heap.size w w2:=hB1.trans (hb2.mono (by omega))
   have e1:w2.cell? ⟨w.heap.size,1,none⟩=some (.int .i64 t.lo):=(hb2.cell (p:=⟨w.heap.size,1,none⟩) (by simp only;omega)).trans d1
   have e2:w2.cell? ⟨w.heap.size,2,none⟩=some (.int .i64 t.hi):=(hb2.cell (p:=⟨w.heap.size,2,none⟩) (by simp only;omega)).trans d2
   clear hb2 d0 d1 d2
   go_wp2
   go_ret
   exact⟨zAI HE.out.symm,hB2⟩
end Go.Proofs.YtndcpnlaadikoaaGreatDoor
