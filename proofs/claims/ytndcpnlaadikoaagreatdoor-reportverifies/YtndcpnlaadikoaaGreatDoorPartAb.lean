/- What the proof leans on, part 2. -/
import Derived.Test.YtndcpnlaadikoaaGreatDoorPartAa
set_option maxRecDepth 100000
set_option maxHeartbeats 1600000
open Go.Proofs.Tryz
namespace Go.Proofs.YtndcpnlaadikoaaGreatDoor
structure MVar where
 name:ByteArray
 lo:Int
 hi:Int
structure MLit where
 var:Int
 op:Int
 n:Int
structure MCon where
 kind:Int
 vars:List Int
 consts:List Int
 n:Int
 rows:List (List Int)
 lits:List MLit
structure Mod where
 vars:List MVar
 cons:List MCon
 goal:Int
 var:Int
def Ma (s:ByteArray):Bool :=
 (s.toList==[118,97,114]) || ((s.toList==[99,111,110]) || ((s.toList==[115,111,108,118,101]) || ((s.toList==[108,101]) || ((s.toList==[101,113]) || ((s.toList==[110,101]) || ((s.toList==[100,105,102,102,101,114]) || ((s.toList==[101,108,101,109,101,110,116]) || ((s.toList==[116,97,98,108,101]) || ((s.toList==[116,105,109,101,115]) || ((s.toList==[109,97,120]) || ((s.toList==[99,108,97,117,115,101]) || ((s.toList==[105,102,102]) || ((s.toList==[97,110,121]) || ((s.toList==[108,101,97,115,116]) || (s.toList==[109,111,115,116])))))))))))))))
def WZ (s:ByteArray):Bool:=RJ 1 s&&!Ma s
def inB (n most:Int):Bool:=decide (-most<=n)&&decide (n<=most)
def Wd (v n:Int):Bool:=decide (0<=v)&&decide (v<n)
def XC (n:Int):Bool:=inB n 1000
def varE (vs:List MVar) (v:MVar):Int :=
 if WZ v.name then
  if vs.any (λu=>u.name.toList==v.name.toList) then 6
  else if inB v.lo 50&&(inB v.hi 50&&!decide (v.hi<v.lo)) then (if 6<v.hi - v.lo+1 then 2 else 0) else 3
 else 1
def Y4:List Int->Int
 | []=>0
 | e :: r=>if e=0 then Y4 r else e
def JH (vs:List MVar):Int:=Y4 ((List.range vs.length).map λi=>varE (vs.take i) (vs.getD i ⟨ByteArray.empty,0,0⟩))
def QX (c:MCon):Bool:=decide (4<c.vars.length) || (decide (4<c.lits.length) || (decide (8<c.consts.length) || decide (20<c.rows.length)))
def UT (c:MCon):Bool :=
 if c.kind=1∨c.kind=2∨c.kind=3 then decide (1<=c.vars.length)&&(decide (c.consts.length=c.vars.length)&&decide (c.rows.length+c.lits.length=0))
 else if c.n≠0 then false
 else if c.kind=4 then decide (1<=c.vars.length)&&decide (c.consts.length+c.rows.length+c.lits.length=0)
 else if c.kind=5 then decide (c.vars.length=2)&&(decide (1<=c.consts.length)&&decide (c.rows.length+c.lits.length=0))
 else if c.kind=6 then decide (1<=c.vars.length)&&(decide (c.consts.length+c.lits.length=0)&&c.rows.all λr=>decide (r.length=c.vars.length))
 else if c.kind=7 then decide (c.vars.length=3)&&decide (c.consts.length+c.rows.length+c.lits.length=0)
 else if c.kind=8 then decide (2<=c.vars.length)&&decide (c.consts.length+c.rows.length+c.lits.length=0)
 else if c.kind=9 then decide (c.vars.length+c.consts.length+c.rows.length=0)
 else if c.kind=10 then decide (c.vars.length=1)&&(decide (c.lits.length=1)&&decide (c.consts.length+c.rows.length=0))
 else false
def QW (c:MCon) (n:Int):Bool:=c.vars.all (λv=>Wd v n)&&c.lits.all (λl=>Wd l.var n)
def RI (c:MCon):Bool:=c.consts.all XC&&(XC c.n&&c.rows.all λr=>r.all XC)
def Io (ls:List MLit):Int :=
 if ls.all (λl=>decide (1<=l.op)&&decide (l.op<=4)) then (if ls.all (λl=>XC l.n) then 0 else 3) else 7
def conE (n:Int) (c:MCon):Int :=
 if 1<=c.kind/\c.kind<=10 then (if QX c then 2 else if UT c then (if QW c n then (if RI c then Io c.lits else 3) else 5) else 1) else 7
def AH (m:Mod):Int:=Y4 (m.cons.map (conE m.vars.length))
def Oe (m:Mod):Int :=
 if m.goal=0 then (if m.var=0 then 0 else 1) else if m.goal=1∨m.goal=2 then (if Wd m.var m.vars.length then 0 else 5) else 7
def Zs (m:Mod):Int :=
 if m.vars.length=0 then 1 else if 6<m.vars.length∨8<m.cons.length then 2
 else if JH m.vars=0 then (if AH m=0 then Oe m else AH m) else JH m.vars
theorem pR (a b:List Int):Y4 (a++b)=if Y4 a=0 then Y4 b else Y4 a:=by
 induction a with
 | nil=>simp[Y4]
 | cons e r ih =>
   simp only[O3,Y4];by_cases h:e=0
   ·simp only[h,if_true];exact ih
   simp only[h,if_false]
theorem L_ (l:List Int) (k:Nat) (e:Int) (h0:Y4 (l.take k)=0) (hk:l[k]? = some e) (he:e≠0):Y4 l=e:=by
 have hs:l=l.take k++l.drop k:=(List.take_append_drop k l).symm;rw[hs,pR,if_pos h0];have Z7:=(ZN.1 hk).1;rw[Yc Z7];have:l[k]=e:=by rw[ZA Z7] at hk;exact Zl hk
 rw[this,Y4,if_neg he]
theorem JG (l:List Int) (k:Nat) (h0:Y4 (l.take k)=0) (hk:l[k]? = some 0):Y4 (l.take (k+1))=0:=by
 rw[Y1,hk,pR,if_pos h0];rfl
theorem Im (l:List Int) (h:Y4 l=0):∀e∈l,e=0:=by
 induction l with
 | nil=>intro e he;cases he
 | cons a r ih =>
   unfold Y4 at h;by_cases h0:a=0
   ·rw[if_pos h0] at h
    intro e he;rcases YJ.1 he with rfl | he
    ·exact h0
    exact ih h e he
   rw[if_neg h0] at h;exact absurd h h0
theorem RH (m:Mod) (h:Zs m=0):1<=m.vars.length/\m.vars.length<=6/\m.cons.length<=8/\JH m.vars=0/\AH m=0/\Oe m=0:=by
 unfold Zs at h;by_cases h0:m.vars.length=0
 ·rw[if_pos h0] at h;cases h
 rw[if_neg h0] at h;by_cases h1:6<m.vars.length∨8<m.cons.length
 ·rw[if_pos h1] at h;cases h
 rw[if_neg h1] at h;by_cases h2:JH m.vars=0
 ·rw[if_pos h2] at h
  by_cases h3:AH m=0
  ·rw[if_pos h3] at h;exact⟨by omega,by omega,by omega,h2,h3,h⟩
  rw[if_neg h3] at h;exact absurd h h3
 rw[if_neg h2] at h;exact absurd h h2
theorem eU (vs:List MVar) (v:MVar) (h:varE vs v=0):-50<=v.lo/\v.hi<=50/\v.lo<=v.hi/\v.hi - v.lo+1<=6:=by
 unfold varE at h
 split at h
 ·split at h
  ·cases h
  split at h
  ·rename_i h1
   simp only[inB,ZB,decide_eq_true_eq,SQ,decide_eq_false_iff_not] at h1
   split at h
   ·cases h
   omega
  cases h
 cases h
theorem Il (m:Mod) (h:Zs m=0) (i:Nat) (v:MVar) (hv:m.vars[i]? = some v):-50<=v.lo/\v.hi<=50/\v.lo<=v.hi/\v.hi - v.lo+1<=6:=by
 have h1:=(RH m h).2.2.2.1;have h2:=Im _ h1 (varE (m.vars.take i) v) (by
  have hi:i<m.vars.length:=(ZN.1 hv).1;refine Zj.2 ⟨i,W6.2 hi,?_⟩;rw[ZO,hv];rfl)
 exact eU _ _ h2
theorem Ik (m:Mod) (h:Zs m=0) (i:Nat) (c:MCon) (hc:m.cons[i]? = some c):conE m.vars.length c=0:=by
 have h1:=(RH m h).2.2.2.2.1;exact Im _ h1 _ (Zj.2 ⟨c,Zz hc,rfl⟩)
def litV (x:Int) (l:MLit):Bool :=
 if l.op=1 then decide (x<=l.n) else if l.op=2 then decide (l.n<=x) else if l.op=3 then x==l.n else if l.op=4 then x != l.n else false
open Go.RowKit
def IArg (w:World) (v:Value) (l:List Int):Prop :=
 ∃a c,v=.slice a l.length c/\(l.length<=c/\c<=maxLen)/\∀(i:Nat) (z:Int),l[i]? = some z->∃b off,a=some ⟨b,off,none⟩/\b<w.heap.size/\w.cell? ⟨b,off+i,none⟩=some (.int .i64 z)
def RArg (w:World) (v:Value) (l:List (List Int)):Prop :=
 ∃a c,v=.slice a l.length c/\(l.length<=c/\c<=maxLen)/\∀(i:Nat) (r:List Int),l[i]? = some r->∃b off x,a=some ⟨b,off,none⟩/\b<w.heap.size/\w.cell? ⟨b,off+i,none⟩=some x/\IArg w x r
def LArg (w:World) (v:Value) (l:List MLit):Prop :=
 ∃a c,v=.slice a l.length c/\(l.length<=c/\c<=maxLen)/\∀(i:Nat) (t:MLit),l[i]? = some t->∃b off,a=some ⟨b,off,none⟩/\b<w.heap.size /\
  w.cell? ⟨b,off+i * 3,none⟩=some (.int .i64 t.var)/\w.cell? ⟨b,off+i * 3+1,none⟩=some (.int .i64 t.op)/\w.cell? ⟨b,off+i * 3+2,none⟩=some (.int .i64 t.n)
def VArg (w:World) (v:Value) (l:List MVar):Prop :=
 ∃a c,v=.slice a l.length c/\(l.length<=c/\c<=maxLen)/\∀(i:Nat) (t:MVar),l[i]? = some t->t.name.size<=maxLen/\∃b off,a=some ⟨b,off,none⟩/\b<w.heap.size /\
  w.cell? ⟨b,off+i * 3,none⟩=some (.string t.name)/\w.cell? ⟨b,off+i * 3+1,none⟩=some (.int .i64 t.lo)/\w.cell? ⟨b,off+i * 3+2,none⟩=some (.int .i64 t.hi)
def KArg (w:World) (vv vc vr vl:Value) (c:MCon):Prop:=IArg w vv c.vars/\IArg w vc c.consts/\RArg w vr c.rows/\LArg w vl c.lits
def conV (vv vc vr vl:Value) (c:MCon):Value:=.agg #[.int .i64 c.kind,vv,vc,.int .i64 c.n,vr,vl]
def CArg (w:World) (v:Value) (l:List MCon):Prop :=
 ∃a c,v=.slice a l.length c/\(l.length<=c/\c<=maxLen)/\∀(i:Nat) (t:MCon),l[i]? = some t->∃b off vv vc vr vl,a=some ⟨b,off,none⟩/\b<w.heap.size /\
  w.cell? ⟨b,off+i * 6,none⟩=some (.int .i64 t.kind)/\w.cell? ⟨b,off+i * 6+1,none⟩=some vv/\w.cell? ⟨b,off+i * 6+2,none⟩=some vc /\
  w.cell? ⟨b,off+i * 6+3,none⟩=some (.int .i64 t.n)/\w.cell? ⟨b,off+i * 6+4,none⟩=some vr/\w.cell? ⟨b,off+i * 6+5,none⟩=some vl/\KArg w vv vc vr vl t
def MArg (w:World) (vs cs:Value) (m:Mod):Prop:=VArg w vs m.vars/\CArg w cs m.cons
def modV (vs cs:Value) (m:Mod):Value:=.agg #[vs,cs,.int .i64 m.goal,.int .i64 m.var]
section
variable {w w':World} (hb:Bw w w')
theorem IArg.below {v:Value} {l:List Int} (hb:Bw w w') (h:IArg w v l):IArg w' v l:=by
 obtain⟨a,c,hv,hm,hr⟩:=h;refine⟨a,c,hv,hm,λi z hz=>?_⟩
 obtain⟨b,off,ha,Z7,hc⟩:=hr i z hz;exact⟨b,off,ha,ZQ Z7 hb.size,(hb.cell (p:=⟨b,off+i,none⟩) Z7).trans hc⟩
theorem RArg.below {v:Value} {l:List (List Int)} (hb:Bw w w') (h:RArg w v l):RArg w' v l:=by
 obtain⟨a,c,hv,hm,hr⟩:=h;refine⟨a,c,hv,hm,λi z hz=>?_⟩
 obtain⟨b,off,x,ha,Z7,hc,hx⟩:=hr i z hz;exact⟨b,off,x,ha,ZQ Z7 hb.size,(hb.cell (p:=⟨b,off+i,none⟩) Z7).trans hc,IArg.below hb hx⟩
theorem LArg.below {v:Value} {l:List MLit} (hb:Bw w w') (h:LArg w v l):LArg w' v l:=by
 obtain⟨a,c,hv,hm,hr⟩:=h;refine⟨a,c,hv,hm,λi z hz=>?_⟩
 obtain⟨b,off,ha,Z7,c0,c1,c2⟩:=hr i z hz;exact⟨b,off,ha,ZQ Z7 hb.size,(hb.cell (p:=⟨b,off+i * 3,none⟩) Z7).trans c0,(hb.cell (p:=⟨b,off+i * 3+1,none⟩) Z7).trans c1,(hb.cell (p:=⟨b,off+i * 3+2,none⟩) Z7).trans c2⟩
theorem VArg.below {v:Value} {l:List MVar} (hb:Bw w w') (h:VArg w v l):VArg w' v l:=by
 obtain⟨a,c,hv,hm,hr⟩:=h;refine⟨a,c,hv,hm,λi z hz=>?_⟩
 obtain⟨hs,b,off,ha,Z7,c0,c1,c2⟩:=hr i z hz;exact⟨hs,b,off,ha,ZQ Z7 hb.size,(hb.cell (p:=⟨b,off+i * 3,none⟩) Z7).trans c0,(hb.cell (p:=⟨b,off+i * 3+1,none⟩) Z7).trans c1,(hb.cell (p:=⟨b,off+i * 3+2,none⟩) Z7).trans c2⟩
theorem KArg.below {vv vc vr vl:Value} {c:MCon} (hb:Bw w w') (h:KArg w vv vc vr vl c):KArg w' vv vc vr vl c :=
 ⟨IArg.below hb h.1,IArg.below hb h.2.1,RArg.below hb h.2.2.1,LArg.below hb h.2.2.2⟩
theorem CArg.below {v:Value} {l:List MCon} (hb:Bw w w') (h:CArg w v l):CArg w' v l:=by
 obtain⟨a,c,hv,hm,hr⟩:=h;refine⟨a,c,hv,hm,λi z hz=>?_⟩
 obtain⟨b,off,vv,vc,vr,vl,ha,Z7,c0,c1,c2,c3,c4,c5,hk⟩:=hr i z hz;exact⟨b,off,vv,vc,vr,vl,ha,ZQ Z7 hb.size,(hb.cell (p:=⟨b,off+i * 6,none⟩) Z7).trans c0,(hb.cell (p:=⟨b,off+i * 6+1,none⟩) Z7).trans c1,(hb.cell (p:=⟨b,off+i * 6+2,none⟩) Z7).trans c2,
  (hb.cell (p:=⟨b,off+i * 6+3,none⟩) Z7).trans c3,(hb.cell (p:=⟨b,off+i * 6+4,none⟩) Z7).trans c4,(hb.cell (p:=⟨b,off+i * 6+5,none⟩) Z7).trans c5,KArg.below hb hk⟩
theorem MArg.below {vs cs:Value} {m:Mod} (hb:Bw w w') (h:MArg w vs cs m):MArg w' vs cs m:=⟨VArg.below hb h.1,CArg.below hb h.2⟩
end
theorem Z4 (w:World) (o:Obj):Bw w (w.alloc o):=(Z6 _ _).alloc (Z2 _) o
theorem L9 (n most:Int) (h0:0<=most) (h1:most<=1000) (w:World) :
 Calls prog 111 #[.int .i64 n,.int .i64 most] w λe w'=>e=.returned (.bool (inB n most))/\w'=w:=by
 unfold inB;go_enter func111,ntmps111
 go_wp2
 ·go_ret;exact⟨ZD (by simp[*]),rfl⟩
 go_ret;exact⟨ZD (by rw[decide_eq_false (p:=-most<=n) (by omega)];rfl),rfl⟩
theorem eT (s:ByteArray) (w:World) :
 Calls prog 240 #[.string s] w λe w'=>e=.returned (.bool (Ma s))/\w'=w:=by
 go_enter func240,ntmps240
 go_wp2
 all_goals (go_ret;refine⟨ZD ?_,rfl⟩;simp_all[Ma])
theorem Ij (s:ByteArray) (hs:s.size<=maxLen) (w:World) :
 Calls prog 178 #[.string s] w λe w'=>e=.returned (.bool (WZ s))/\Bw w w':=by
 rcases hR:YR s with ⟨ts,pl,er⟩
 have hA:WZ s=(((er==0)&&((ts.length==1)&&((ts.headD ⟨0,0,ByteArray.empty⟩).kind==1&&(ts.headD ⟨0,0,ByteArray.empty⟩).text.toList==s.toList)))&&!Ma s):=by
  unfold WZ;rw[<-eV ⟨1,0,s⟩];unfold DW;rw[hR]
 have HR:=hI hR;have HS:=hI hs;clear hR hs;by_cases Yy:er=0
 ·subst Yy
  by_cases hl:ts.length=1
  ·obtain⟨u,rfl⟩:∃u,ts=[u]:=List.length_eq_one_iff.1 hl
   clear hl;cases Yr:(u.kind==1)
   ·have PJ:WZ s=false:=by rw[hA];simp only[List.headD_cons];rw[Yr];rfl
    rw[PJ];clear hA PJ;go_enter func178,ntmps178
    go_wp2_with fail
    refine (Ff s HS.o _).mono ?_;rintro e w1 ⟨v,rfl,Z9,Z5⟩;rw[HR.o] at Z9 ⊢;obtain⟨g,cap,rfl,_,_,ZS⟩:=xq Z9 (by simp)
    obtain⟨c0,c1,c2⟩:=ZS 0 u rfl;clear ZS Z9;simp only[SM,Wl,Zn] at c0 c1 c2;go_wp2
    go_ret
    exact⟨rfl,Z5⟩
   cases AM:(u.text.toList==s.toList)
   ·have PJ:WZ s=false:=by rw[hA];simp only[List.headD_cons];rw[Yr,AM];rfl
    rw[PJ];clear hA PJ;go_enter func178,ntmps178
    go_wp2_with fail
    refine (Ff s HS.o _).mono ?_;rintro e w1 ⟨v,rfl,Z9,Z5⟩;rw[HR.o] at Z9 ⊢;obtain⟨g,cap,rfl,_,_,ZS⟩:=xq Z9 (by simp)
    obtain⟨c0,c1,c2⟩:=ZS 0 u rfl;clear ZS Z9;simp only[SM,Wl,Zn] at c0 c1 c2;go_wp2
    go_ret
    exact⟨rfl,Z5⟩
   have PJ:WZ s=!Ma s:=by rw[hA];simp only[List.headD_cons];rw[Yr,AM];rfl
   rw[PJ];clear hA PJ;go_enter func178,ntmps178
   go_wp2_with fail
   refine (Ff s HS.o _).mono ?_;rintro e w1 ⟨v,rfl,Z9,Z5⟩;rw[HR.o] at Z9 ⊢;obtain⟨g,cap,rfl,_,_,ZS⟩:=xq Z9 (by simp)
   obtain⟨c0,c1,c2⟩:=ZS 0 u rfl;clear ZS Z9;simp only[SM,Wl,Zn] at c0 c1 c2;go_wp2_with fail
   refine (eT _ _).mono ?_;rintro e w1 ⟨rfl,rfl⟩;go_wp2
   go_ret
   exact⟨rfl,Z5⟩
  have Yn:((ts.length:Int)==1)=false:=by simpa using (show ¬(ts.length:Int)=1 by omega)
  have PJ:WZ s=false:=by rw[hA];rw[show (ts.length==1)=false by simpa using hl];rfl
  rw[PJ];clear hA PJ hl;go_enter func178,ntmps178
  go_wp2_with fail
  refine (Ff s HS.o _).mono ?_;rintro e w1 ⟨v,rfl,Z9,Z5⟩;rw[HR.o] at Z9 ⊢;obtain⟨ad,cap,rfl⟩:=ZJ Z9;clear Z9;go_wp2
  go_ret
  exact⟨rfl,Z5⟩
 have xl:(er==0)=false:=by simpa using Yy
 have PJ:WZ s=false:=by rw[hA,xl];rfl
 rw[PJ];clear hA PJ Yy;go_enter func178,ntmps178
 go_wp2_with fail
 refine (Ff s HS.o _).mono ?_;rintro e w1 ⟨v,rfl,Z9,Z5⟩;rw[HR.o] at Z9 ⊢;obtain⟨ad,cap,rfl⟩:=ZJ Z9;clear Z9;go_wp2
 go_ret
 exact⟨rfl,Z5⟩
theorem pQ (b:Nat) (u:MVar) (nm:ByteArray) (w:World) (hc:w.cell? ⟨b,0,none⟩=some (.string nm)) :
 Calls prog 180 #[.agg #[.string u.name,.int .i64 u.lo,.int .i64 u.hi],.pointer (some ⟨b,0,none⟩)] w λe w'=>e=.returned (.bool (u.name.toList==nm.toList))/\Bw w w':=by
 have hb:b<w.heap.size:=World.block_lt_of_cell? w _ hc;go_enter func180,ntmps180
 go_wp2
 go_ret
 exact⟨rfl,Z4 _ _⟩
def RG (l:List MVar) (nm:ByteArray):Bool:=l.any λu=>u.name.toList==nm.toList
theorem pP (l:List MVar) (nm:ByteArray) (m:Nat) (t:MVar) (ht:l[m]? = some t) (h:(t.name.toList==nm.toList)=true):RG l nm=true:=by
 unfold RG;exact Yh.2 ⟨t,Zz ht,h⟩
theorem eS (l:List MVar) (nm:ByteArray) (m:Nat) (t:MVar) (ht:l[m]? = some t) (h0:RG (l.take m) nm=false) (h:(t.name.toList==nm.toList)=false):RG (l.take (m+1)) nm=false:=by
 unfold RG at *;rw[Y1,ht,RL,h0];simp[h]
theorem eR (l:List MVar) (v:Value) (b:Nat) (nm:ByteArray) (w:World) (hv:VArg w v l) (hc:w.cell? ⟨b,0,none⟩=some (.string nm)) :
 Calls prog 241 #[v,.func (.func 180) #[] #[.pointer (some ⟨b,0,none⟩)]] w λe w'=>∃z:Int,e=.returned (.int .i64 z)/\decide (0<=z)=RG l nm/\Bw w w':=by
 obtain⟨a,c,rfl,hm,hr⟩:=hv;have HV:=hI hr
 have Qn:b<w.heap.size:=World.block_lt_of_cell? w _ hc;have HC:=hI hc;obtain⟨tw,T6⟩:∃tw,RG l nm=tw:=⟨_,rfl⟩;rw[T6];have Qm:=hI T6;clear hr hc T6;unfold maxLen at hm;obtain⟨Y0,hm⟩:=hm;go_enter func241,ntmps241
 go_wp2_with fail
 go_loopw [8] (λi wr=>∃m:Nat,m<=l.length/\i=.int .i64 m/\Hid (RG (l.take m) nm=false)/\Bw w wr) (λi _=>l.length - (intOf i).toNat)
 case atStart=>exact⟨0,by omega,rfl,rfl,Z6 _ _⟩
 obtain⟨m,Uo,rfl,Xy,Z3⟩:=hrel;by_cases Z7:m<l.length
 ·obtain⟨t,ht⟩:∃t,l[m]? = some t:=⟨l[m],by simp[Z7]⟩
  obtain⟨_,b2,off,ha,XX,c0,c1,c2⟩:=HV.o m t ht;have XN:=(Z3.cell (p:=⟨b2,off+m * 3,none⟩) XX).trans c0;have X':=(Z3.cell (p:=⟨b2,off+m * 3+1,none⟩) XX).trans c1;have Yb:=(Z3.cell (p:=⟨b2,off+m * 3+2,none⟩) XX).trans c2;have Fe:=(Z3.cell (p:=⟨b,0,none⟩) Qn).trans HC.o;have HT:=hI ht;subst ha;clear c0 c1 c2 ht;cases hq:(t.name.toList==nm.toList)
  ·have eQ:Hid (RG (l.take (m+1)) nm=false):=eS l nm m t HT.o Xy.o hq
   go_wp2_with fail
   refine (pQ b t nm _ Fe).mono ?_;rintro e w1 ⟨rfl,Z5⟩;rw[hq];clear hq;go_wp2
   go_roundw
   case rel=>exact⟨m+1,by omega,by go_num,eQ,Z3.trans (Z5.mono Z3.size)⟩
   case measure=>simp[intOf];omega
  have HY:Hid (tw=true):=by rw[<-Qm.o];exact pP l nm m t HT.o hq
  go_wp2_with fail
  refine (pQ b t nm _ Fe).mono ?_;rintro e w1 ⟨rfl,Z5⟩;rw[hq];clear hq;go_wp2
  go_ret
  exact⟨_,rfl,by rw[HY.o];simp,Z3.trans (Z5.mono Z3.size)⟩
 have HN:Hid (tw=false):=by
  have eP:m=l.length:=by omega
  have:=Xy.o;rw[eP,Qv,Qm.o] at this;exact this
 go_wp2
 go_ret
 exact⟨_,rfl,by rw[HN.o];rfl,Z3⟩
theorem Fd (l:List MVar) (v:Value) (b:Nat) (nm:ByteArray) (w:World) (hv:VArg w v l) (hc:w.cell? ⟨b,0,none⟩=some (.string nm)) :
 Calls prog 179 #[v,.func (.func 180) #[] #[.pointer (some ⟨b,0,none⟩)]] w λe w'=>e=.returned (.bool (RG l nm))/\Bw w w':=by
 go_enter func179,ntmps179
 go_wp2_with fail
 refine (eR l v b nm _ hv hc).mono ?_;rintro e w1 ⟨z,rfl,hz,Z5⟩;have HZ:=hI hz;clear hz;go_wp2
 go_ret
 exact⟨ZD HZ.o,Z5⟩
theorem VArg.take {w:World} {a:Option Addr} {n c:Nat} {vs:List MVar} (h:VArg w (.slice a n c) vs) (k:Nat) (hk:k<=vs.length):VArg w (.slice a k c) (vs.take k):=by
 obtain⟨a',c',hv,hm,hr⟩:=h;cases hv
 refine⟨a,c,by rw[X_,Nat.min_eq_left hk],⟨by rw[X_];omega,hm.2⟩,λi t ht=>?_⟩
 rw[Qx] at ht
 split at ht
 ·exact hr i t ht
 cases ht
theorem eO (vs:List MVar) (v:Value) (k:Nat) (t:MVar) (w:World) (hv:VArg w v vs) (ht:vs[k]? = some t) :
 Calls prog 112 #[v,.int .i64 k] w λe w'=>e=.returned (.int .i64 (varE (vs.take k) t))/\Bw w w':=by
 have Lj:=hv;obtain⟨a,c,rfl,hm,hr⟩:=hv;have TM:k<vs.length:=(ZN.1 ht).1;have Tc:Hid (VArg w (.slice a k c) (vs.take k)):=VArg.take Lj k (by omega)
 obtain⟨Ii,b,off,rfl,Z7,c0,c1,c2⟩:=hr k t ht;have O0:=hI Ii;obtain⟨R,hR⟩:∃R,varE (vs.take k) t=R:=⟨_,rfl⟩;rw[hR];have hE:R=(if WZ t.name then (if RG (vs.take k) t.name then 6 else if inB t.lo 50&&(inB t.hi 50&&!decide (t.hi<t.lo)) then (if 6<t.hi - t.lo+1 then 2 else 0) else 3) else 1):=by rw[<-hR];rfl
 clear hr Lj Ii ht hR;unfold maxLen at hm;obtain⟨Y0,hm⟩:=hm;cases hn:WZ t.name
 ·have HE:Hid (R=1):=by rw[hE,hn];rfl
  have HN:=hI hn;clear hn hE;go_enter func112,ntmps112
  go_wp2_with fail
  refine (Ij _ O0.o _).mono ?_;rintro e w1 ⟨rfl,Z5⟩;rw[HN.o];have Un:Bw w w1:=(Z4 _ _).trans (Z5.mono (by simp))
  have d0:w1.cell? ⟨w.heap.size,0,none⟩=some (.string t.name):=(Z5.cell (by simp)).trans (by simp)
  have d1:w1.cell? ⟨w.heap.size,1,none⟩=some (.int .i64 t.lo):=(Z5.cell (by simp)).trans (by simp)
  have d2:w1.cell? ⟨w.heap.size,2,none⟩=some (.int .i64 t.hi):=(Z5.cell (by simp)).trans (by simp)
  have Vt:w.heap.size+1<=w1.heap.size:=by simpa using Z5.size
  clear Z5;go_wp2
  go_ret
  exact⟨Zm HE.o.symm,Un⟩
 have HN:=hI hn;cases T6:RG (vs.take k) t.name
 ·have Qm:=hI T6
  cases YM:inB t.lo 50
  ·have HE:Hid (R=3):=by rw[hE,hn,T6,YM];rfl
   have WP:=hI YM;clear hn T6 YM hE;go_enter func112,ntmps112
   go_wp2_with fail
   refine (Ij _ O0.o _).mono ?_;rintro e w1 ⟨rfl,Z5⟩;rw[HN.o];have Un:Bw w w1:=(Z4 _ _).trans (Z5.mono (by simp))
   have d0:w1.cell? ⟨w.heap.size,0,none⟩=some (.string t.name):=(Z5.cell (by simp)).trans (by simp)
   have d1:w1.cell? ⟨w.heap.size,1,none⟩=some (.int .i64 t.lo):=(Z5.cell (by simp)).trans (by simp)
   have d2:w1.cell? ⟨w.heap.size,2,none⟩=some (.int .i64 t.hi):=(Z5.cell (by simp)).trans (by simp)
   have Vt:w.heap.size+1<=w1.heap.size:=by simpa using Z5.size
   clear Z5;go_wp2_with fail
   refine (Fd (vs.take k) _ w.heap.size t.name _ (VArg.below Un Tc.o) d0).mono ?_;rintro e w2 ⟨rfl,ZY⟩;rw[Qm.o];have Vl:Bw w w2:=Un.trans (ZY.mono (by omega))
   have e1:w2.cell? ⟨w.heap.size,1,none⟩=some (.int .i64 t.lo):=(ZY.cell (p:=⟨w.heap.size,1,none⟩) (by simp only;omega)).trans d1
   have e2:w2.cell? ⟨w.heap.size,2,none⟩=some (.int .i64 t.hi):=(ZY.cell (p:=⟨w.heap.size,2,none⟩) (by simp only;omega)).trans d2
   clear ZY d0 d1 d2;go_wp2_with fail
   refine (L9 _ 50 (by omega) (by omega) _).mono ?_
   rintro e w2 ⟨rfl,rfl⟩;rw[WP.o];go_wp2
   go_ret
   exact⟨Zm HE.o.symm,Vl⟩
  have WP:=hI YM;have WS:-50<=t.lo/\t.lo<=50:=by simpa[inB] using YM
  cases Wc:inB t.hi 50
  ·have HE:Hid (R=3):=by rw[hE,hn,T6,YM,Wc];rfl
   have OZ:=hI Wc;clear hn T6 YM Wc hE;go_enter func112,ntmps112
   go_wp2_with fail
   refine (Ij _ O0.o _).mono ?_;rintro e w1 ⟨rfl,Z5⟩;rw[HN.o];have Un:Bw w w1:=(Z4 _ _).trans (Z5.mono (by simp))
   have d0:w1.cell? ⟨w.heap.size,0,none⟩=some (.string t.name):=(Z5.cell (by simp)).trans (by simp)
   have d1:w1.cell? ⟨w.heap.size,1,none⟩=some (.int .i64 t.lo):=(Z5.cell (by simp)).trans (by simp)
   have d2:w1.cell? ⟨w.heap.size,2,none⟩=some (.int .i64 t.hi):=(Z5.cell (by simp)).trans (by simp)
   have Vt:w.heap.size+1<=w1.heap.size:=by simpa using Z5.size
   clear Z5;go_wp2_with fail
   refine (Fd (vs.take k) _ w.heap.size t.name _ (VArg.below Un Tc.o) d0).mono ?_;rintro e w2 ⟨rfl,ZY⟩;rw[Qm.o];have Vl:Bw w w2:=Un.trans (ZY.mono (by omega))
   have e1:w2.cell? ⟨w.heap.size,1,none⟩=some (.int .i64 t.lo):=(ZY.cell (p:=⟨w.heap.size,1,none⟩) (by simp only;omega)).trans d1
   have e2:w2.cell? ⟨w.heap.size,2,none⟩=some (.int .i64 t.hi):=(ZY.cell (p:=⟨w.heap.size,2,none⟩) (by simp only;omega)).trans d2
   clear ZY d0 d1 d2;go_wp2_with fail
   refine (L9 _ 50 (by omega) (by omega) _).mono ?_
   rintro e w2 ⟨rfl,rfl⟩;rw[WP.o];go_wp2_with fail
   refine (L9 _ 50 (by omega) (by omega) _).mono ?_
   rintro e w2 ⟨rfl,rfl⟩;rw[OZ.o];go_wp2
   go_ret
   exact⟨Zm HE.o.symm,Vl⟩
  have OZ:=hI Wc;have hh1:-50<=t.hi/\t.hi<=50:=by simpa[inB] using Wc
  by_cases xj:t.hi<t.lo
  ·have HE:Hid (R=3):=by rw[hE,hn,T6,YM,Wc,decide_eq_true xj];rfl
   clear hn T6 YM Wc hE;go_enter func112,ntmps112
   go_wp2_with fail
   refine (Ij _ O0.o _).mono ?_;rintro e w1 ⟨rfl,Z5⟩;rw[HN.o];have Un:Bw w w1:=(Z4 _ _).trans (Z5.mono (by simp))
   have d0:w1.cell? ⟨w.heap.size,0,none⟩=some (.string t.name):=(Z5.cell (by simp)).trans (by simp)
   have d1:w1.cell? ⟨w.heap.size,1,none⟩=some (.int .i64 t.lo):=(Z5.cell (by simp)).trans (by simp)
   have d2:w1.cell? ⟨w.heap.size,2,none⟩=some (.int .i64 t.hi):=(Z5.cell (by simp)).trans (by simp)
   have Vt:w.heap.size+1<=w1.heap.size:=by simpa using Z5.size
   clear Z5;go_wp2_with fail
   refine (Fd (vs.take k) _ w.heap.size t.name _ (VArg.below Un Tc.o) d0).mono ?_;rintro e w2 ⟨rfl,ZY⟩;rw[Qm.o];have Vl:Bw w w2:=Un.trans (ZY.mono (by omega))
   have e1:w2.cell? ⟨w.heap.size,1,none⟩=some (.int .i64 t.lo):=(ZY.cell (p:=⟨w.heap.size,1,none⟩) (by simp only;omega)).trans d1
   have e2:w2.cell? ⟨w.heap.size,2,none⟩=some (.int .i64 t.hi):=(ZY.cell (p:=⟨w.heap.size,2,none⟩) (by simp only;omega)).trans d2
   clear ZY d0 d1 d2;go_wp2_with fail
   refine (L9 _ 50 (by omega) (by omega) _).mono ?_
   rintro e w2 ⟨rfl,rfl⟩;rw[WP.o];go_wp2_with fail
   refine (L9 _ 50 (by omega) (by omega) _).mono ?_
   rintro e w2 ⟨rfl,rfl⟩;rw[OZ.o];go_wp2
   go_ret
   exact⟨Zm HE.o.symm,Vl⟩
  by_cases h6:6<t.hi - t.lo+1
  ·have HE:Hid (R=2):=by rw[hE,hn,T6,YM,Wc,decide_eq_false xj,if_pos h6];rfl
   clear hn T6 YM Wc hE;go_enter func112,ntmps112
   go_wp2_with fail
   refine (Ij _ O0.o _).mono ?_;rintro e w1 ⟨rfl,Z5⟩;rw[HN.o];have Un:Bw w w1:=(Z4 _ _).trans (Z5.mono (by simp))
   have d0:w1.cell? ⟨w.heap.size,0,none⟩=some (.string t.name):=(Z5.cell (by simp)).trans (by simp)
   have d1:w1.cell? ⟨w.heap.size,1,none⟩=some (.int .i64 t.lo):=(Z5.cell (by simp)).trans (by simp)
   have d2:w1.cell? ⟨w.heap.size,2,none⟩=some (.int .i64 t.hi):=(Z5.cell (by simp)).trans (by simp)
   have Vt:w.heap.size+1<=w1.heap.size:=by simpa using Z5.size
   clear Z5;go_wp2_with fail
   refine (Fd (vs.take k) _ w.heap.size t.name _ (VArg.below Un Tc.o) d0).mono ?_;rintro e w2 ⟨rfl,ZY⟩;rw[Qm.o];have Vl:Bw w w2:=Un.trans (ZY.mono (by omega))
   have e1:w2.cell? ⟨w.heap.size,1,none⟩=some (.int .i64 t.lo):=(ZY.cell (p:=⟨w.heap.size,1,none⟩) (by simp only;omega)).trans d1
   have e2:w2.cell? ⟨w.heap.size,2,none⟩=some (.int .i64 t.hi):=(ZY.cell (p:=⟨w.heap.size,2,none⟩) (by simp only;omega)).trans d2
   clear ZY d0 d1 d2;go_wp2_with fail
   refine (L9 _ 50 (by omega) (by omega) _).mono ?_
   rintro e w2 ⟨rfl,rfl⟩;rw[WP.o];go_wp2_with fail
   refine (L9 _ 50 (by omega) (by omega) _).mono ?_
   rintro e w2 ⟨rfl,rfl⟩;rw[OZ.o];go_wp2
   go_ret
   exact⟨Zm HE.o.symm,Vl⟩
  have HE:Hid (R=0):=by rw[hE,hn,T6,YM,Wc,decide_eq_false xj,if_neg h6];rfl
  clear hn T6 YM Wc hE;go_enter func112,ntmps112
  go_wp2_with fail
  refine (Ij _ O0.o _).mono ?_;rintro e w1 ⟨rfl,Z5⟩;rw[HN.o];have Un:Bw w w1:=(Z4 _ _).trans (Z5.mono (by simp))
  have d0:w1.cell? ⟨w.heap.size,0,none⟩=some (.string t.name):=(Z5.cell (by simp)).trans (by simp)
  have d1:w1.cell? ⟨w.heap.size,1,none⟩=some (.int .i64 t.lo):=(Z5.cell (by simp)).trans (by simp)
  have d2:w1.cell? ⟨w.heap.size,2,none⟩=some (.int .i64 t.hi):=(Z5.cell (by simp)).trans (by simp)
  have Vt:w.heap.size+1<=w1.heap.size:=by simpa using Z5.size
  clear Z5;go_wp2_with fail
  refine (Fd (vs.take k) _ w.heap.size t.name _ (VArg.below Un Tc.o) d0).mono ?_;rintro e w2 ⟨rfl,ZY⟩;rw[Qm.o];have Vl:Bw w w2:=Un.trans (ZY.mono (by omega))
  have e1:w2.cell? ⟨w.heap.size,1,none⟩=some (.int .i64 t.lo):=(ZY.cell (p:=⟨w.heap.size,1,none⟩) (by simp only;omega)).trans d1
  have e2:w2.cell? ⟨w.heap.size,2,none⟩=some (.int .i64 t.hi):=(ZY.cell (p:=⟨w.heap.size,2,none⟩) (by simp only;omega)).trans d2
  clear ZY d0 d1 d2;go_wp2_with fail
  refine (L9 _ 50 (by omega) (by omega) _).mono ?_
  rintro e w2 ⟨rfl,rfl⟩;rw[WP.o];go_wp2_with fail
  refine (L9 _ 50 (by omega) (by omega) _).mono ?_
  rintro e w2 ⟨rfl,rfl⟩;rw[OZ.o];go_wp2
  go_ret
  exact⟨Zm HE.o.symm,Vl⟩
 have HE:Hid (R=6):=by rw[hE,hn,T6];rfl
 have Qm:=hI T6;clear hn T6 hE;go_enter func112,ntmps112
 go_wp2_with fail
 refine (Ij _ O0.o _).mono ?_;rintro e w1 ⟨rfl,Z5⟩;rw[HN.o];have Un:Bw w w1:=(Z4 _ _).trans (Z5.mono (by simp))
 have d0:w1.cell? ⟨w.heap.size,0,none⟩=some (.string t.name):=(Z5.cell (by simp)).trans (by simp)
 have d1:w1.cell? ⟨w.heap.size,1,none⟩=some (.int .i64 t.lo):=(Z5.cell (by simp)).trans (by simp)
 have d2:w1.cell? ⟨w.heap.size,2,none⟩=some (.int .i64 t.hi):=(Z5.cell (by simp)).trans (by simp)
 have Vt:w.heap.size+1<=w1.heap.size:=by simpa using Z5.size
 clear Z5;go_wp2_with fail
 refine (Fd (vs.take k) _ w.heap.size t.name _ (VArg.below Un Tc.o) d0).mono ?_;rintro e w2 ⟨rfl,ZY⟩;rw[Qm.o];have Vl:Bw w w2:=Un.trans (ZY.mono (by omega))
 have e1:w2.cell? ⟨w.heap.size,1,none⟩=some (.int .i64 t.lo):=(ZY.cell (p:=⟨w.heap.size,1,none⟩) (by simp only;omega)).trans d1
 have e2:w2.cell? ⟨w.heap.size,2,none⟩=some (.int .i64 t.hi):=(ZY.cell (p:=⟨w.heap.size,2,none⟩) (by simp only;omega)).trans d2
 clear ZY d0 d1 d2;go_wp2
 go_ret
 exact⟨Zm HE.o.symm,Vl⟩
theorem SJ {α:Type} (p:α->Bool) (l:List α) (m:Nat) (t:α) (ht:l[m]? = some t) (h:p t=false):l.all p=false:=by
 cases ha:l.all p
 ·rfl
 rw[W8.1 ha t (Zz ht)] at h;cases h
theorem RF {α:Type} (p:α->Bool) (l:List α) (m:Nat) (t:α) (ht:l[m]? = some t) (h0:(l.take m).all p=true) (h:p t=true):(l.take (m+1)).all p=true:=by
 rw[Y1,ht,List.all_append,h0];simp[h]
theorem RB {α:Type} (p:α->Bool) (l:List α) (m:Nat) (h:¬m<l.length) (h0:(l.take m).all p=true):l.all p=true:=by
 rwa [Zi (by omega)] at h0
theorem JF (v n:Int) (w:World) :
 Calls prog 186 #[.int .i64 v,.int .i64 n] w λe w'=>e=.returned (.bool (Wd v n))/\w'=w:=by
 unfold Wd;go_enter func186,ntmps186
 go_wp2
 ·go_ret;exact⟨ZD (by simp[*]),rfl⟩
 go_ret;exact⟨ZD (by rw[decide_eq_false (p:=0<=v) (by omega)];rfl),rfl⟩
theorem Fc (n:Int) (w:World) :
 Calls prog 244 #[.int .i64 n] w λe w'=>e=.returned (.bool (XC n))/\w'=w:=by
 unfold XC;go_enter func244,ntmps244
 go_wp2_with fail
 refine (L9 _ 1000 (by omega) (by omega) _).mono ?_
 rintro e w ⟨rfl,rfl⟩;go_wp2
 go_ret
 exact⟨rfl,rfl⟩
theorem DU (l:List Int) (v:Value) (w:World) (hv:IArg w v l) :
 Calls prog 243 #[v] w λe w'=>e=.returned (.bool (l.all XC))/\w'=w:=by
 obtain⟨a,c,rfl,hm,hr⟩:=hv;have HV:=hI hr;obtain⟨R,hR⟩:∃R,l.all XC=R:=⟨_,rfl⟩;rw[hR];have HR:=hI hR;unfold maxLen at hm;obtain⟨Y0,hm⟩:=hm;clear hr hR;go_enter func243,ntmps243
 go_wp2_with fail
 go_loop [7] (λi=>∃m:Nat,m<=l.length/\i=.int .i64 m/\Hid ((l.take m).all XC=true)) (λi=>l.length - (intOf i).toNat)
 case atStart=>exact⟨0,by omega,rfl,rfl⟩
 obtain⟨m,Uo,rfl,hall⟩:=hrel;by_cases Z7:m<l.length
 ·obtain⟨z,hz⟩:∃z,l[m]? = some z:=⟨l[m],by simp[Z7]⟩
  obtain⟨b,off,ha,hb,hc⟩:=HV.o m z hz;have HZ:=hI hz;subst ha;clear hz;cases hq:XC z
  ·have HN:Hid (R=false):=by rw[<-HR.o];exact SJ _ l m z HZ.o hq
   go_wp2_with fail
   refine (Fc _ _).mono ?_;rintro e w ⟨rfl,rfl⟩;rw[hq];clear hq;go_wp2
   go_ret
   exact⟨ZD HN.o.symm,rfl⟩
  have HN:Hid ((l.take (m+1)).all XC=true):=RF _ l m z HZ.o hall.o hq;go_wp2_with fail
  refine (Fc _ _).mono ?_;rintro e w ⟨rfl,rfl⟩;rw[hq];clear hq;go_wp2
  go_round
  case rel=>exact⟨m+1,by omega,by go_num,HN⟩
  case measure=>simp[intOf];omega
 have HN:Hid (R=true):=by rw[<-HR.o];exact RB _ l m Z7 hall.o
 go_wp2
 go_ret
 exact⟨ZD HN.o.symm,rfl⟩
theorem eN (l:List (List Int)) (v:Value) (n:Nat) (w:World) (hv:RArg w v l) :
 Calls prog 242 #[v,.int .i64 n] w λe w'=>e=.returned (.bool (l.all λr=>decide (r.length=n)))/\w'=w:=by
 obtain⟨a,c,rfl,hm,hr⟩:=hv;have HV:=hI hr;obtain⟨R,hR⟩:∃R,(l.all λr=>decide (r.length=n))=R:=⟨_,rfl⟩
 rw[hR];have HR:=hI hR
 unfold maxLen at hm;obtain⟨Y0,hm⟩:=hm;clear hr hR;go_enter func242,ntmps242
 go_wp2_with fail
 go_loop [9] (λi=>∃m:Nat,m<=l.length/\i=.int .i64 m/\Hid ((l.take m).all (λr=>decide (r.length=n))=true)) (λi=>l.length - (intOf i).toNat)
 case atStart=>exact⟨0,by omega,rfl,rfl⟩
 obtain⟨m,Uo,rfl,hall⟩:=hrel;by_cases Z7:m<l.length
 ·obtain⟨z,hz⟩:∃z,l[m]? = some z:=⟨l[m],by simp[Z7]⟩
  obtain⟨b,off,x,ha,hb,hc,hx⟩:=HV.o m z hz;obtain⟨a2,c2,rfl,Wk,_⟩:=hx;have HZ:=hI hz;subst ha;clear hz Wk;by_cases hq:z.length=n
  ·have HN:Hid ((l.take (m+1)).all (λr=>decide (r.length=n))=true):=RF _ l m z HZ.o hall.o (decide_eq_true hq)
   have YA:((z.length:Int) != (n:Int))=false:=by simp[hq]
   clear hq;go_wp2
   go_round
   case rel=>exact⟨m+1,by omega,by go_num,HN⟩
   case measure=>simp[intOf];omega
  have HN:Hid (R=false):=by rw[<-HR.o];exact SJ _ l m z HZ.o (decide_eq_false hq)
  have YA:((z.length:Int) != (n:Int))=true:=by simp;omega
  clear hq;go_wp2
  go_ret
  exact⟨ZD HN.o.symm,rfl⟩
 have HN:Hid (R=true):=by rw[<-HR.o];exact RB _ l m Z7 hall.o
 go_wp2
 go_ret
 exact⟨ZD HN.o.symm,rfl⟩
def opB (l:MLit):Bool:=decide (1<=l.op)&&decide (l.op<=4)
theorem eM (l:List MLit) (v:Value) (w:World) (hv:LArg w v l) :
 Calls prog 185 #[v] w λe w'=>e=.returned (.int .i64 (Io l))/\Bw w w':=by
 obtain⟨a,c,rfl,hm,hr⟩:=hv;have HV:=hI hr
 obtain⟨R,hR⟩:∃R,Io l=R:=⟨_,rfl⟩;rw[hR];have hE:R=(if l.all opB then (if l.all (λt=>XC t.n) then 0 else 3) else 7):=by rw[<-hR];rfl
 have HE:=hI hE
 unfold maxLen at hm;obtain⟨Y0,hm⟩:=hm;clear hr hR hE;go_enter func185,ntmps185
 go_wp2_with fail
 go_loopw [9] (λi wr=>∃m:Nat,m<=l.length/\i=.int .i64 m/\Hid ((l.take m).all opB=true)/\Bw w wr) (λi _=>l.length - (intOf i).toNat)
 case atStart=>exact⟨0,by omega,rfl,rfl,Z6 _ _⟩
 obtain⟨m,Uo,rfl,hall,Z3⟩:=hrel;by_cases Z7:m<l.length
 ·obtain⟨t,hz⟩:∃z,l[m]? = some z:=⟨l[m],by simp[Z7]⟩
  obtain⟨b,off,ha,hb,c0,c1,c2⟩:=HV.o m t hz;have HZ:=hI hz;have XN:=(Z3.cell (p:=⟨b,off+m * 3,none⟩) hb).trans c0;have X':=(Z3.cell (p:=⟨b,off+m * 3+1,none⟩) hb).trans c1;have Yb:=(Z3.cell (p:=⟨b,off+m * 3+2,none⟩) hb).trans c2;have Y':=Z3.size;subst ha;clear hz c0 c1 c2;by_cases h1:1<=t.op
  ·by_cases h4:t.op<=4
   ·have HN:Hid ((l.take (m+1)).all opB=true):=RF _ l m t HZ.o hall.o (by unfold opB;rw[decide_eq_true h1,decide_eq_true h4];rfl)
    go_wp2
    go_roundw
    case rel=>exact⟨m+1,by omega,by go_num,HN,Z3.alloc Y' _⟩
    case measure=>simp[intOf];omega
   have HN:Hid (R=7):=by rw[HE.o,SJ opB l m t HZ.o (by unfold opB;rw[decide_eq_true h1,decide_eq_false h4];rfl)];rfl
   go_wp2
   go_ret
   exact⟨Zm HN.o.symm,Z3.alloc Y' _⟩
  have HN:Hid (R=7):=by rw[HE.o,SJ opB l m t HZ.o (by unfold opB;rw[decide_eq_false h1];rfl)];rfl
  go_wp2
  go_ret
  exact⟨Zm HN.o.symm,Z3.alloc Y' _⟩
 have DT:Hid (l.all opB=true):=RB _ l m Z7 hall.o;have Y':=Z3.size;obtain⟨wo,rfl⟩:∃wo:World,wo=wr:=⟨_,rfl⟩;go_wp2
 go_loopw [24] (λi wr=>∃m:Nat,m<=l.length/\i=.int .i64 m/\Hid ((l.take m).all (λt=>XC t.n)=true)/\Bw w wr) (λi _=>l.length - (intOf i).toNat)
 case atStart=>exact⟨0,by omega,rfl,rfl,Z3⟩
 clear Z3 Y' hall Uo Z7;obtain⟨m,Uo,rfl,hall,Z3⟩:=hrel;by_cases Z7:m<l.length
 ·obtain⟨t,hz⟩:∃z,l[m]? = some z:=⟨l[m],by simp[Z7]⟩
  obtain⟨b,off,ha,hb,c0,c1,c2⟩:=HV.o m t hz;have HZ:=hI hz;have XN:=(Z3.cell (p:=⟨b,off+m * 3,none⟩) hb).trans c0;have X':=(Z3.cell (p:=⟨b,off+m * 3+1,none⟩) hb).trans c1;have Yb:=(Z3.cell (p:=⟨b,off+m * 3+2,none⟩) hb).trans c2;have Y':=Z3.size;subst ha;clear hz c0 c1 c2;cases hq:XC t.n
  ·have HN:Hid (R=3):=by rw[HE.o,DT.o,SJ (λt:MLit=>XC t.n) l m t HZ.o hq];rfl
   go_wp2_with fail
   refine (Fc _ _).mono ?_;rintro e w2 ⟨rfl,Ya⟩;rw[hq,Ya];clear hq Ya;go_wp2
   go_ret
   exact⟨Zm HN.o.symm,Z3.alloc Y' _⟩
  have HN:Hid ((l.take (m+1)).all (λt=>XC t.n)=true):=RF _ l m t HZ.o hall.o hq
  go_wp2_with fail
  refine (Fc _ _).mono ?_;rintro e w2 ⟨rfl,Ya⟩;rw[hq,Ya];clear hq Ya;go_wp2
  go_roundw
  case rel=>exact⟨m+1,by omega,by go_num,HN,Z3.alloc Y' _⟩
  case measure=>simp[intOf];omega
 have HN:Hid (R=0):=by rw[HE.o,DT.o,RB _ l m Z7 hall.o];rfl
 go_wp2
 go_ret
 exact⟨Zm HN.o.symm,Z3⟩
end Go.Proofs.YtndcpnlaadikoaaGreatDoor
