/- What the proof leans on, part 8. -/
import Derived.Test.YtndcpnlaadikoaaGreatDoorPartAg
import Derived.Lib.TrailingZeros
namespace Go.Proofs.YtndcpnlaadikoaaGreatDoor
def Zg (a b:Nat):Nat:=a ^^^ (a &&& b)
theorem TJ (a b i:Nat):(Zg a b).testBit i=(a.testBit i&&!b.testBit i):=by
 unfold Zg;rw[Nat.testBit_xor,RK];cases a.testBit i <;> cases b.testBit i <;> rfl
theorem Pz (n a b:Nat) (h:a<2 ^ n):Zg a b<2 ^ n:=Nat.xor_lt_two_pow h (UW Nv h)
theorem Dv (a b:Nat):Zg a b<=a:=by
 apply SP;intro i h;rw[TJ] at h;simp at h;exact h.1
theorem N' (a b:Nat) (ha:a<18446744073709551616) (hb:b<18446744073709551616):bits .andNot .u64 (a:Int) (b:Int)=((Zg a b:Nat):Int):=by
 have h1:(BitVec.ofInt 64 (a:Int)).toNat=a:=by rw[BitVec.ofInt_natCast,BitVec.toNat_ofNat];exact Nat.mod_eq_of_lt (by omega)
 have h2:(BitVec.ofInt 64 (b:Int)).toNat=b:=by rw[BitVec.ofInt_natCast,BitVec.toNat_ofNat];exact Nat.mod_eq_of_lt (by omega)
 have key:(BitVec.ofInt 64 (a:Int) &&& ~~~BitVec.ofInt 64 (b:Int)).toNat=Zg a b:=by
  apply Qz;intro i;rw[TJ,BitVec.toNat_and,RK,h1,BitVec.testBit_toNat,BitVec.getLsbD_not,<-BitVec.testBit_toNat,h2];by_cases hi:i<64
  ·simp[hi]
  have:a.testBit i=false:=Lg (ZQ ha (by
   have:=SS (n:=2) (by omega) (show 64<=i by omega)
   simpa using this))
  simp[this]
 show IntKind.u64.wrap ((BitVec.ofInt 64 (a:Int) &&& ~~~BitVec.ofInt 64 (b:Int)).toNat:Int)=_;rw[key,IntKind.wrap_u64];have:=Pz 64 a b (by simpa using ha)
 omega
def rowP (f:Int->Bool) (b:Nat) (lo:Int):Nat->Nat
 | 0=>0
 | k+1=>if f (lo+(k:Int)) then rowP f b lo k ||| 2 ^ (b+k) else rowP f b lo k
theorem E5 (n i:Nat):(2 ^ n).testBit i=decide (n=i):=by rw[Nat.testBit_two_pow]
theorem E4 (f:Int->Bool) (b:Nat) (lo:Int):∀(k i:Nat),(rowP f b lo k).testBit i=(decide (b<=i)&&(decide (i<b+k)&&f (lo+((i - b:Nat):Int))))
 | 0,i=>by
   simp only[rowP,SN,Wl];by_cases h:b<=i
   ·simp[h];omega
   simp[h]
 | k+1,i=>by
   unfold rowP;by_cases hi:i=b+k
   ·subst hi
    have e:((b+k - b:Nat):Int)=(k:Int):=by omega
    cases hf:f (lo+(k:Int))
    ·rw[if_neg (by simp),E4 f b lo k];simp[hf]
    rw[if_pos rfl,Tv,E5,E4 f b lo k];simp[hf]
   have e:decide (i<b+(k+1))=decide (i<b+k):=by
    by_cases h:i<b+k
    ·simp[h];omega
    simp[h];omega
   rw[e]
   split
   ·rw[Tv,E5,E4 f b lo k,show decide (b+k=i)=false by simp;omega,O1]
   exact E4 f b lo k i
def XG (p:Nat):Nat:=63 * 2 ^ (6 * (Lib.ctz 64 p / 6))
theorem wv (i:Nat):Nat.testBit 63 i=decide (i<6):=by
 rw[show (63:Nat)=2 ^ 6 - 1 from rfl,Nat.testBit_two_pow_sub_one]
theorem oU (v i:Nat):(63 * 2 ^ (6 * v)).testBit i=decide (i / 6=v):=by
 rw[Nat.mul_comm,Nat.testBit_two_pow_mul,wv];by_cases h:i / 6=v
 ·subst h;simp;omega
 simp[h];omega
def oT:MVar:=⟨ByteArray.empty,0,0⟩
def WN (v:MVar):Nat:=(v.hi+1 - v.lo).toNat
def ZF (vs:List MVar) (v:Nat):MVar:=vs.getD v oT
def ofN (vs:List MVar) (f:Nat->Int->Bool):Nat->Nat
 | 0=>0
 | v+1=>ofN vs f v ||| rowP (f v) (6 * v) (ZF vs v).lo (WN (ZF vs v))
def ofP (vs:List MVar) (f:Nat->Int->Bool):Nat:=ofN vs f vs.length
def zAN (vs:List MVar):Nat:=ofP vs λ_ _=>true
def SE (vs:List MVar) (s:Sto):Nat:=ofP vs λv x=>hasB (s.getD v []) x
def zAH (vs:List MVar) (c:Cla):Nat:=ofP vs λv x=>oneB c v x
def XU (vs:List MVar):Prop:=vs.length<=6/\∀v:Nat,WN (ZF vs v)<=6
theorem OS (vs:List MVar) (hv:XU vs) (f:Nat->Int->Bool):∀(n i:Nat),(ofN vs f n).testBit i=(decide (i / 6<n)&&(decide (i % 6<WN (ZF vs (i / 6)))&&f (i / 6) ((ZF vs (i / 6)).lo+((i % 6:Nat):Int))))
 | 0,i=>by simp[ofN]
 | v+1,i=>by
   have h6:=hv.2 v;unfold ofN;rw[Tv,OS vs hv f v i,E4];by_cases hi:i / 6=v
   ·subst hi
    have e1:i - 6 * (i / 6)=i % 6:=by omega
    have e2:decide (i<6 * (i / 6)+WN (ZF vs (i / 6)))=decide (i % 6<WN (ZF vs (i / 6))):=by
     by_cases h:i % 6<WN (ZF vs (i / 6))
     ·simp[h];omega
     simp[h];omega
    rw[e1,e2,show decide (6 * (i / 6)<=i)=true by simp;omega]
    simp
   have e1:decide (i / 6<v+1)=decide (i / 6<v):=by
    by_cases h:i / 6<v
    ·simp[h];omega
    simp[h];omega
   have e2:(decide (6 * v<=i)&&(decide (i<6 * v+WN (ZF vs v))&&f v ((ZF vs v).lo+((i - 6 * v:Nat):Int))))=false:=by
    by_cases h:6 * v<=i
    ·have:¬(i<6 * v+WN (ZF vs v)):=by omega
     simp[this]
    simp[h]
   rw[e1,e2,O1]
theorem oS (vs:List MVar) (hv:XU vs) (f:Nat->Int->Bool) (n:Nat) (hn:n<=6):ofN vs f n<2 ^ 36:=by
 apply Iv;intro i hi;rw[OS vs hv];have:¬(i / 6<n):=by omega
 simp[this]
theorem Qh (vs:List MVar) (hv:XU vs) (f:Nat->Int->Bool):ofP vs f<2 ^ 36:=oS vs hv f _ hv.1
def Wu (n p:Nat):Bool:=(List.range n).any λv=>p / 2 ^ (v * 6) &&& 63==0
def Sc (h p:Nat):Bool:=p &&& h==0
def TI (vs:List MVar) (pts:List Nat) (h:Nat):Bool:=Wu vs.length (Zg (zAN vs) h) || !pts.any (Sc h)
def VP (vs:List MVar) (c:MCon):List Int->List Int->Nat->List Nat
 | [],vals,a=>if YL c vals then [a] else []
 | v :: r,vals,a=>(Qj (ZF vs v.toNat).lo (ZF vs v.toNat).hi).flatMap λx=>VP vs c r (vals.set v.toNat x) (a ||| 2 ^ (6 * v.toNat+(x - (ZF vs v.toNat).lo).toNat))
def XB (vs:List MVar) (c:MCon):List Nat:=VP vs c (YC c) (XM vs.length) 0
def Xp:List Nat->Nat->Option Nat
 | [],left=>some left
 | c :: r,left =>
   if left &&& c=0 then none
   else if Zg (left &&& c) (XG (left &&& c))=0 then Xp r (Zg left (Zg (XG (left &&& c)) (left &&& c))) else Xp r left
def U3 (cs:List Nat):Nat->Nat->Nat
 | 0,left=>left
 | f+1,left=>match Xp cs left with
   | none=>0
   | some l=>if l=left then left else U3 cs f l
def Xv (vs:List MVar) (cs:List Nat) (p:Nat):Nat:=if Wu vs.length p then 0 else U3 cs (p+1) p
def N9 (vs:List MVar) (cs:List Nat) (h:Nat):Bool:=Xv vs cs (Zg (zAN vs) h)==0
theorem Nd:∀(cs:List Nat) (left l:Nat),Xp cs left=some l->l<=left
 | [],left,l,h=>by simp[Xp] at h;omega
 | c :: r,left,l,h=>by
   unfold Xp at h
   split at h
   ·cases h
   split at h
   ·exact ZT (Nd r _ l h) (Dv _ _)
   exact Nd r _ l h
theorem oR (cs:List Nat):∀(f g left:Nat),left<f->left<g->U3 cs f left=U3 cs g left
 | 0,g,left,hf,hg=>by omega
 | f+1,0,left,hf,hg=>by omega
 | f+1,g+1,left,hf,hg=>by
   unfold U3;cases hr:Xp cs left with
   | none=>rfl
   | some l =>
     simp only
     split
     ·rfl
     have:=Nd cs left l hr;exact oR cs f g l (by omega) (by omega)
theorem oQ (cs:List Nat) (left:Nat):U3 cs (left+1) left=match Xp cs left with
 | none=>0
 | some l=>if l=left then left else U3 cs (l+1) l:=by
 conv=>lhs;unfold U3
 cases hr:Xp cs left with
 | none=>rfl
 | some l =>
   simp only
   split
   ·rfl
   have:=Nd cs left l hr;exact oR cs _ _ l (by omega) (by omega)
theorem wu (cs:List Nat):∀(f left:Nat),U3 cs f left<=left
 | 0,left=>Z2 _
 | f+1,left=>by
   unfold U3;cases hr:Xp cs left with
   | none=>simp
   | some l =>
     simp only
     split
     ·exact Z2 _
     exact ZT (wu cs f l) (Nd cs left l hr)
theorem Du (vs:List MVar) (cs:List Nat) (p:Nat):Xv vs cs p<=p:=by
 unfold Xv
 split
 ·exact YI _
 exact wu cs _ _
def posV (vs:List MVar) (vals:List Int) (v:Nat):Nat:=6 * v+(Zx vals (v:Int) - (ZF vs v).lo).toNat
def S8 (vs:List MVar) (vals:List Int):Prop:=vals.length=vs.length/\∀v:Nat,v<vs.length->(ZF vs v).lo<=Zx vals (v:Int)/\Zx vals (v:Int)<=(ZF vs v).hi
theorem H4 (vs:List MVar) (hv:XU vs) (vals:List Int) (hm:S8 vs vals) (v:Nat) (h:v<vs.length):posV vs vals v / 6=v/\posV vs vals v % 6<WN (ZF vs v)/\(ZF vs v).lo+((posV vs vals v % 6:Nat):Int)=Zx vals (v:Int):=by
 have h1:=hm.2 v h;have h2:=hv.2 v;have h3:posV vs vals v=6 * v+(Zx vals (v:Int) - (ZF vs v).lo).toNat:=rfl;unfold WN at h2 ⊢;omega
theorem wt (vs:List MVar) (hv:XU vs) (vals:List Int) (hm:S8 vs vals) (f:Nat->Int->Bool) (v:Nat) (h:v<vs.length):(ofP vs f).testBit (posV vs vals v)=f v (Zx vals (v:Int)):=by
 obtain⟨p1,p2,p3⟩:=H4 vs hv vals hm v h;unfold ofP;rw[OS vs hv,p1,p3];simp[h,p2]
theorem cL (vs:List MVar) (c:Cla) (vals:List Int) (hc:∀l∈c,0<=l.var/\l.var<(vs.length:Int)):claB c vals=true↔∃v:Nat,v<vs.length/\oneB c v (Zx vals (v:Int))=true:=by
 rw[eu]
 constructor
 ·rintro ⟨l,hl,h⟩
  have:=hc l hl;refine⟨l.var.toNat,by omega,(AB _ _ _).2 ⟨l,hl,by omega,?_⟩⟩
  unfold Zx;rw[YK];exact h
 rintro ⟨v,_,h⟩;obtain⟨l,hl,he,h⟩:=(AB _ _ _).1 h;refine⟨l,hl,?_⟩;rw[he];exact h
def Hits (vs:List MVar) (vals:List Int) (p:Nat):Prop:=∃v:Nat,v<vs.length/\p.testBit (posV vs vals v)=true
theorem cK (vs:List MVar) (hv:XU vs) (vals:List Int) (hm:S8 vs vals) (c:Cla) (hc:∀l∈c,0<=l.var/\l.var<(vs.length:Int)):Hits vs vals (zAH vs c)↔claB c vals=true:=by
 rw[cL vs c vals hc]
 constructor
 ·rintro ⟨v,h,hb⟩
  unfold zAH at hb;rw[wt vs hv vals hm _ v h] at hb;exact⟨v,h,hb⟩
 rintro ⟨v,h,hb⟩;refine⟨v,h,?_⟩;unfold zAH;rw[wt vs hv vals hm _ v h];exact hb
theorem Ak (n p:Nat) (h:∀v,v<n->∃k,k<6/\p.testBit (6 * v+k)=true):Wu n p=false:=by
 cases hl:Wu n p
 ·rfl
 unfold Wu at hl;obtain⟨v,hv,hb⟩:=Yh.1 hl;obtain⟨k,hk,hp⟩:=h v (W6.1 hv);have h0:p / 2 ^ (v * 6) &&& 63=0:=by simpa using hb
 have:=congrArg (λq=>Nat.testBit q k) h0
 simp only[RK,wv,Nat.testBit_div_two_pow,SN] at this;rw[show k+v * 6=6 * v+k by omega,hp] at this
 simp[hk] at this
def Uj (vs:List MVar) (vals:List Int) (p:Nat):Prop:=∀v:Nat,v<vs.length->p.testBit (posV vs vals v)=true
theorem cJ (vs:List MVar) (hv:XU vs) (vals:List Int) (hm:S8 vs vals) (p:Nat) (h:Uj vs vals p):Wu vs.length p=false:=by
 refine Ak _ _ λv hl=>⟨posV vs vals v % 6,by omega,?_⟩
 have:=(H4 vs hv vals hm v hl).1;have h2:=h v hl;rw[show 6 * v+posV vs vals v % 6=posV vs vals v by omega]
 exact h2
theorem cI (vs:List MVar) (hv:XU vs) (vals:List Int) (hm:S8 vs vals) (h:Nat) (hh:¬Hits vs vals h):Uj vs vals (Zg (zAN vs) h):=by
 intro v hl;rw[TJ];unfold zAN;rw[wt vs hv vals hm _ v hl];cases hb:h.testBit (posV vs vals v)
 ·rfl
 exact absurd ⟨v,hl,hb⟩ hh
theorem oP (vs:List MVar) (c:MCon) (vals:List Int) (hm:S8 vs vals):∀(r u:List Int) (a:Nat),(∀v∈r,0<=v/\v<(vs.length:Int))->u.length=vs.length ->
 (∀u':List Int,u'.length=vs.length->(∀v∈r,Zx u' v=Zx vals v)->(∀w:Int,(∀v∈r,v.toNat≠w.toNat)->Zx u' w=Zx u w)->YL c u'=true) ->
 ∃p∈VP vs c r u a,∀i,p.testBit i=true->a.testBit i=true∨∃v:Nat,v<vs.length/\i=posV vs vals v
 | [],u,a,_,hu,hh=>by
   have h:=hh u hu (λv hv=>by cases hv) (λ_ _=>rfl)
   refine⟨a,?_,λi hi=>Or.inl hi⟩
   unfold VP;rw[if_pos h];exact Zh.2 rfl
 | v :: r,u,a,hr,hu,hh=>by
   obtain⟨v0,v1⟩:=hr v (Zk ..);have Vo:v.toNat<vs.length:=by omega
   have KW:=hm.2 v.toNat Vo;rw[show ((v.toNat:Nat):Int)=v by omega] at KW
   obtain⟨p,hp,hb⟩:=oP vs c vals hm r (u.set v.toNat (Zx vals v)) (a ||| 2 ^ (6 * v.toNat+(Zx vals v - (ZF vs v.toNat).lo).toNat)) (λx hx=>hr x (Y2 _ hx)) (by simpa using hu) (by
    intro u' h1 h2 h3;refine hh u' h1 (λx hx=>?_) (λw hw=>?_)
    ·rcases YJ.1 hx with rfl | hx
     ·by_cases hq:∃y∈r,y.toNat=x.toNat
      ·obtain⟨y,hy,he⟩:=hq
       have:=hr y (Y2 _ hy);have:y=x:=by omega
       rw[<-this];exact h2 y hy
      ·rw[h3 x (λy hy he=>hq ⟨y,hy,he⟩),wH _ _ _ (by omega)]
     ·exact h2 x hx
    ·rw[h3 w (λy hy=>hw y (Y2 _ hy)),wG _ _ _ _ (hw v (Zk ..))])
   refine⟨p,?_,λi hi=>?_⟩
   ·unfold VP
    exact UV.2 ⟨Zx vals v,oW _ _ _ KW.1 KW.2,hp⟩
   rcases hb i hi with h | h
   ·rw[Tv,T'] at h
    rcases h with h | h
    ·exact Or.inl h
    rw[E5] at h;refine Or.inr ⟨v.toNat,Vo,?_⟩;unfold posV;rw[show ((v.toNat:Nat):Int)=v by omega]
    exact (of_decide_eq_true h).symm
   exact Or.inr h
theorem oO (p i:Nat) (h:Zg p (XG p)=0) (hi:p.testBit i=true):(XG p).testBit i=true:=by
 have:=congrArg (λq=>Nat.testBit q i) h
 simp only[TJ,hi,SN] at this;simpa using this
theorem wn (vs:List MVar) (hv:XU vs) (vals:List Int) (hm:S8 vs vals):∀(cs:List Nat) (left:Nat),(∀c∈cs,Hits vs vals c)->Uj vs vals left->∃l,Xp cs left=some l/\Uj vs vals l
 | [],left,_,hw=>⟨left,rfl,hw⟩
 | c :: r,left,hc,hw=>by
   obtain⟨v,X8,hb⟩:=hc c (Zk ..);have ho:(left &&& c).testBit (posV vs vals v)=true:=by rw[RK,hw v X8,hb];rfl
   have ZP:left &&& c≠0:=λh=>by rw[h] at ho;simp at ho
   unfold Xp;rw[if_neg ZP]
   split
   ·rename_i hf
    refine wn vs hv vals hm r _ (λd hd=>hc d (Y2 _ hd)) λu hu=>?_
    rw[TJ,hw u hu,TJ];by_cases cH:u=v
    ·subst cH;rw[ho];simp
    have Aj:=oO _ _ hf ho;have:(XG (left &&& c)).testBit (posV vs vals u)=false:=by
     unfold XG at Aj ⊢;rw[oU] at Aj ⊢;rw[(H4 vs hv vals hm v X8).1] at Aj;rw[(H4 vs hv vals hm u hu).1];have:v=Lib.ctz 64 (left &&& c) / 6:=by simpa using Aj
     simp;omega
    rw[this];simp
   exact wn vs hv vals hm r _ (λd hd=>hc d (Y2 _ hd)) hw
theorem oN (vs:List MVar) (hv:XU vs) (vals:List Int) (hm:S8 vs vals) (cs:List Nat) (hc:∀c∈cs,Hits vs vals c):∀(f left:Nat),Uj vs vals left->Uj vs vals (U3 cs f left)
 | 0,left,hw=>hw
 | f+1,left,hw=>by
   obtain⟨l,hl,Ya⟩:=wn vs hv vals hm cs left hc hw;unfold U3;rw[hl];simp only
   split
   ·exact hw
   exact oN vs hv vals hm cs hc f l Ya
theorem cG (vs:List MVar) (hv:XU vs) (vals:List Int) (hm:S8 vs vals) (cs:List Nat) (hc:∀c∈cs,Hits vs vals c) (p:Nat) (hw:Uj vs vals p):Uj vs vals (Xv vs cs p):=by
 unfold Xv;rw[cJ vs hv vals hm _ hw];exact oN vs hv vals hm cs hc _ _ hw
theorem wl (vs:List MVar) (h1:1<=vs.length) (vals:List Int) (p:Nat) (hw:Uj vs vals p):p≠0:=by
 intro h0;have:=hw 0 (by omega)
 rw[h0,SN] at this;cases this
def QS (m:Mod) (ahead:List Nat) (s:MStep):Bool :=
 if s.kind=1 then TI m.vars (XB m.vars (m.cons.getD s.con.toNat Ao)) (zAH m.vars s.cla)
 else if s.kind=2/\s.con=0 then N9 m.vars ahead (zAH m.vars s.cla) else false
def U2 (m:Mod):List Nat->List MStep->Bool
 | _,[]=>true
 | ahead,s :: r=>QS m ahead s&&U2 m (ahead++[zAH m.vars s.cla]) r
theorem Py (m:Mod) (hm:Zs m=0):XU m.vars:=by
 refine⟨(RH m hm).2.1,λv=>?_⟩
 by_cases h:v<m.vars.length
 ·have e:m.vars[v]? = some (ZF m.vars v):=by unfold ZF;rw[ZO,ZA h];rfl
  have:=Il m hm v _ e;unfold WN;omega
 unfold ZF;rw[ZO,V7 (by omega)]
 decide
theorem Ai (m:Mod) (hm:Zs m=0):1<=m.vars.length:=by
 have:=(RH m hm).1;omega
theorem cF (m:Mod) (c:Cla) (h:claE m.vars c=0):∀l∈c,0<=l.var/\l.var<(m.vars.length:Int):=by
 have h1:=cO m c h;intro l hl;have:=h1 l hl;rw[H5] at this;exact this
def Sb (p:Nat):List Nat:=(List.range 36).filter λi=>p.testBit i
theorem cE (x:Nat) (h0:x≠0) (h:x<2 ^ 64):∃m,x=2 ^ (Lib.ctz 64 x+1) * m+2 ^ Lib.ctz 64 x/\Lib.ctz 64 x<64:=by
 obtain⟨m,h1,h2⟩:=Lib.ctzFrom_spec 64 x (by omega) h
 have e:Lib.ctz 64 x=Lib.ctzFrom 64 x:=by unfold Lib.ctz;rw[if_neg h0]
 rw[e];refine⟨m,?_,h2⟩
 conv=>lhs;rw[h1]
 rw[Nat.pow_succ,Nat.mul_add,Nat.mul_one,Nat.mul_assoc]
theorem H3 (x:Nat) (h0:x≠0) (h:x<2 ^ 64) (i:Nat):(i<Lib.ctz 64 x->x.testBit i=false)/\(i=Lib.ctz 64 x->x.testBit i=true)/\(x &&& (x - 1)).testBit i=(x.testBit i&&!decide (i=Lib.ctz 64 x)):=by
 obtain⟨m,h1,_⟩:=cE x h0 h;generalize hk:Lib.ctz 64 x=k at h1;have hp:0<2 ^ k:=Nat.pow_pos (by omega)
 have Z7:2 ^ k<2 ^ (k+1):=by rw[Nat.pow_succ];omega
 have h2:x - 1=2 ^ (k+1) * m+(2 ^ k - 1):=by omega
 have t1:x.testBit i=if i<k+1 then decide (k=i) else m.testBit (i - (k+1)):=by
  rw[h1,Nat.testBit_two_pow_mul_add _ Z7]
  split
  ·exact E5 k i
  rfl
 have t2:(x - 1).testBit i=if i<k+1 then decide (i<k) else m.testBit (i - (k+1)):=by
  rw[h2,Nat.testBit_two_pow_mul_add _ (by omega)]
  split
  ·exact Nat.testBit_two_pow_sub_one ..
  rfl
 refine⟨λhi=>?_,λhi=>?_,?_⟩
 ·rw[t1,if_pos (by omega)];simp;omega
 ·rw[t1,if_pos (by omega)];simp;omega
 rw[RK,t1,t2];by_cases hi:i<k+1
 ·rw[if_pos hi,if_pos hi]
  by_cases he:k=i
  ·subst he;simp
  simp[he]
 rw[if_neg hi,if_neg hi,show decide (i=k)=false by simp;omega];simp
theorem Ah (x:Nat) (h0:x≠0) (h:x<2 ^ 64):x &&& (x - 1)<x:=by
 have h1:=H3 x h0 h;have V4:x &&& (x - 1)<=x:=Nv;have:x &&& (x - 1)≠x:=λhe=>by
  have h2:=(h1 (Lib.ctz 64 x)).2.2;rw[he,(h1 (Lib.ctz 64 x)).2.1 rfl] at h2;simp at h2
 omega
theorem cD:Sb 0=[]:=by simp[Sb]
theorem Ag (x:Nat) (h0:x≠0) (h:x<2 ^ 36):Sb x=Lib.ctz 64 x :: Sb (x &&& (x - 1))/\Lib.ctz 64 x<36:=by
 have cC:x<2 ^ 64:=ZQ h (SS (by omega) (by omega))
 have hb:=H3 x h0 cC;have hk:Lib.ctz 64 x<36:=by
  apply Xz;intro hn;have h1:=(hb (Lib.ctz 64 x)).2.1 rfl;rw[Lg (ZQ h (SS (by omega) (by omega)))] at h1
  cases h1
 refine⟨?_,hk⟩;generalize hc:Lib.ctz 64 x=k at *;unfold Sb;have hs:List.range 36=List.range k++(k :: (List.range (36 - (k+1))).map (·+(k+1))):=by
  have h1:List.range 36=List.range ((k+1)+(36 - (k+1))):=by congr 1;omega
  rw[h1,List.range_add,List.range_succ,SO]
  congr 1
  simp only[List.singleton_append,List.cons.injEq,true_and];apply Nz;intro a _;omega
 rw[hs,List.filter_append,List.filter_append,Qt,Qt];have e1:(List.range k).filter (λi=>x.testBit i)=[]:=ND.2 λa ha=>by
  rw[(hb a).1 (W6.1 ha)];simp
 have e2:(List.range k).filter (λi=>(x &&& (x - 1)).testBit i)=[]:=ND.2 λa ha=>by
  rw[(hb a).2.2,(hb a).1 (W6.1 ha)];simp
 have e3:x.testBit k=true:=(hb k).2.1 rfl;have e4:(x &&& (x - 1)).testBit k=false:=by rw[(hb k).2.2];simp
 rw[e1,e2,e3,e4,if_pos rfl,if_neg (by simp),O2,O2]
 congr 1
 apply List.filter_congr;intro a ha;obtain⟨b,_,rfl⟩:=Zj.1 ha;rw[(hb _).2.2,show decide (b+(k+1)=k)=false by simp;omega];simp
def VE (vs:List MVar) (p:Nat):Cla:=(Sb p).map λi=>⟨((i / 6:Nat):Int),3,(ZF vs (i / 6)).lo+((i % 6:Nat):Int)⟩
theorem E3 (vs:List MVar) (p:Nat):(VE vs p).length<=36:=by
 unfold VE Sb;rw[YU];exact ZT (Tz _ _) (by simp)
def Px (says:Nat->Bool):Nat->Nat->Nat->Nat
 | 0,gone,_=>gone
 | f+1,gone,rest=>if rest=0 then gone else Px says f (if says (Zg gone (2 ^ Lib.ctz 64 rest)) then Zg gone (2 ^ Lib.ctz 64 rest) else gone) (rest &&& (rest - 1))
theorem oM (says:Nat->Bool):∀(f g gone rest:Nat),rest<f->rest<g->rest<2 ^ 64->Px says f gone rest=Px says g gone rest
 | 0,g,gone,rest,hf,hg,_=>by omega
 | f+1,0,gone,rest,hf,hg,_=>by omega
 | f+1,g+1,gone,rest,hf,hg,h=>by
   unfold Px
   split
   ·rfl
   rename_i h0
   have:=Ah rest h0 h;exact oM says f g _ _ (by omega) (by omega) (by omega)
theorem cA (says:Nat->Bool) (gone rest:Nat) (h0:rest≠0) (h:rest<2 ^ 64):Px says (rest+1) gone rest=Px says ((rest &&& (rest - 1))+1) (if says (Zg gone (2 ^ Lib.ctz 64 rest)) then Zg gone (2 ^ Lib.ctz 64 rest) else gone) (rest &&& (rest - 1)):=by
 conv=>lhs;unfold Px
 rw[if_neg h0];have:=Ah rest h0 h;exact oM says _ _ _ _ (by omega) (by omega) (by omega)
theorem Hz (lo hi x:Int):x∈Qj lo hi↔lo<=x/\x<=hi:=by
 refine⟨λh=>?_,λh=>oW lo hi x h.1 h.2⟩
 unfold Qj at h;obtain⟨k,hk,rfl⟩:=Zj.1 h;have:=W6.1 hk;omega
theorem Af (vs:List MVar) (c:MCon):∀(r u:List Int) (a p:Nat),(∀v∈r,0<=v/\v<(vs.length:Int))->u.length=vs.length->p∈VP vs c r u a ->
 ∃u':List Int,u'.length=vs.length/\YL c u'=true/\(∀v∈r,(ZF vs v.toNat).lo<=Zx u' v/\Zx u' v<=(ZF vs v.toNat).hi)/\(∀w:Int,(∀v∈r,v.toNat≠w.toNat)->Zx u' w=Zx u w) /\
  (∀i,a.testBit i=true->p.testBit i=true)/\∀v∈r,p.testBit (6 * v.toNat+(Zx u' v - (ZF vs v.toNat).lo).toNat)=true
 | [],u,a,p,_,hu,hp=>by
   unfold VP at hp
   split at hp
   ·rename_i hh
    rw[Zh.1 hp];exact⟨u,hu,hh,(λv hv=>by cases hv),(λ_ _=>rfl),(λ_ h=>h),(λv hv=>by cases hv)⟩
   cases hp
 | v :: r,u,a,p,hr,hu,hp=>by
   unfold VP at hp;obtain⟨x,hx,hp⟩:=UV.1 hp;obtain⟨h1,h2⟩:=(Hz _ _ _).1 hx;obtain⟨v0,v1⟩:=hr v (Zk ..);obtain⟨u',l1,l2,l3,l4,l5,l6⟩:=Af vs c r _ _ p (λy hy=>hr y (Y2 _ hy)) (by simpa using hu) hp
   have key:(∀y∈r,y.toNat≠v.toNat)->Zx u' v=x:=λhq=>by rw[l4 v hq,wH _ _ _ (by omega)]
   have same:∀y∈r,y.toNat=v.toNat->y=v:=λy hy he=>by
    have:=hr y (Y2 _ hy);omega
   refine⟨u',l1,l2,λy hy=>?_,λw hw=>?_,λi hi=>l5 i (by rw[Tv,hi];rfl),λy hy=>?_⟩
   ·rcases YJ.1 hy with rfl | hy
    ·by_cases hq:∃z∈r,z.toNat=y.toNat
     ·obtain⟨z,hz,he⟩:=hq
      rw[<-same z hz he];exact l3 z hz
     rw[key λz hz he=>hq ⟨z,hz,he⟩];exact⟨h1,h2⟩
    exact l3 y hy
   ·rw[l4 w (λy hy=>hw y (Y2 _ hy)),wG _ _ _ _ (hw v (Zk ..))]
   rcases YJ.1 hy with rfl | hy
   ·by_cases hq:∃z∈r,z.toNat=y.toNat
    ·obtain⟨z,hz,he⟩:=hq
     rw[<-same z hz he];exact l6 z hz
    rw[key λz hz he=>hq ⟨z,hz,he⟩]
    refine l5 _ ?_;rw[Tv,E5];simp
   exact l6 y hy
theorem cw (p i:Nat) (hi:i<36):i∈Sb p↔p.testBit i=true:=by
 unfold Sb;rw[WC,W6];exact⟨λh=>h.2,λh=>⟨hi,h⟩⟩
theorem Ae (m:Mod) (hm:Zs m=0) (v:Nat) (h:v<m.vars.length):-50<=(ZF m.vars v).lo/\(ZF m.vars v).hi<=50:=by
 have e:m.vars[v]? = some (ZF m.vars v):=by unfold ZF;rw[ZO,ZA h];rfl
 have:=Il m hm v _ e;omega
def UP (p:Nat):List Nat->Nat×Nat×Bool->Nat×Nat×Bool
 | [],s=>s
 | q :: r,s=>UP p r (if Zg q p=0 then (q,s.2.1 ||| q,true) else s)
def clrN:Nat->Nat->Nat->Nat
 | 0,_,p=>p
 | f+1,s,p=>if s=0 then p else clrN f (Zg s (XG s)) (Zg p (XG s))
def Ui (pts:List Nat) (p:Nat):Nat :=
 if (UP p pts (0,0,false)).2.2 then clrN ((UP p pts (0,0,false)).1+1) (UP p pts (0,0,false)).1 p ||| (UP p pts (0,0,false)).2.1 else 0
theorem L0 (q p:Nat):Zg q p=0↔∀i,q.testBit i=true->p.testBit i=true:=by
 constructor
 ·intro h i hi
  have:=congrArg (λz=>Nat.testBit z i) h
  simp only[TJ,hi,SN] at this;simpa using this
 intro h;apply Qz;intro i;rw[TJ,SN];cases hq:q.testBit i
 ·rfl
 rw[h i hq];rfl
theorem wk (p:Nat):∀(pts:List Nat) (s:Nat×Nat×Bool),(UP p pts s).2.2=true↔s.2.2=true∨∃q∈pts,Zg q p=0
 | [],s=>by simp[UP]
 | q :: r,s=>by
   unfold UP;rw[wk p r];by_cases h:Zg q p=0
   ·rw[if_pos h]
    simp[h]
   rw[if_neg h];simp[h]
theorem wj (p:Nat) (i:Nat):∀(pts:List Nat) (s:Nat×Nat×Bool),(UP p pts s).2.1.testBit i=true↔s.2.1.testBit i=true∨∃q∈pts,Zg q p=0/\q.testBit i=true
 | [],s=>by simp[UP]
 | q :: r,s=>by
   unfold UP;rw[wj p i r];by_cases h:Zg q p=0
   ·rw[if_pos h]
    simp only[Tv,T',YJ,exists_eq_or_imp,h,true_and,or_assoc]
   rw[if_neg h];simp[h]
theorem Ad (p:Nat):∀(pts:List Nat) (s:Nat×Nat×Bool),(UP p pts s).1=s.1∨(UP p pts s).1∈pts/\Zg (UP p pts s).1 p=0
 | [],s=>Or.inl rfl
 | q :: r,s=>by
   unfold UP;rcases Ad p r (if Zg q p=0 then (q,s.2.1 ||| q,true) else s) with h | h
   ·by_cases hq:Zg q p=0
    ·right
     rw[h,if_pos hq];exact⟨Zk ..,hq⟩
    left
    rw[h,if_neg hq]
   exact Or.inr ⟨Y2 _ h.1,h.2⟩
theorem E2 (s i:Nat):(XG s).testBit i=decide (i / 6=Lib.ctz 64 s / 6):=oU _ _
theorem Ac (s:Nat) (h0:s≠0) (h:s<2 ^ 36):Zg s (XG s)<s:=by
 have hb:=(H3 s h0 (by omega) (Lib.ctz 64 s)).2.1 rfl
 have h1:=Dv s (XG s);have h2:Zg s (XG s)≠s:=λhe=>by
  have:=congrArg (λz=>Nat.testBit z (Lib.ctz 64 s)) he
  simp only[TJ,E2,hb] at this;simp at this
 omega
theorem oL:∀(f g s p:Nat),s<f->s<g->s<2 ^ 36->clrN f s p=clrN g s p
 | 0,g,s,p,hf,hg,_=>by omega
 | f+1,0,s,p,hf,hg,_=>by omega
 | f+1,g+1,s,p,hf,hg,h=>by
   unfold clrN
   split
   ·rfl
   rename_i h0
   have:=Ac s h0 h;exact oL f g _ _ (by omega) (by omega) (by omega)
theorem ct (s p:Nat) (h0:s≠0) (h:s<2 ^ 36):clrN (s+1) s p=clrN (Zg s (XG s)+1) (Zg s (XG s)) (Zg p (XG s)):=by
 conv=>lhs;unfold clrN
 rw[if_neg h0];have:=Ac s h0 h;exact oL _ _ _ _ (by omega) (by omega) (by omega)
theorem wi (i:Nat):∀(f s p:Nat),s<f->s<2 ^ 36->((clrN f s p).testBit i=true↔p.testBit i=true/\∀j,s.testBit j=true->j / 6≠i / 6)
 | 0,s,p,hf,_=>by omega
 | f+1,s,p,hf,h=>by
   unfold clrN;by_cases h0:s=0
   ·rw[if_pos h0,h0]
    simp
   rw[if_neg h0];have Z7:=Ac s h0 h;have hb:=(H3 s h0 (by omega) (Lib.ctz 64 s)).2.1 rfl
   rw[wi i f _ _ (by omega) (by omega)]
   simp only[TJ,E2,ZB,SQ,decide_eq_false_iff_not]
   constructor
   ·rintro ⟨⟨h1,h2⟩,h3⟩
    refine⟨h1,λj hj he=>?_⟩
    by_cases hk:j / 6=Lib.ctz 64 s / 6
    ·omega
    exact h3 j ⟨hj,hk⟩ he
   rintro ⟨h1,h2⟩;refine⟨⟨h1,λhe=>h2 _ hb he.symm⟩,λj hj he=>h2 j hj.1 he⟩
theorem wh (pts:List Nat) (p i:Nat) (hp:p<2 ^ 36) (h:(Ui pts p).testBit i=true):p.testBit i=true:=by
 unfold Ui at h
 split at h
 ·rw[Tv,T'] at h
  rcases h with h | h
  ·have hs:(UP p pts (0,0,false)).1<2 ^ 36:=by
    rcases Ad p pts (0,0,false) with h1 | h1
    ·rw[h1];decide
    exact UW (SP ((L0 _ _).1 h1.2)) hp
   exact ((wi i _ _ p (RO _) hs).1 h).1
  rcases (wj p i pts _).1 h with h1 | ⟨q,_,h1,h2⟩
  ·simp at h1
  exact (L0 _ _).1 h1 i h2
 simp at h
theorem Dt (pts:List Nat) (p:Nat) (hp:p<2 ^ 36):Ui pts p<=p:=SP λi h=>wh pts p i hp h
theorem cq (pts:List Nat) (p:Nat) (hp:p<2 ^ 36):(UP p pts (0,0,false)).1<2 ^ 36:=by
 rcases Ad p pts (0,0,false) with h1 | h1
 ·rw[h1];decide
 exact UW (SP ((L0 _ _).1 h1.2)) hp
theorem wg (i:Nat):∀(cs:List Nat) (left l:Nat),Xp cs left=some l->l.testBit i=true->left.testBit i=true
 | [],left,l,h,hi=>by simp[Xp] at h;rw[h];exact hi
 | c :: r,left,l,h,hi=>by
   unfold Xp at h
   split at h
   ·cases h
   split at h
   ·have:=wg i r _ l h hi
    rw[TJ,ZB] at this;exact this.1
   exact wg i r _ l h hi
theorem oK (cs:List Nat) (i:Nat):∀(f left:Nat),(U3 cs f left).testBit i=true->left.testBit i=true
 | 0,left,h=>h
 | f+1,left,h=>by
   unfold U3 at h;cases hr:Xp cs left with
   | none=>rw[hr] at h;simp at h
   | some l =>
     rw[hr] at h;simp only at h
     split at h
     ·exact h
     exact wg i cs left l hr (oK cs i f l h)
theorem Ab (vs:List MVar) (cs:List Nat) (p i:Nat) (h:(Xv vs cs p).testBit i=true):p.testBit i=true:=by
 unfold Xv at h
 split at h
 ·simp at h
 exact oK cs i _ _ h
theorem oJ (vs:List MVar) (hv:XU vs) (c:MCon):∀(r u:List Int) (a p:Nat),p∈VP vs c r u a->∀i,p.testBit i=true->a.testBit i=true∨∃v∈r,i / 6=v.toNat
 | [],u,a,p,hp=>by
   intro i hi;unfold VP at hp
   split at hp
   ·rw[Zh.1 hp] at hi;exact Or.inl hi
   cases hp
 | v :: r,u,a,p,hp=>by
   intro i hi;unfold VP at hp;obtain⟨x,hx,hp⟩:=UV.1 hp;rcases oJ vs hv c r _ _ p hp i hi with h | ⟨w,hw,he⟩
   ·rw[Tv,T',E5] at h
    rcases h with h | h
    ·exact Or.inl h
    right
    refine⟨v,Zk ..,?_⟩;have h1:6 * v.toNat+(x - (ZF vs v.toNat).lo).toNat=i:=by simpa using h
    obtain⟨b1,b2⟩:=(Hz _ _ _).1 hx;have h6:=hv.2 v.toNat;unfold WN at h6;omega
   exact Or.inr ⟨w,Y2 _ hw,he⟩
theorem oI (vs:List MVar) (hv:XU vs) (c:MCon) (XV:∀v∈YC c,0<=v/\v<(vs.length:Int)) (hl:c.kind=10->c.lits≠[]) (vals:List Int) (hm:S8 vs vals) (hh:YL c vals=true) :
 ∃p∈XB vs c,(∀i,p.testBit i=true->∃v:Nat,v<vs.length/\i=posV vs vals v)/\∀v∈YC c,p.testBit (posV vs vals v.toNat)=true:=by
 obtain⟨p,hp,hb⟩:=oP vs c vals hm (YC c) (XM vs.length) 0 XV (by simp[XM]) (λu' _ h2 _=>by rw[E7 c u' vals h2 hl];exact hh)
 have XI:∀i,p.testBit i=true->∃v:Nat,v<vs.length/\i=posV vs vals v:=λi hi=>by
  rcases hb i hi with h | h
  ·simp at h
  exact h
 refine⟨p,hp,XI,λv U1=>?_⟩
 obtain⟨u,l1,l2,l3,l4,_,l6⟩:=Af vs c _ _ _ p XV (by simp[XM]) hp
 have h1:=l6 v U1;obtain⟨v',UC,he⟩:=XI _ h1;have h6:=hv.2 v.toNat;have h3:=l3 v U1;have h7:=(H4 vs hv vals hm v' UC).1;have h8:=XV v U1;unfold WN at h6;have:v'=v.toNat:=by omega
 rw[he,this] at h1;exact h1
theorem ck (vs:List MVar) (hv:XU vs) (c:MCon) (XV:∀v∈YC c,0<=v/\v<(vs.length:Int)) (hl:c.kind=10->c.lits≠[]) (vals:List Int) (hm:S8 vs vals) (hh:YL c vals=true) (p:Nat) (UO:p<2 ^ 36) (hw:Uj vs vals p) :
 Uj vs vals (Ui (XB vs c) p):=by
 obtain⟨q,hq,h1,h2⟩:=oI vs hv c XV hl vals hm hh;have hz:Zg q p=0:=(L0 _ _).2 λi hi=>by
  obtain⟨v,X8,rfl⟩:=h1 i hi;exact hw v X8
 have hf:=(wk p (XB vs c) (0,0,false)).2 (Or.inr ⟨q,hq,hz⟩);intro v X8;unfold Ui;rw[if_pos hf,Tv,T'];by_cases hs:(v:Int)∈YC c
 ·right
  refine (wj p _ _ _).2 (Or.inr ⟨q,hq,hz,?_⟩);have:=h2 _ hs;rwa [YK] at this
 left
 refine (wi _ _ _ _ (RO _) (cq _ _ UO)).2 ⟨hw v X8,λj hj he=>?_⟩
 rw[(H4 vs hv vals hm v X8).1] at he;rcases Ad p (XB vs c) (0,0,false) with h3 | h3
 ·rw[h3] at hj;simp at hj
 rcases oJ vs hv c _ _ _ _ h3.1 j hj with h4 | ⟨w,Ya,h4⟩
 ·simp at h4
 have:=XV w Ya;refine hs ?_;rw[show (v:Int)=w by omega]
 exact Ya
def Xl:List (List Nat)->Nat->Nat
 | [],l=>l
 | pts :: r,l=>if l=0 then l else Xl r (Ui pts l)
def Sa:Nat->List (List Nat)->Nat->List (Nat×Nat×Nat)
 | _,[],_=>[]
 | k,pts :: r,l=>if l=0 then [] else (if Ui pts l=l then [] else [(k,l,Ui pts l)])++Sa (k+1) r (Ui pts l)
def S7 (vs:List MVar) (cs:List Nat) (pt:List (List Nat)):Nat->Nat->Nat
 | 0,l=>l
 | f+1,l=>if Xl pt (Xv vs cs l)=l then l else S7 vs cs pt f (Xl pt (Xv vs cs l))
def OR (vs:List MVar) (cs:List Nat) (pt:List (List Nat)):Nat->Nat->List (Nat×Nat×Nat)
 | 0,_=>[]
 | f+1,l=>Sa 0 pt (Xv vs cs l)++if Xl pt (Xv vs cs l)=l then [] else OR vs cs pt f (Xl pt (Xv vs cs l))
def QR (vs:List MVar) (cs:List Nat) (pt:List (List Nat)) (h:Nat):Nat :=
 if Zg (zAN vs) h=0 then 0 else S7 vs cs pt (Zg (zAN vs) h+1) (Zg (zAN vs) h)
def Aa (vs:List MVar) (cs:List Nat) (pt:List (List Nat)) (h:Nat):List (Nat×Nat×Nat) :=
 if Zg (zAN vs) h=0 then [] else OR vs cs pt (Zg (zAN vs) h+1) (Zg (zAN vs) h)
theorem Ds:∀(pt:List (List Nat)) (l:Nat),l<2 ^ 36->Xl pt l<=l
 | [],l,_=>Z2 _
 | pts :: r,l,h=>by
   unfold Xl
   split
   ·exact Z2 _
   have h1:=Dt pts l h;exact ZT (Ds r _ (by omega)) h1
theorem Dr (vs:List MVar) (cs:List Nat) (pt:List (List Nat)) (l:Nat) (h:l<2 ^ 36):Xl pt (Xv vs cs l)<=l:=by
 have h1:=Du vs cs l;exact ZT (Ds pt _ (by omega)) h1
theorem oH (vs:List MVar) (cs:List Nat) (pt:List (List Nat)):∀(f g l:Nat),l<f->l<g->l<2 ^ 36->S7 vs cs pt f l=S7 vs cs pt g l/\OR vs cs pt f l=OR vs cs pt g l
 | 0,g,l,hf,hg,_=>by omega
 | f+1,0,l,hf,hg,_=>by omega
 | f+1,g+1,l,hf,hg,h=>by
   unfold S7 OR
   split
   ·exact⟨rfl,rfl⟩
   have:=Dr vs cs pt l h;obtain⟨h1,h2⟩:=oH vs cs pt f g (Xl pt (Xv vs cs l)) (by omega) (by omega) (by omega)
   exact⟨h1,by rw[h2]⟩
theorem cj (vs:List MVar) (cs:List Nat) (pt:List (List Nat)) (l:Nat) (h:l<2 ^ 36) :
 S7 vs cs pt (l+1) l=(if Xl pt (Xv vs cs l)=l then l else S7 vs cs pt (Xl pt (Xv vs cs l)+1) (Xl pt (Xv vs cs l))) /\
 OR vs cs pt (l+1) l=Sa 0 pt (Xv vs cs l)++if Xl pt (Xv vs cs l)=l then [] else OR vs cs pt (Xl pt (Xv vs cs l)+1) (Xl pt (Xv vs cs l)):=by
 by_cases he:Xl pt (Xv vs cs l)=l
 ·constructor
  ·conv=>lhs;unfold S7
   rw[if_pos he,if_pos he]
  conv=>lhs;unfold OR
  rw[if_pos he,if_pos he]
 have:=Dr vs cs pt l h;obtain⟨h1,h2⟩:=oH vs cs pt l (Xl pt (Xv vs cs l)+1) (Xl pt (Xv vs cs l)) (by omega) (by omega) (by omega)
 constructor
 ·conv=>lhs;unfold S7
  rw[if_neg he,if_neg he,h1]
 conv=>lhs;unfold OR
 rw[if_neg he,if_neg he,h2]
theorem oG (vs:List MVar) (hv:XU vs) (h1:1<=vs.length) (vals:List Int) (hm:S8 vs vals):∀(pt:List (List Nat)) (l:Nat),l<2 ^ 36->(∀pts∈pt,∀p,p<2 ^ 36->Uj vs vals p->Uj vs vals (Ui pts p))->Uj vs vals l->Uj vs vals (Xl pt l)
 | [],l,_,_,hw=>hw
 | pts :: r,l,h,hk,hw=>by
   unfold Xl;rw[if_neg (wl vs h1 vals l hw)];have:=Dt pts l h;exact oG vs hv h1 vals hm r _ (by omega) (λq hq=>hk q (Y2 _ hq)) (hk pts (Zk ..) l h hw)
theorem oF (vs:List MVar) (hv:XU vs) (h1:1<=vs.length) (vals:List Int) (hm:S8 vs vals) (cs:List Nat) (hc:∀c∈cs,Hits vs vals c) (pt:List (List Nat)) (hk:∀pts∈pt,∀p,p<2 ^ 36->Uj vs vals p->Uj vs vals (Ui pts p)) :
 ∀(f l:Nat),l<2 ^ 36->Uj vs vals l->Uj vs vals (S7 vs cs pt f l)
 | 0,l,_,hw=>hw
 | f+1,l,h,hw=>by
   unfold S7
   split
   ·exact hw
   have h2:=Du vs cs l;have h3:=Dr vs cs pt l h;exact oF vs hv h1 vals hm cs hc pt hk f _ (by omega) (oG vs hv h1 vals hm pt _ (by omega) hk (cG vs hv vals hm cs hc l hw))
theorem Ju (vs:List MVar) (hv:XU vs):zAN vs<2 ^ 36:=Qh vs hv _
theorem ci (vs:List MVar) (hv:XU vs) (h1:1<=vs.length) (vals:List Int) (hm:S8 vs vals) (cs:List Nat) (hc:∀c∈cs,Hits vs vals c) (pt:List (List Nat)) (hk:∀pts∈pt,∀p,p<2 ^ 36->Uj vs vals p->Uj vs vals (Ui pts p))
 (h:Nat) (hz:QR vs cs pt h=0):Hits vs vals h:=by
 apply Xz;intro hn;have hw:=cI vs hv vals hm h hn;unfold QR at hz;rw[if_neg (wl vs h1 vals _ hw)] at hz;exact wl vs h1 vals _ (oF vs hv h1 vals hm cs hc pt hk _ _ (Pz 36 _ _ (Ju vs hv)) hw) hz
theorem v_ (f g:Nat->Bool) (h:∀i,g i=true->f i=true):∀l:List Nat,(l.filter f).length=(l.filter g).length+(l.filter λi=>f i&&!g i).length
 | []=>rfl
 | a :: r=>by
   have ih:=v_ f g h r;rw[Qt,Qt,Qt];cases hf:f a <;> cases hg:g a
   ·simpa using ih
   ·rw[h a hg] at hf;cases hf
   ·simp;omega
   simp;omega
def Qg (p:Nat):Nat:=(Sb p).length
theorem vZ (p:Nat):Qg p<=36:=by
 unfold Qg Sb;exact ZT (Tz _ _) (by simp)
theorem oE (a b:Nat) (h:∀i,a.testBit i=true->b.testBit i=true):Qg a<=Qg b:=by
 unfold Qg Sb;rw[v_ (λi=>b.testBit i) (λi=>a.testBit i) h]
 omega
theorem oD (a b:Nat) (hb:b<2 ^ 36) (h:∀i,a.testBit i=true->b.testBit i=true) (ZP:a≠b):Qg a+1<=Qg b:=by
 unfold Qg Sb;rw[v_ (λi=>b.testBit i) (λi=>a.testBit i) h]
 have:((List.range 36).filter λi=>b.testBit i&&!a.testBit i)≠[]:=λhn=>by
  refine ZP (Qz λi=>?_)
  by_cases hi:i<36
  ·have:=ND.1 hn i (W6.2 hi)
   cases ha:a.testBit i <;> cases Nc:b.testBit i
   ·rfl
   ·rw[ha,Nc] at this;simp at this
   ·rw[h i ha] at Nc;cases Nc
   rfl
  have h1:b.testBit i=false:=Lg (ZQ hb (SS (by omega) (by omega)))
  cases ha:a.testBit i
  ·exact h1.symm
  rw[h i ha] at h1;cases h1
 have:=Ny.2 this;omega
def Uh {α:Type} (enough:List α->Bool):Nat->List α->List α
 | 0,out=>out
 | k+1,out=>Uh enough k (if enough (out.eraseIdx k) then out.eraseIdx k else out)
theorem oC {α:Type} (enough:List α->Bool):∀(k:Nat) (out:List α),enough out=true->enough (Uh enough k out)=true
 | 0,out,h=>h
 | k+1,out,h=>by
   unfold Uh;apply oC
   split
   ·assumption
   exact h
theorem vY {α:Type} (enough:List α->Bool) (x:α):∀(k:Nat) (out:List α),x∈Uh enough k out->x∈out
 | 0,out,h=>h
 | k+1,out,h=>by
   unfold Uh at h;have:=vY enough x k _ h
   split at this
   ·exact Iu this
   exact this
theorem vX {α:Type} (enough:List α->Bool):∀(k:Nat) (out:List α),(Uh enough k out).length<=out.length
 | 0,out=>Z2 _
 | k+1,out=>by
   unfold Uh;refine ZT (vX enough k _) ?_
   split
   ·exact List.length_eraseIdx_le ..
   exact Z2 _
def whyP (vs:List MVar) (pts:List Nat) (any:Cla) (gone:Nat):Cla:=any++VE vs (Px (λg=>TI vs pts (zAH vs any ||| g)) (gone+1) gone gone)
def KU (vs:List MVar) (con:Nat) (c:Cla):MStep×Nat:=(⟨1,(con:Int),c⟩,zAH vs c)
def Nb (vs:List MVar) (pt:List (List Nat)) (t:Nat×Nat×Nat):List (MStep×Nat) :=
 if t.2.2=0 then [KU vs t.1 (whyP vs (pt.getD t.1 []) [] (Zg (zAN vs) t.2.1))]
 else (VE vs (Zg t.2.1 t.2.2)).map λl=>KU vs t.1 (whyP vs (pt.getD t.1 []) [⟨l.var,4,l.n⟩] (Zg (zAN vs) t.2.1))
def Jt (vs:List MVar) (cs:List Nat) (pt:List (List Nat)) (h:Nat):List (MStep×Nat):=(Aa vs cs pt h).flatMap (Nb vs pt)
def Js (vs:List MVar) (cs:List Nat) (h:Nat) (some:List (MStep×Nat)):Bool:=N9 vs (cs++some.map (·.2)) h
def Hy (vs:List MVar) (cs:List Nat) (pt:List (List Nat)) (c:Cla):List MStep :=
 (Uh (Js vs cs (zAH vs c)) (Jt vs cs pt (zAH vs c)).length (Jt vs cs pt (zAH vs c))).map (·.1)++[⟨2,0,c⟩]
def Pw (vs:List MVar) (cs:List Nat) (pt:List (List Nat)) (c:Cla):Bool:=QR vs cs pt (zAH vs c)==0
def Rt (vs:List MVar) (cs:List Nat) (pt:List (List Nat)) (c:Cla):Cla:=Uh (Pw vs cs pt) c.length c
def ptsM (m:Mod):List (List Nat):=m.cons.map (XB m.vars)
theorem cg (m:Mod) (hm:Zs m=0) (vals:List Int) (hv:S8 m.vars vals) (hc:∀c∈m.cons,YL c vals=true):∀pts∈ptsM m,∀p,p<2 ^ 36->Uj m.vars vals p->Uj m.vars vals (Ui pts p):=by
 intro pts hp p Pv hw;obtain⟨c,QU,rfl⟩:=Zj.1 hp;obtain⟨j,hj,he⟩:=Lb QU;obtain⟨k1,k2⟩:=E6 m hm j c (by rw[ZA hj,he])
 exact ck m.vars (Py m hm) c k1 k2 vals hv (hc c QU) p Pv hw
theorem cf (m:Mod) (hm:Zs m=0) (vals:List Int) (hv:S8 m.vars vals) (hc:∀c∈m.cons,YL c vals=true) (cs:List Nat) (hh:∀c∈cs,Hits m.vars vals c) (c:Cla) (hz:Pw m.vars cs (ptsM m) c=true):Hits m.vars vals (zAH m.vars c):=by
 unfold Pw at hz;exact ci m.vars (Py m hm) (Ai m hm) vals hv cs hh (ptsM m) (cg m hm vals hv hc) _ (by simpa using hz)
end Go.Proofs.YtndcpnlaadikoaaGreatDoor
