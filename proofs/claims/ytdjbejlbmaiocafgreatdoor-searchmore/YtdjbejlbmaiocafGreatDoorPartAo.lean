/- What the proof leans on, part 15. -/
import Derived.Test.YtdjbejlbmaiocafGreatDoorPartAn
import Derived.Laws.Bits64b
import Derived.Lib.TrailingZeros
namespace Go.Proofs.YtdjbejlbmaiocafGreatDoor
def zAM (a b:Nat):Nat:=a ^^^ (a &&& b)
theorem zAK (a b i:Nat):(zAM a b).testBit i=(a.testBit i&&!b.testBit i):=by
 unfold zAM
 rw[Nat.testBit_xor,Nat.testBit_and]
 cases a.testBit i <;> cases b.testBit i <;> rfl
theorem zBN (n a b:Nat) (h:a<2 ^ n):zAM a b<2 ^ n:=Nat.xor_lt_two_pow h (Nat.lt_of_le_of_lt Nat.and_le_left h)
theorem zGm (a b:Nat):zAM a b≤a:=by
 apply Nat.le_of_testBit
 intro i h
 rw[zAK] at h
 simp at h
 exact h.1
theorem zAO (a b:Nat) (ha:a<18446744073709551616) (hb:b<18446744073709551616):bits .andNot .u64 (a:Int) (b:Int)=((zAM a b:Nat):Int):=by
 have h1:(BitVec.ofInt 64 (a:Int)).toNat=a:=by rw[BitVec.ofInt_natCast,BitVec.toNat_ofNat];exact Nat.mod_eq_of_lt (by omega)
 have h2:(BitVec.ofInt 64 (b:Int)).toNat=b:=by rw[BitVec.ofInt_natCast,BitVec.toNat_ofNat];exact Nat.mod_eq_of_lt (by omega)
 have key:(BitVec.ofInt 64 (a:Int) &&& ~~~BitVec.ofInt 64 (b:Int)).toNat=zAM a b:=by
  apply Nat.eq_of_testBit_eq
  intro i
  rw[zAK,BitVec.toNat_and,Nat.testBit_and,h1,BitVec.testBit_toNat,BitVec.getLsbD_not,←BitVec.testBit_toNat,h2]
  by_cases hi:i<64
  ·simp[hi]
  ·have:a.testBit i=false:=Nat.testBit_lt_two_pow (Nat.lt_of_lt_of_le ha (by
    have:=Nat.pow_le_pow_right (n:=2) (by omega) (show 64≤i by omega)
    simpa using this))
   simp[this]
 show IntKind.u64.wrap ((BitVec.ofInt 64 (a:Int) &&& ~~~BitVec.ofInt 64 (b:Int)).toNat:Int)=_
 rw[key,IntKind.wrap_u64]
 have:=zBN 64 a b (by simpa using ha)
 omega
def rowP (f:Int→Bool) (b:Nat) (lo:Int):Nat→Nat
 | 0=>0
 | k+1=>if f (lo+(k:Int)) then rowP f b lo k ||| 2 ^ (b+k) else rowP f b lo k
theorem zBO (n i:Nat):(2 ^ n).testBit i=decide (n=i):=by rw[Nat.testBit_two_pow]
theorem zBP (f:Int→Bool) (b:Nat) (lo:Int):∀(k i:Nat),(rowP f b lo k).testBit i=(decide (b≤i)&&(decide (i<b+k)&&f (lo+((i - b:Nat):Int))))
 | 0,i=>by
   simp only[rowP,Nat.zero_testBit,Nat.add_zero]
   by_cases h:b≤i
   ·simp[h];omega
   ·simp[h]
 | k+1,i=>by
   unfold rowP
   by_cases hi:i=b+k
   ·subst hi
    have e:((b+k - b:Nat):Int)=(k:Int):=by omega
    cases hf:f (lo+(k:Int))
    ·rw[if_neg (by simp),zBP f b lo k];simp[hf]
    ·rw[if_pos rfl,Nat.testBit_or,zBO,zBP f b lo k];simp[hf]
   ·have e:decide (i<b+(k+1))=decide (i<b+k):=by
     by_cases h:i<b+k
     ·simp[h];omega
     ·simp[h];omega
    rw[e]
    split
    ·rw[Nat.testBit_or,zBO,zBP f b lo k,show decide (b+k=i)=false by simp;omega,Bool.or_false]
    ·exact zBP f b lo k i
def zAV (p:Nat):Nat:=63 * 2 ^ (6 * (Lib.ctz 64 p / 6))
theorem zDX (i:Nat):Nat.testBit 63 i=decide (i<6):=by
 rw[show (63:Nat)=2 ^ 6 - 1 from rfl,Nat.testBit_two_pow_sub_one]
theorem zEK (v i:Nat):(63 * 2 ^ (6 * v)).testBit i=decide (i / 6=v):=by
 rw[Nat.mul_comm,Nat.testBit_two_pow_mul,zDX]
 by_cases h:i / 6=v
 ·subst h;simp;omega
 ·simp[h];omega
def zLy:MVar:=⟨ByteArray.empty,0,0⟩
def zBH (v:MVar):Nat:=(v.hi+1 - v.lo).toNat
def zAE (vs:List MVar) (v:Nat):MVar:=vs.getD v zLy
def ofN (vs:List MVar) (f:Nat→Int→Bool):Nat→Nat
 | 0=>0
 | v+1=>ofN vs f v ||| rowP (f v) (6 * v) (zAE vs v).lo (zBH (zAE vs v))
def ofP (vs:List MVar) (f:Nat→Int→Bool):Nat:=ofN vs f vs.length
def zAG (vs:List MVar):Nat:=ofP vs fun _ _=>true
def zAR (vs:List MVar) (c:Cla):Nat:=ofP vs fun v x=>oneB c v x
def zAW (vs:List MVar):Prop:=vs.length≤6∧∀v:Nat,zBH (zAE vs v)≤6
theorem zAf (vs:List MVar) (hv:zAW vs) (f:Nat→Int→Bool):∀(n i:Nat),(ofN vs f n).testBit i=(decide (i / 6<n)&&(decide (i % 6<zBH (zAE vs (i / 6)))&&f (i / 6) ((zAE vs (i / 6)).lo+((i % 6:Nat):Int))))
 | 0,i=>by simp[ofN]
 | v+1,i=>by
   have h6:=hv.2 v
   unfold ofN
   rw[Nat.testBit_or,zAf vs hv f v i,zBP]
   by_cases hi:i / 6=v
   ·subst hi
    have e1:i - 6 * (i / 6)=i % 6:=by omega
    have e2:decide (i<6 * (i / 6)+zBH (zAE vs (i / 6)))=decide (i % 6<zBH (zAE vs (i / 6))):=by
     by_cases h:i % 6<zBH (zAE vs (i / 6))
     ·simp[h];omega
     ·simp[h];omega
    rw[e1,e2,show decide (6 * (i / 6)≤i)=true by simp;omega]
    simp
   ·have e1:decide (i / 6<v+1)=decide (i / 6<v):=by
     by_cases h:i / 6<v
     ·simp[h];omega
     ·simp[h];omega
    have e2:(decide (6 * v≤i)&&(decide (i<6 * v+zBH (zAE vs v))&&f v ((zAE vs v).lo+((i - 6 * v:Nat):Int))))=false:=by
     by_cases h:6 * v≤i
     ·have:¬(i<6 * v+zBH (zAE vs v)):=by omega
      simp[this]
     ·simp[h]
    rw[e1,e2,Bool.or_false]
theorem zKz (vs:List MVar) (hv:zAW vs) (f:Nat→Int→Bool) (n:Nat) (hn:n≤6):ofN vs f n<2 ^ 36:=by
 apply Nat.lt_pow_two_of_testBit
 intro i hi
 rw[zAf vs hv]
 have:¬(i / 6<n):=by omega
 simp[this]
theorem zDY (vs:List MVar) (hv:zAW vs) (f:Nat→Int→Bool):ofP vs f<2 ^ 36:=zKz vs hv f _ hv.1
def zBf (n p:Nat):Bool:=(List.range n).any fun v=>p / 2 ^ (v * 6) &&& 63==0
def zCy (h p:Nat):Bool:=p &&& h==0
def zDw (vs:List MVar) (pts:List Nat) (h:Nat):Bool:=zBf vs.length (zAM (zAG vs) h) || !pts.any (zCy h)
def zAS (vs:List MVar) (c:MCon):List Int→List Int→Nat→List Nat
 | [],vals,a=>if zAN c vals then [a] else []
 | v :: r,vals,a=>(zEt (zAE vs v.toNat).lo (zAE vs v.toNat).hi).flatMap fun x=>zAS vs c r (vals.set v.toNat x) (a ||| 2 ^ (6 * v.toNat+(x - (zAE vs v.toNat).lo).toNat))
def zAj (vs:List MVar) (c:MCon):List Nat:=zAS vs c (zAQ c) (zAn vs.length) 0
def zAX:List Nat→Nat→Option Nat
 | [],left=>some left
 | c :: r,left =>
   if left &&& c=0 then none
   else if zAM (left &&& c) (zAV (left &&& c))=0 then zAX r (zAM left (zAM (zAV (left &&& c)) (left &&& c))) else zAX r left
def zBE (cs:List Nat):Nat→Nat→Nat
 | 0,left=>left
 | f+1,left=>match zAX cs left with
   | none=>0
   | some l=>if l=left then left else zBE cs f l
def zAU (vs:List MVar) (cs:List Nat) (p:Nat):Nat:=if zBf vs.length p then 0 else zBE cs (p+1) p
def zE9 (vs:List MVar) (cs:List Nat) (h:Nat):Bool:=zAU vs cs (zAM (zAG vs) h)==0
theorem zBv:∀(cs:List Nat) (left l:Nat),zAX cs left=some l→l≤left
 | [],left,l,h=>by simp[zAX] at h;omega
 | c :: r,left,l,h=>by
   unfold zAX at h
   split at h
   ·cases h
   ·split at h
    ·exact Nat.le_trans (zBv r _ l h) (zGm _ _)
    ·exact zBv r _ l h
theorem zFA (cs:List Nat):∀(f g left:Nat),left<f→left<g→zBE cs f left=zBE cs g left
 | 0,g,left,hf,hg=>by omega
 | f+1,0,left,hf,hg=>by omega
 | f+1,g+1,left,hf,hg=>by
   unfold zBE
   cases hr:zAX cs left with
   | none=>rfl
   | some l =>
     simp only
     split
     ·rfl
     ·have:=zBv cs left l hr
      exact zFA cs f g l (by omega) (by omega)
theorem zFB (cs:List Nat) (left:Nat):zBE cs (left+1) left=match zAX cs left with
 | none=>0
 | some l=>if l=left then left else zBE cs (l+1) l:=by
 conv=>lhs;unfold zBE
 cases hr:zAX cs left with
 | none=>rfl
 | some l =>
   simp only
   split
   ·rfl
   ·have:=zBv cs left l hr
    exact zFA cs _ _ l (by omega) (by omega)
theorem zEL (cs:List Nat):∀(f left:Nat),zBE cs f left≤left
 | 0,left=>Nat.le_refl _
 | f+1,left=>by
   unfold zBE
   cases hr:zAX cs left with
   | none=>simp
   | some l =>
     simp only
     split
     ·exact Nat.le_refl _
     ·exact Nat.le_trans (zEL cs f l) (zBv cs left l hr)
theorem zDD (vs:List MVar) (cs:List Nat) (p:Nat):zAU vs cs p≤p:=by
 unfold zAU
 split
 ·exact Nat.zero_le _
 ·exact zEL cs _ _
def posV (vs:List MVar) (vals:List Int) (v:Nat):Nat:=6 * v+(zAY vals (v:Int) - (zAE vs v).lo).toNat
def zCL (vs:List MVar) (vals:List Int):Prop:=vals.length=vs.length∧∀v:Nat,v<vs.length→(zAE vs v).lo≤zAY vals (v:Int)∧zAY vals (v:Int)≤(zAE vs v).hi
theorem zBk (vs:List MVar) (hv:zAW vs) (vals:List Int) (hm:zCL vs vals) (v:Nat) (h:v<vs.length):posV vs vals v / 6=v∧posV vs vals v % 6<zBH (zAE vs v)∧(zAE vs v).lo+((posV vs vals v % 6:Nat):Int)=zAY vals (v:Int):=by
 have h1:=hm.2 v h
 have h2:=hv.2 v
 have h3:posV vs vals v=6 * v+(zAY vals (v:Int) - (zAE vs v).lo).toNat:=rfl
 unfold zBH at h2 ⊢
 omega
theorem zLf (vs:List MVar) (hv:zAW vs) (vals:List Int) (hm:zCL vs vals) (f:Nat→Int→Bool) (v:Nat) (h:v<vs.length):(ofP vs f).testBit (posV vs vals v)=f v (zAY vals (v:Int)):=by
 obtain⟨p1,p2,p3⟩:=zBk vs hv vals hm v h
 unfold ofP
 rw[zAf vs hv,p1,p3]
 simp[h,p2]
def Hits (vs:List MVar) (vals:List Int) (p:Nat):Prop:=∃v:Nat,v<vs.length∧p.testBit (posV vs vals v)=true
theorem zKE (n p:Nat) (h:∀v,v<n→∃k,k<6∧p.testBit (6 * v+k)=true):zBf n p=false:=by
 cases hl:zBf n p
 ·rfl
 ·unfold zBf at hl
  obtain⟨v,hv,hb⟩:=List.any_eq_true.1 hl
  obtain⟨k,hk,hp⟩:=h v (List.mem_range.1 hv)
  have h0:p / 2 ^ (v * 6) &&& 63=0:=by simpa using hb
  have:=congrArg (fun q=>Nat.testBit q k) h0
  simp only[Nat.testBit_and,zDX,Nat.testBit_div_two_pow,Nat.zero_testBit] at this
  rw[show k+v * 6=6 * v+k by omega,hp] at this
  simp[hk] at this
def zAy (vs:List MVar) (vals:List Int) (p:Nat):Prop:=∀v:Nat,v<vs.length→p.testBit (posV vs vals v)=true
theorem zGn (vs:List MVar) (hv:zAW vs) (vals:List Int) (hm:zCL vs vals) (p:Nat) (h:zAy vs vals p):zBf vs.length p=false:=by
 refine zKE _ _ fun v hl=>⟨posV vs vals v % 6,by omega,?_⟩
 have:=(zBk vs hv vals hm v hl).1
 have h2:=h v hl
 rw[show 6 * v+posV vs vals v % 6=posV vs vals v by omega]
 exact h2
theorem zGo (vs:List MVar) (hv:zAW vs) (vals:List Int) (hm:zCL vs vals) (h:Nat) (hh:¬Hits vs vals h):zAy vs vals (zAM (zAG vs) h):=by
 intro v hl
 rw[zAK]
 unfold zAG
 rw[zLf vs hv vals hm _ v hl]
 cases hb:h.testBit (posV vs vals v)
 ·rfl
 ·exact absurd ⟨v,hl,hb⟩ hh
theorem zEM (vs:List MVar) (c:MCon) (vals:List Int) (hm:zCL vs vals):∀(r u:List Int) (a:Nat),(∀v∈r,0≤v∧v<(vs.length:Int))→u.length=vs.length →
 (∀u':List Int,u'.length=vs.length→(∀v∈r,zAY u' v=zAY vals v)→(∀w:Int,(∀v∈r,v.toNat≠w.toNat)→zAY u' w=zAY u w)→zAN c u'=true) →
 ∃p∈zAS vs c r u a,∀i,p.testBit i=true→a.testBit i=true∨∃v:Nat,v<vs.length∧i=posV vs vals v
 | [],u,a,_,hu,hh=>by
   have h:=hh u hu (fun v hv=>by cases hv) (fun _ _=>rfl)
   refine⟨a,?_,fun i hi=>Or.inl hi⟩
   unfold zAS
   rw[if_pos h]
   exact List.mem_singleton.2 rfl
 | v :: r,u,a,hr,hu,hh=>by
   obtain⟨v0,v1⟩:=hr v (List.mem_cons_self ..)
   have hvn:v.toNat<vs.length:=by omega
   have hmv:=hm.2 v.toNat hvn
   rw[show ((v.toNat:Nat):Int)=v by omega] at hmv
   obtain⟨p,hp,hb⟩:=zEM vs c vals hm r (u.set v.toNat (zAY vals v)) (a ||| 2 ^ (6 * v.toNat+(zAY vals v - (zAE vs v.toNat).lo).toNat)) (fun x hx=>hr x (List.mem_cons_of_mem _ hx)) (by simpa using hu) (by
    intro u' h1 h2 h3
    refine hh u' h1 (fun x hx=>?_) (fun w hw=>?_)
    ·rcases List.mem_cons.1 hx with rfl | hx
     ·by_cases hq:∃y∈r,y.toNat=x.toNat
      ·obtain⟨y,hy,he⟩:=hq
       have:=hr y (List.mem_cons_of_mem _ hy)
       have:y=x:=by omega
       rw[←this];exact h2 y hy
      ·rw[h3 x (fun y hy he=>hq ⟨y,hy,he⟩),zCp _ _ _ (by omega)]
     ·exact h2 x hx
    ·rw[h3 w (fun y hy=>hw y (List.mem_cons_of_mem _ hy)),zDj _ _ _ _ (hw v (List.mem_cons_self ..))])
   refine⟨p,?_,fun i hi=>?_⟩
   ·unfold zAS
    exact List.mem_flatMap.2 ⟨zAY vals v,zHT _ _ _ hmv.1 hmv.2,hp⟩
   ·rcases hb i hi with h | h
    ·rw[Nat.testBit_or,Bool.or_eq_true] at h
     rcases h with h | h
     ·exact Or.inl h
     ·rw[zBO] at h
      refine Or.inr ⟨v.toNat,hvn,?_⟩
      unfold posV
      rw[show ((v.toNat:Nat):Int)=v by omega]
      exact (of_decide_eq_true h).symm
    ·exact Or.inr h
theorem zI4 (p i:Nat) (h:zAM p (zAV p)=0) (hi:p.testBit i=true):(zAV p).testBit i=true:=by
 have:=congrArg (fun q=>Nat.testBit q i) h
 simp only[zAK,hi,Nat.zero_testBit] at this
 simpa using this
theorem zCz (vs:List MVar) (hv:zAW vs) (vals:List Int) (hm:zCL vs vals):∀(cs:List Nat) (left:Nat),(∀c∈cs,Hits vs vals c)→zAy vs vals left→∃l,zAX cs left=some l∧zAy vs vals l
 | [],left,_,hw=>⟨left,rfl,hw⟩
 | c :: r,left,hc,hw=>by
   obtain⟨v,hvl,hb⟩:=hc c (List.mem_cons_self ..)
   have ho:(left &&& c).testBit (posV vs vals v)=true:=by rw[Nat.testBit_and,hw v hvl,hb];rfl
   have hne:left &&& c≠0:=fun h=>by rw[h] at ho;simp at ho
   unfold zAX
   rw[if_neg hne]
   split
   ·rename_i hf
    refine zCz vs hv vals hm r _ (fun d hd=>hc d (List.mem_cons_of_mem _ hd)) fun u hu=>?_
    rw[zAK,hw u hu,zAK]
    by_cases huv:u=v
    ·subst huv;rw[ho];simp
    ·have hfv:=zI4 _ _ hf ho
     have:(zAV (left &&& c)).testBit (posV vs vals u)=false:=by
      unfold zAV at hfv ⊢
      rw[zEK] at hfv ⊢
      rw[(zBk vs hv vals hm v hvl).1] at hfv
      rw[(zBk vs hv vals hm u hu).1]
      have:v=Lib.ctz 64 (left &&& c) / 6:=by simpa using hfv
      simp;omega
     rw[this];simp
   ·exact zCz vs hv vals hm r _ (fun d hd=>hc d (List.mem_cons_of_mem _ hd)) hw
theorem zDk (vs:List MVar) (hv:zAW vs) (vals:List Int) (hm:zCL vs vals) (cs:List Nat) (hc:∀c∈cs,Hits vs vals c):∀(f left:Nat),zAy vs vals left→zAy vs vals (zBE cs f left)
 | 0,left,hw=>hw
 | f+1,left,hw=>by
   obtain⟨l,hl,hw2⟩:=zCz vs hv vals hm cs left hc hw
   unfold zBE
   rw[hl]
   simp only
   split
   ·exact hw
   ·exact zDk vs hv vals hm cs hc f l hw2
theorem zGp (vs:List MVar) (hv:zAW vs) (vals:List Int) (hm:zCL vs vals) (cs:List Nat) (hc:∀c∈cs,Hits vs vals c) (p:Nat) (hw:zAy vs vals p):zAy vs vals (zAU vs cs p):=by
 unfold zAU
 rw[zGn vs hv vals hm _ hw]
 exact zDk vs hv vals hm cs hc _ _ hw
theorem zEN (vs:List MVar) (h1:1≤vs.length) (vals:List Int) (p:Nat) (hw:zAy vs vals p):p≠0:=by
 intro h0
 have:=hw 0 (by omega)
 rw[h0,Nat.zero_testBit] at this
 cases this
theorem zBw (m:Mod) (hm:zAI m=0):zAW m.vars:=by
 refine⟨(zAc m hm).2.1,fun v=>?_⟩
 by_cases h:v<m.vars.length
 ·have e:m.vars[v]? = some (zAE m.vars v):=by unfold zAE;rw[List.getD_eq_getElem?_getD,List.getElem?_eq_getElem h];rfl
  have:=zHO m hm v _ e
  unfold zBH
  omega
 ·unfold zAE
  rw[List.getD_eq_getElem?_getD,List.getElem?_eq_none (by omega)]
  decide
theorem zHU (m:Mod) (hm:zAI m=0):1≤m.vars.length:=by
 have:=(zAc m hm).1
 omega
def zCM (p:Nat):List Nat:=(List.range 36).filter fun i=>p.testBit i
theorem zKF (x:Nat) (h0:x≠0) (h:x<2 ^ 64):∃m,x=2 ^ (Lib.ctz 64 x+1) * m+2 ^ Lib.ctz 64 x∧Lib.ctz 64 x<64:=by
 obtain⟨m,h1,h2⟩:=Lib.ctzFrom_spec 64 x (by omega) h
 have e:Lib.ctz 64 x=Lib.ctzFrom 64 x:=by unfold Lib.ctz;rw[if_neg h0]
 rw[e]
 refine⟨m,?_,h2⟩
 conv=>lhs;rw[h1]
 rw[Nat.pow_succ,Nat.mul_add,Nat.mul_one,Nat.mul_assoc]
theorem zDE (x:Nat) (h0:x≠0) (h:x<2 ^ 64) (i:Nat):(i<Lib.ctz 64 x→x.testBit i=false)∧(i=Lib.ctz 64 x→x.testBit i=true)∧(x &&& (x - 1)).testBit i=(x.testBit i&&!decide (i=Lib.ctz 64 x)):=by
 obtain⟨m,h1,_⟩:=zKF x h0 h
 generalize hk:Lib.ctz 64 x=k at h1
 have hp:0<2 ^ k:=Nat.pow_pos (by omega)
 have hlt:2 ^ k<2 ^ (k+1):=by rw[Nat.pow_succ];omega
 have h2:x - 1=2 ^ (k+1) * m+(2 ^ k - 1):=by omega
 have t1:x.testBit i=if i<k+1 then decide (k=i) else m.testBit (i - (k+1)):=by
  rw[h1,Nat.testBit_two_pow_mul_add _ hlt]
  split
  ·exact zBO k i
  ·rfl
 have t2:(x - 1).testBit i=if i<k+1 then decide (i<k) else m.testBit (i - (k+1)):=by
  rw[h2,Nat.testBit_two_pow_mul_add _ (by omega)]
  split
  ·exact Nat.testBit_two_pow_sub_one ..
  ·rfl
 refine⟨fun hi=>?_,fun hi=>?_,?_⟩
 ·rw[t1,if_pos (by omega)];simp;omega
 ·rw[t1,if_pos (by omega)];simp;omega
 ·rw[Nat.testBit_and,t1,t2]
  by_cases hi:i<k+1
  ·rw[if_pos hi,if_pos hi]
   by_cases he:k=i
   ·subst he;simp
   ·simp[he]
  ·rw[if_neg hi,if_neg hi,show decide (i=k)=false by simp;omega];simp
theorem zD4 (x:Nat) (h0:x≠0) (h:x<2 ^ 64):x &&& (x - 1)<x:=by
 have h1:=zDE x h0 h
 have hle:x &&& (x - 1)≤x:=Nat.and_le_left
 have:x &&& (x - 1)≠x:=fun he=>by
  have h2:=(h1 (Lib.ctz 64 x)).2.2
  rw[he,(h1 (Lib.ctz 64 x)).2.1 rfl] at h2
  simp at h2
 omega
theorem zH2:zCM 0=[]:=by simp[zCM]
theorem zCg (x:Nat) (h0:x≠0) (h:x<2 ^ 36):zCM x=Lib.ctz 64 x :: zCM (x &&& (x - 1))∧Lib.ctz 64 x<36:=by
 have h64:x<2 ^ 64:=Nat.lt_of_lt_of_le h (Nat.pow_le_pow_right (by omega) (by omega))
 have hb:=zDE x h0 h64
 have hk:Lib.ctz 64 x<36:=by
  apply Classical.byContradiction
  intro hn
  have h1:=(hb (Lib.ctz 64 x)).2.1 rfl
  rw[Nat.testBit_lt_two_pow (Nat.lt_of_lt_of_le h (Nat.pow_le_pow_right (by omega) (by omega)))] at h1
  cases h1
 refine⟨?_,hk⟩
 generalize hc:Lib.ctz 64 x=k at *
 unfold zCM
 have hs:List.range 36=List.range k++(k :: (List.range (36 - (k+1))).map (·+(k+1))):=by
  have h1:List.range 36=List.range ((k+1)+(36 - (k+1))):=by congr 1;omega
  rw[h1,List.range_add,List.range_succ,List.append_assoc]
  congr 1
  simp only[List.singleton_append,List.cons.injEq,true_and]
  apply List.map_congr_left
  intro a _
  omega
 rw[hs,List.filter_append,List.filter_append,List.filter_cons,List.filter_cons]
 have e1:(List.range k).filter (fun i=>x.testBit i)=[]:=List.filter_eq_nil_iff.2 fun a ha=>by
  rw[(hb a).1 (List.mem_range.1 ha)];simp
 have e2:(List.range k).filter (fun i=>(x &&& (x - 1)).testBit i)=[]:=List.filter_eq_nil_iff.2 fun a ha=>by
  rw[(hb a).2.2,(hb a).1 (List.mem_range.1 ha)];simp
 have e3:x.testBit k=true:=(hb k).2.1 rfl
 have e4:(x &&& (x - 1)).testBit k=false:=by rw[(hb k).2.2];simp
 rw[e1,e2,e3,e4,if_pos rfl,if_neg (by simp),List.nil_append,List.nil_append]
 congr 1
 apply List.filter_congr
 intro a ha
 obtain⟨b,_,rfl⟩:=List.mem_map.1 ha
 rw[(hb _).2.2,show decide (b+(k+1)=k)=false by simp;omega];simp
def zA8 (vs:List MVar) (p:Nat):Cla:=(zCM p).map fun i=>⟨((i / 6:Nat):Int),3,(zAE vs (i / 6)).lo+((i % 6:Nat):Int)⟩
theorem zCh (vs:List MVar) (p:Nat):(zA8 vs p).length≤36:=by
 unfold zA8 zCM
 rw[List.length_map]
 exact Nat.le_trans (List.length_filter_le _ _) (by simp)
def zBx (says:Nat→Bool):Nat→Nat→Nat→Nat
 | 0,gone,_=>gone
 | f+1,gone,rest=>if rest=0 then gone else zBx says f (if says (zAM gone (2 ^ Lib.ctz 64 rest)) then zAM gone (2 ^ Lib.ctz 64 rest) else gone) (rest &&& (rest - 1))
theorem zFC (says:Nat→Bool):∀(f g gone rest:Nat),rest<f→rest<g→rest<2 ^ 64→zBx says f gone rest=zBx says g gone rest
 | 0,g,gone,rest,hf,hg,_=>by omega
 | f+1,0,gone,rest,hf,hg,_=>by omega
 | f+1,g+1,gone,rest,hf,hg,h=>by
   unfold zBx
   split
   ·rfl
   ·rename_i h0
    have:=zD4 rest h0 h
    exact zFC says f g _ _ (by omega) (by omega) (by omega)
theorem zH3 (says:Nat→Bool) (gone rest:Nat) (h0:rest≠0) (h:rest<2 ^ 64):zBx says (rest+1) gone rest=zBx says ((rest &&& (rest - 1))+1) (if says (zAM gone (2 ^ Lib.ctz 64 rest)) then zAM gone (2 ^ Lib.ctz 64 rest) else gone) (rest &&& (rest - 1)):=by
 conv=>lhs;unfold zBx
 rw[if_neg h0]
 have:=zD4 rest h0 h
 exact zFC says _ _ _ _ (by omega) (by omega) (by omega)
theorem zCU (lo hi x:Int):x∈zEt lo hi↔lo≤x∧x≤hi:=by
 refine⟨fun h=>?_,fun h=>zHT lo hi x h.1 h.2⟩
 unfold zEt at h
 obtain⟨k,hk,rfl⟩:=List.mem_map.1 h
 have:=List.mem_range.1 hk
 omega
theorem zC0 (vs:List MVar) (c:MCon):∀(r u:List Int) (a p:Nat),(∀v∈r,0≤v∧v<(vs.length:Int))→u.length=vs.length→p∈zAS vs c r u a →
 ∃u':List Int,u'.length=vs.length∧zAN c u'=true∧(∀v∈r,(zAE vs v.toNat).lo≤zAY u' v∧zAY u' v≤(zAE vs v.toNat).hi)∧(∀w:Int,(∀v∈r,v.toNat≠w.toNat)→zAY u' w=zAY u w) ∧
  (∀i,a.testBit i=true→p.testBit i=true)∧∀v∈r,p.testBit (6 * v.toNat+(zAY u' v - (zAE vs v.toNat).lo).toNat)=true
 | [],u,a,p,_,hu,hp=>by
   unfold zAS at hp
   split at hp
   ·rename_i hh
    rw[List.mem_singleton.1 hp]
    exact⟨u,hu,hh,(fun v hv=>by cases hv),(fun _ _=>rfl),(fun _ h=>h),(fun v hv=>by cases hv)⟩
   ·cases hp
 | v :: r,u,a,p,hr,hu,hp=>by
   unfold zAS at hp
   obtain⟨x,hx,hp⟩:=List.mem_flatMap.1 hp
   obtain⟨h1,h2⟩:=(zCU _ _ _).1 hx
   obtain⟨v0,v1⟩:=hr v (List.mem_cons_self ..)
   obtain⟨u',l1,l2,l3,l4,l5,l6⟩:=zC0 vs c r _ _ p (fun y hy=>hr y (List.mem_cons_of_mem _ hy)) (by simpa using hu) hp
   have key:(∀y∈r,y.toNat≠v.toNat)→zAY u' v=x:=fun hq=>by rw[l4 v hq,zCp _ _ _ (by omega)]
   have same:∀y∈r,y.toNat=v.toNat→y=v:=fun y hy he=>by
    have:=hr y (List.mem_cons_of_mem _ hy)
    omega
   refine⟨u',l1,l2,fun y hy=>?_,fun w hw=>?_,fun i hi=>l5 i (by rw[Nat.testBit_or,hi];rfl),fun y hy=>?_⟩
   ·rcases List.mem_cons.1 hy with rfl | hy
    ·by_cases hq:∃z∈r,z.toNat=y.toNat
     ·obtain⟨z,hz,he⟩:=hq
      rw[←same z hz he];exact l3 z hz
     ·rw[key fun z hz he=>hq ⟨z,hz,he⟩];exact⟨h1,h2⟩
    ·exact l3 y hy
   ·rw[l4 w (fun y hy=>hw y (List.mem_cons_of_mem _ hy)),zDj _ _ _ _ (hw v (List.mem_cons_self ..))]
   ·rcases List.mem_cons.1 hy with rfl | hy
    ·by_cases hq:∃z∈r,z.toNat=y.toNat
     ·obtain⟨z,hz,he⟩:=hq
      rw[←same z hz he];exact l6 z hz
     ·rw[key fun z hz he=>hq ⟨z,hz,he⟩]
      refine l5 _ ?_
      rw[Nat.testBit_or,zBO]
      simp
    ·exact l6 y hy
theorem zKG (p i:Nat) (hi:i<36):i∈zCM p↔p.testBit i=true:=by
 unfold zCM
 rw[List.mem_filter,List.mem_range]
 exact⟨fun h=>h.2,fun h=>⟨hi,h⟩⟩
theorem zEO (m:Mod) (hm:zAI m=0) (v:Nat) (h:v<m.vars.length):-50≤(zAE m.vars v).lo∧(zAE m.vars v).hi≤50:=by
 have e:m.vars[v]? = some (zAE m.vars v):=by unfold zAE;rw[List.getD_eq_getElem?_getD,List.getElem?_eq_getElem h];rfl
 have:=zHO m hm v _ e
 omega
end Go.Proofs.YtdjbejlbmaiocafGreatDoor
