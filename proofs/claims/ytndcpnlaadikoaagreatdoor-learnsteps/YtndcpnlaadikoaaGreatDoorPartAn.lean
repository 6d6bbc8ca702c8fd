/- What the proof leans on, part 14. -/
import Derived.Test.YtndcpnlaadikoaaGreatDoorPartAm
import Derived.Laws.Bits64b
import Derived.Lib.TrailingZeros
namespace Go.Proofs.YtndcpnlaadikoaaGreatDoor
def zAJ (a b:Nat):Nat:=a ^^^ (a &&& b)
theorem zAW (a b i:Nat):(zAJ a b).testBit i=(a.testBit i&&!b.testBit i):=by
 unfold zAJ
 rw[Nat.testBit_xor,Nat.testBit_and]
 cases a.testBit i <;> cases b.testBit i <;> rfl
theorem zCK (n a b:Nat) (h:a<2 ^ n):zAJ a b<2 ^ n:=Nat.xor_lt_two_pow h (Nat.lt_of_le_of_lt Nat.and_le_left h)
theorem zGq (a b:Nat):zAJ a b≤a:=by
 apply Nat.le_of_testBit
 intro i h
 rw[zAW] at h
 simp at h
 exact h.1
theorem zAY (a b:Nat) (ha:a<18446744073709551616) (hb:b<18446744073709551616):bits .andNot .u64 (a:Int) (b:Int)=((zAJ a b:Nat):Int):=by
 have h1:(BitVec.ofInt 64 (a:Int)).toNat=a:=by rw[BitVec.ofInt_natCast,BitVec.toNat_ofNat];exact Nat.mod_eq_of_lt (by omega)
 have h2:(BitVec.ofInt 64 (b:Int)).toNat=b:=by rw[BitVec.ofInt_natCast,BitVec.toNat_ofNat];exact Nat.mod_eq_of_lt (by omega)
 have key:(BitVec.ofInt 64 (a:Int) &&& ~~~BitVec.ofInt 64 (b:Int)).toNat=zAJ a b:=by
  apply Nat.eq_of_testBit_eq
  intro i
  rw[zAW,BitVec.toNat_and,Nat.testBit_and,h1,BitVec.testBit_toNat,BitVec.getLsbD_not,←BitVec.testBit_toNat,h2]
  by_cases hi:i<64
  ·simp[hi]
  ·have:a.testBit i=false:=Nat.testBit_lt_two_pow (Nat.lt_of_lt_of_le ha (by
    have:=Nat.pow_le_pow_right (n:=2) (by omega) (show 64≤i by omega)
    simpa using this))
   simp[this]
 show IntKind.u64.wrap ((BitVec.ofInt 64 (a:Int) &&& ~~~BitVec.ofInt 64 (b:Int)).toNat:Int)=_
 rw[key,IntKind.wrap_u64]
 have:=zCK 64 a b (by simpa using ha)
 omega
def rowP (f:Int→Bool) (b:Nat) (lo:Int):Nat→Nat
 | 0=>0
 | k+1=>if f (lo+(k:Int)) then rowP f b lo k ||| 2 ^ (b+k) else rowP f b lo k
theorem zBO (n i:Nat):(2 ^ n).testBit i=decide (n=i):=by rw[Nat.testBit_two_pow]
theorem zBr (f:Int→Bool) (b:Nat) (lo:Int):∀(k i:Nat),(rowP f b lo k).testBit i=(decide (b≤i)&&(decide (i<b+k)&&f (lo+((i - b:Nat):Int))))
 | 0,i=>by
   simp only[rowP,Nat.zero_testBit,Nat.add_zero]
   by_cases h:b≤i
   ·simp[h];omega
   ·simp[h]
 | k+1,i=>by
   unfold rowP
   by_cases hi:i=b+k
   ·subst hi
    have e:((b+k - b:Nat):Int)=(k:Int):=by omega
    cases hf:f (lo+(k:Int))
    ·rw[if_neg (by simp),zBr f b lo k];simp[hf]
    ·rw[if_pos rfl,Nat.testBit_or,zBO,zBr f b lo k];simp[hf]
   ·have e:decide (i<b+(k+1))=decide (i<b+k):=by
     by_cases h:i<b+k
     ·simp[h];omega
     ·simp[h];omega
    rw[e]
    split
    ·rw[Nat.testBit_or,zBO,zBr f b lo k,show decide (b+k=i)=false by simp;omega,Bool.or_false]
    ·exact zBr f b lo k i
def zAZ (p:Nat):Nat:=63 * 2 ^ (6 * (Lib.ctz 64 p / 6))
theorem zEU (i:Nat):Nat.testBit 63 i=decide (i<6):=by
 rw[show (63:Nat)=2 ^ 6 - 1 from rfl,Nat.testBit_two_pow_sub_one]
theorem zIj (v i:Nat):(63 * 2 ^ (6 * v)).testBit i=decide (i / 6=v):=by
 rw[Nat.mul_comm,Nat.testBit_two_pow_mul,zEU]
 by_cases h:i / 6=v
 ·subst h;simp;omega
 ·simp[h];omega
def zN8:MVar:=⟨ByteArray.empty,0,0⟩
def zAu (v:MVar):Nat:=(v.hi+1 - v.lo).toNat
def zAH (vs:List MVar) (v:Nat):MVar:=vs.getD v zN8
def ofN (vs:List MVar) (f:Nat→Int→Bool):Nat→Nat
 | 0=>0
 | v+1=>ofN vs f v ||| rowP (f v) (6 * v) (zAH vs v).lo (zAu (zAH vs v))
def ofP (vs:List MVar) (f:Nat→Int→Bool):Nat:=ofN vs f vs.length
def zAC (vs:List MVar):Nat:=ofP vs fun _ _=>true
def zAy (vs:List MVar) (s:Sto):Nat:=ofP vs fun v x=>hasB (s.getD v []) x
def zAF (vs:List MVar) (c:Cla):Nat:=ofP vs fun v x=>oneB c v x
def zAb (vs:List MVar):Prop:=vs.length≤6∧∀v:Nat,zAu (zAH vs v)≤6
theorem zAg (vs:List MVar) (hv:zAb vs) (f:Nat→Int→Bool):∀(n i:Nat),(ofN vs f n).testBit i=(decide (i / 6<n)&&(decide (i % 6<zAu (zAH vs (i / 6)))&&f (i / 6) ((zAH vs (i / 6)).lo+((i % 6:Nat):Int))))
 | 0,i=>by simp[ofN]
 | v+1,i=>by
   have h6:=hv.2 v
   unfold ofN
   rw[Nat.testBit_or,zAg vs hv f v i,zBr]
   by_cases hi:i / 6=v
   ·subst hi
    have e1:i - 6 * (i / 6)=i % 6:=by omega
    have e2:decide (i<6 * (i / 6)+zAu (zAH vs (i / 6)))=decide (i % 6<zAu (zAH vs (i / 6))):=by
     by_cases h:i % 6<zAu (zAH vs (i / 6))
     ·simp[h];omega
     ·simp[h];omega
    rw[e1,e2,show decide (6 * (i / 6)≤i)=true by simp;omega]
    simp
   ·have e1:decide (i / 6<v+1)=decide (i / 6<v):=by
     by_cases h:i / 6<v
     ·simp[h];omega
     ·simp[h];omega
    have e2:(decide (6 * v≤i)&&(decide (i<6 * v+zAu (zAH vs v))&&f v ((zAH vs v).lo+((i - 6 * v:Nat):Int))))=false:=by
     by_cases h:6 * v≤i
     ·have:¬(i<6 * v+zAu (zAH vs v)):=by omega
      simp[this]
     ·simp[h]
    rw[e1,e2,Bool.or_false]
theorem zNB (vs:List MVar) (hv:zAb vs) (f:Nat→Int→Bool) (n:Nat) (hn:n≤6):ofN vs f n<2 ^ 36:=by
 apply Nat.lt_pow_two_of_testBit
 intro i hi
 rw[zAg vs hv]
 have:¬(i / 6<n):=by omega
 simp[this]
theorem zEV (vs:List MVar) (hv:zAb vs) (f:Nat→Int→Bool):ofP vs f<2 ^ 36:=zNB vs hv f _ hv.1
def zA7 (n p:Nat):Bool:=(List.range n).any fun v=>p / 2 ^ (v * 6) &&& 63==0
def zCR (h p:Nat):Bool:=p &&& h==0
def zBX (vs:List MVar) (pts:List Nat) (h:Nat):Bool:=zA7 vs.length (zAJ (zAC vs) h) || !pts.any (zCR h)
def zAa (vs:List MVar) (c:MCon):List Int→List Int→Nat→List Nat
 | [],vals,a=>if zAV c vals then [a] else []
 | v :: r,vals,a=>(zDh (zAH vs v.toNat).lo (zAH vs v.toNat).hi).flatMap fun x=>zAa vs c r (vals.set v.toNat x) (a ||| 2 ^ (6 * v.toNat+(x - (zAH vs v.toNat).lo).toNat))
def zAR (vs:List MVar) (c:MCon):List Nat:=zAa vs c (zAO c) (zAN vs.length) 0
def zAd:List Nat→Nat→Option Nat
 | [],left=>some left
 | c :: r,left =>
   if left &&& c=0 then none
   else if zAJ (left &&& c) (zAZ (left &&& c))=0 then zAd r (zAJ left (zAJ (zAZ (left &&& c)) (left &&& c))) else zAd r left
def zAv (cs:List Nat):Nat→Nat→Nat
 | 0,left=>left
 | f+1,left=>match zAd cs left with
   | none=>0
   | some l=>if l=left then left else zAv cs f l
def zAc (vs:List MVar) (cs:List Nat) (p:Nat):Nat:=if zA7 vs.length p then 0 else zAv cs (p+1) p
def zDF (vs:List MVar) (cs:List Nat) (h:Nat):Bool:=zAc vs cs (zAJ (zAC vs) h)==0
theorem zCA:∀(cs:List Nat) (left l:Nat),zAd cs left=some l→l≤left
 | [],left,l,h=>by simp[zAd] at h;omega
 | c :: r,left,l,h=>by
   unfold zAd at h
   split at h
   ·cases h
   ·split at h
    ·exact Nat.le_trans (zCA r _ l h) (zGq _ _)
    ·exact zCA r _ l h
theorem zF9 (cs:List Nat):∀(f g left:Nat),left<f→left<g→zAv cs f left=zAv cs g left
 | 0,g,left,hf,hg=>by omega
 | f+1,0,left,hf,hg=>by omega
 | f+1,g+1,left,hf,hg=>by
   unfold zAv
   cases hr:zAd cs left with
   | none=>rfl
   | some l =>
     simp only
     split
     ·rfl
     ·have:=zCA cs left l hr
      exact zF9 cs f g l (by omega) (by omega)
theorem zKH (cs:List Nat) (left:Nat):zAv cs (left+1) left=match zAd cs left with
 | none=>0
 | some l=>if l=left then left else zAv cs (l+1) l:=by
 conv=>lhs;unfold zAv
 cases hr:zAd cs left with
 | none=>rfl
 | some l =>
   simp only
   split
   ·rfl
   ·have:=zCA cs left l hr
    exact zF9 cs _ _ l (by omega) (by omega)
theorem zHd (cs:List Nat):∀(f left:Nat),zAv cs f left≤left
 | 0,left=>Nat.le_refl _
 | f+1,left=>by
   unfold zAv
   cases hr:zAd cs left with
   | none=>simp
   | some l =>
     simp only
     split
     ·exact Nat.le_refl _
     ·exact Nat.le_trans (zHd cs f l) (zCA cs left l hr)
theorem zD6 (vs:List MVar) (cs:List Nat) (p:Nat):zAc vs cs p≤p:=by
 unfold zAc
 split
 ·exact Nat.zero_le _
 ·exact zHd cs _ _
def posV (vs:List MVar) (vals:List Int) (v:Nat):Nat:=6 * v+(zAX vals (v:Int) - (zAH vs v).lo).toNat
def zMX (vs:List MVar) (vals:List Int):Prop:=vals.length=vs.length∧∀v:Nat,v<vs.length→(zAH vs v).lo≤zAX vals (v:Int)∧zAX vals (v:Int)≤(zAH vs v).hi
theorem zLJ (vs:List MVar) (hv:zAb vs) (vals:List Int) (hm:zMX vs vals) (v:Nat) (h:v<vs.length):posV vs vals v / 6=v∧posV vs vals v % 6<zAu (zAH vs v)∧(zAH vs v).lo+((posV vs vals v % 6:Nat):Int)=zAX vals (v:Int):=by
 have h1:=hm.2 v h
 have h2:=hv.2 v
 have h3:posV vs vals v=6 * v+(zAX vals (v:Int) - (zAH vs v).lo).toNat:=rfl
 unfold zAu at h2 ⊢
 omega
theorem zEz (n p:Nat) (h:∀v,v<n→∃k,k<6∧p.testBit (6 * v+k)=true):zA7 n p=false:=by
 cases hl:zA7 n p
 ·rfl
 ·unfold zA7 at hl
  obtain⟨v,hv,hb⟩:=List.any_eq_true.1 hl
  obtain⟨k,hk,hp⟩:=h v (List.mem_range.1 hv)
  have h0:p / 2 ^ (v * 6) &&& 63=0:=by simpa using hb
  have:=congrArg (fun q=>Nat.testBit q k) h0
  simp only[Nat.testBit_and,zEU,Nat.testBit_div_two_pow,Nat.zero_testBit] at this
  rw[show k+v * 6=6 * v+k by omega,hp] at this
  simp[hk] at this
theorem zFJ (vs:List MVar) (c:MCon) (vals:List Int) (hm:zMX vs vals):∀(r u:List Int) (a:Nat),(∀v∈r,0≤v∧v<(vs.length:Int))→u.length=vs.length →
 (∀u':List Int,u'.length=vs.length→(∀v∈r,zAX u' v=zAX vals v)→(∀w:Int,(∀v∈r,v.toNat≠w.toNat)→zAX u' w=zAX u w)→zAV c u'=true) →
 ∃p∈zAa vs c r u a,∀i,p.testBit i=true→a.testBit i=true∨∃v:Nat,v<vs.length∧i=posV vs vals v
 | [],u,a,_,hu,hh=>by
   have h:=hh u hu (fun v hv=>by cases hv) (fun _ _=>rfl)
   refine⟨a,?_,fun i hi=>Or.inl hi⟩
   unfold zAa
   rw[if_pos h]
   exact List.mem_singleton.2 rfl
 | v :: r,u,a,hr,hu,hh=>by
   obtain⟨v0,v1⟩:=hr v (List.mem_cons_self ..)
   have hvn:v.toNat<vs.length:=by omega
   have hmv:=hm.2 v.toNat hvn
   rw[show ((v.toNat:Nat):Int)=v by omega] at hmv
   obtain⟨p,hp,hb⟩:=zFJ vs c vals hm r (u.set v.toNat (zAX vals v)) (a ||| 2 ^ (6 * v.toNat+(zAX vals v - (zAH vs v.toNat).lo).toNat)) (fun x hx=>hr x (List.mem_cons_of_mem _ hx)) (by simpa using hu) (by
    intro u' h1 h2 h3
    refine hh u' h1 (fun x hx=>?_) (fun w hw=>?_)
    ·rcases List.mem_cons.1 hx with rfl | hx
     ·by_cases hq:∃y∈r,y.toNat=x.toNat
      ·obtain⟨y,hy,he⟩:=hq
       have:=hr y (List.mem_cons_of_mem _ hy)
       have:y=x:=by omega
       rw[←this];exact h2 y hy
      ·rw[h3 x (fun y hy he=>hq ⟨y,hy,he⟩),zCf _ _ _ (by omega)]
     ·exact h2 x hx
    ·rw[h3 w (fun y hy=>hw y (List.mem_cons_of_mem _ hy)),zDE _ _ _ _ (hw v (List.mem_cons_self ..))])
   refine⟨p,?_,fun i hi=>?_⟩
   ·unfold zAa
    exact List.mem_flatMap.2 ⟨zAX vals v,zJV _ _ _ hmv.1 hmv.2,hp⟩
   ·rcases hb i hi with h | h
    ·rw[Nat.testBit_or,Bool.or_eq_true] at h
     rcases h with h | h
     ·exact Or.inl h
     ·rw[zBO] at h
      refine Or.inr ⟨v.toNat,hvn,?_⟩
      unfold posV
      rw[show ((v.toNat:Nat):Int)=v by omega]
      exact (of_decide_eq_true h).symm
    ·exact Or.inr h
theorem zLK (p i:Nat) (h:zAJ p (zAZ p)=0) (hi:p.testBit i=true):(zAZ p).testBit i=true:=by
 have:=congrArg (fun q=>Nat.testBit q i) h
 simp only[zAW,hi,Nat.zero_testBit] at this
 simpa using this
def zCp (m:Mod) (ahead:List Nat) (s:MStep):Bool :=
 if s.kind=1 then zBX m.vars (zAR m.vars (m.cons.getD s.con.toNat zNV)) (zAF m.vars s.cla)
 else if s.kind=2∧s.con=0 then zDF m.vars ahead (zAF m.vars s.cla) else false
def zBb (m:Mod):List Nat→List MStep→Bool
 | _,[]=>true
 | ahead,s :: r=>zCp m ahead s&&zBb m (ahead++[zAF m.vars s.cla]) r
theorem zBt (m:Mod) (hm:zAP m=0):zAb m.vars:=by
 refine⟨(zAo m hm).2.1,fun v=>?_⟩
 by_cases h:v<m.vars.length
 ·have e:m.vars[v]? = some (zAH m.vars v):=by unfold zAH;rw[List.getD_eq_getElem?_getD,List.getElem?_eq_getElem h];rfl
  have:=zJI m hm v _ e
  unfold zAu
  omega
 ·unfold zAH
  rw[List.getD_eq_getElem?_getD,List.getElem?_eq_none (by omega)]
  decide
theorem zGr (m:Mod) (hm:zAP m=0):1≤m.vars.length:=by
 have:=(zAo m hm).1
 omega
theorem zMY (m:Mod) (c:Cla) (h:claE m.vars c=0):∀l∈c,0≤l.var∧l.var<(m.vars.length:Int):=by
 have h1:=zMW m c h
 intro l hl
 have:=h1 l hl
 rw[zCJ] at this
 exact this
end Go.Proofs.YtndcpnlaadikoaaGreatDoor
