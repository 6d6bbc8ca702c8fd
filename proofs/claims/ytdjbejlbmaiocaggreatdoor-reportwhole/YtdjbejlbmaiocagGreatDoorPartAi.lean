/- What the proof leans on, part 9. -/
import Derived.Test.YtdjbejlbmaiocagGreatDoorPartAh
import Derived.Laws.Bits64b
import Derived.Lib.TrailingZeros
namespace Go.Proofs.YtdjbejlbmaiocagGreatDoor
def zAK (a b:Nat):Nat:=a ^^^ (a &&& b)
theorem zAP (a b i:Nat):(zAK a b).testBit i=(a.testBit i&&!b.testBit i):=by
 unfold zAK
 rw[Nat.testBit_xor,Nat.testBit_and]
 cases a.testBit i <;> cases b.testBit i <;> rfl
theorem zCO (n a b:Nat) (h:a<2 ^ n):zAK a b<2 ^ n:=Nat.xor_lt_two_pow h (Nat.lt_of_le_of_lt Nat.and_le_left h)
theorem zHa (a b:Nat):zAK a b≤a:=by
 apply Nat.le_of_testBit
 intro i h
 rw[zAP] at h
 simp at h
 exact h.1
theorem zAg (a b:Nat) (ha:a<18446744073709551616) (hb:b<18446744073709551616):bits .andNot .u64 (a:Int) (b:Int)=((zAK a b:Nat):Int):=by
 have h1:(BitVec.ofInt 64 (a:Int)).toNat=a:=by rw[BitVec.ofInt_natCast,BitVec.toNat_ofNat];exact Nat.mod_eq_of_lt (by omega)
 have h2:(BitVec.ofInt 64 (b:Int)).toNat=b:=by rw[BitVec.ofInt_natCast,BitVec.toNat_ofNat];exact Nat.mod_eq_of_lt (by omega)
 have key:(BitVec.ofInt 64 (a:Int) &&& ~~~BitVec.ofInt 64 (b:Int)).toNat=zAK a b:=by
  apply Nat.eq_of_testBit_eq
  intro i
  rw[zAP,BitVec.toNat_and,Nat.testBit_and,h1,BitVec.testBit_toNat,BitVec.getLsbD_not,←BitVec.testBit_toNat,h2]
  by_cases hi:i<64
  ·simp[hi]
  ·have:a.testBit i=false:=Nat.testBit_lt_two_pow (Nat.lt_of_lt_of_le ha (by
    have:=Nat.pow_le_pow_right (n:=2) (by omega) (show 64≤i by omega)
    simpa using this))
   simp[this]
 show IntKind.u64.wrap ((BitVec.ofInt 64 (a:Int) &&& ~~~BitVec.ofInt 64 (b:Int)).toNat:Int)=_
 rw[key,IntKind.wrap_u64]
 have:=zCO 64 a b (by simpa using ha)
 omega
def rowP (f:Int→Bool) (b:Nat) (lo:Int):Nat→Nat
 | 0=>0
 | k+1=>if f (lo+(k:Int)) then rowP f b lo k ||| 2 ^ (b+k) else rowP f b lo k
theorem zCP (n i:Nat):(2 ^ n).testBit i=decide (n=i):=by rw[Nat.testBit_two_pow]
theorem zCo (f:Int→Bool) (b:Nat) (lo:Int):∀(k i:Nat),(rowP f b lo k).testBit i=(decide (b≤i)&&(decide (i<b+k)&&f (lo+((i - b:Nat):Int))))
 | 0,i=>by
   simp only[rowP,Nat.zero_testBit,Nat.add_zero]
   by_cases h:b≤i
   ·simp[h];omega
   ·simp[h]
 | k+1,i=>by
   unfold rowP
   by_cases hi:i=b+k
   ·subst hi
    have e:((b+k - b:Nat):Int)=(k:Int):=by omega
    cases hf:f (lo+(k:Int))
    ·rw[if_neg (by simp),zCo f b lo k];simp[hf]
    ·rw[if_pos rfl,Nat.testBit_or,zCP,zCo f b lo k];simp[hf]
   ·have e:decide (i<b+(k+1))=decide (i<b+k):=by
     by_cases h:i<b+k
     ·simp[h];omega
     ·simp[h];omega
    rw[e]
    split
    ·rw[Nat.testBit_or,zCP,zCo f b lo k,show decide (b+k=i)=false by simp;omega,Bool.or_false]
    ·exact zCo f b lo k i
def zAf (p:Nat):Nat:=63 * 2 ^ (6 * (Lib.ctz 64 p / 6))
theorem zGg (i:Nat):Nat.testBit 63 i=decide (i<6):=by
 rw[show (63:Nat)=2 ^ 6 - 1 from rfl,Nat.testBit_two_pow_sub_one]
theorem zHb (v i:Nat):(63 * 2 ^ (6 * v)).testBit i=decide (i / 6=v):=by
 rw[Nat.mul_comm,Nat.testBit_two_pow_mul,zGg]
 by_cases h:i / 6=v
 ·subst h;simp;omega
 ·simp[h];omega
def zTZ:MVar:=⟨ByteArray.empty,0,0⟩
def zBz (v:MVar):Nat:=(v.hi+1 - v.lo).toNat
def zAL (vs:List MVar) (v:Nat):MVar:=vs.getD v zTZ
def ofN (vs:List MVar) (f:Nat→Int→Bool):Nat→Nat
 | 0=>0
 | v+1=>ofN vs f v ||| rowP (f v) (6 * v) (zAL vs v).lo (zBz (zAL vs v))
def ofP (vs:List MVar) (f:Nat→Int→Bool):Nat:=ofN vs f vs.length
def zAC (vs:List MVar):Nat:=ofP vs fun _ _=>true
def zAF (vs:List MVar) (c:Cla):Nat:=ofP vs fun v x=>oneB c v x
def zAa (vs:List MVar):Prop:=vs.length≤6∧∀v:Nat,zBz (zAL vs v)≤6
theorem zAY (vs:List MVar) (hv:zAa vs) (f:Nat→Int→Bool):∀(n i:Nat),(ofN vs f n).testBit i=(decide (i / 6<n)&&(decide (i % 6<zBz (zAL vs (i / 6)))&&f (i / 6) ((zAL vs (i / 6)).lo+((i % 6:Nat):Int))))
 | 0,i=>by simp[ofN]
 | v+1,i=>by
   have h6:=hv.2 v
   unfold ofN
   rw[Nat.testBit_or,zAY vs hv f v i,zCo]
   by_cases hi:i / 6=v
   ·subst hi
    have e1:i - 6 * (i / 6)=i % 6:=by omega
    have e2:decide (i<6 * (i / 6)+zBz (zAL vs (i / 6)))=decide (i % 6<zBz (zAL vs (i / 6))):=by
     by_cases h:i % 6<zBz (zAL vs (i / 6))
     ·simp[h];omega
     ·simp[h];omega
    rw[e1,e2,show decide (6 * (i / 6)≤i)=true by simp;omega]
    simp
   ·have e1:decide (i / 6<v+1)=decide (i / 6<v):=by
     by_cases h:i / 6<v
     ·simp[h];omega
     ·simp[h];omega
    have e2:(decide (6 * v≤i)&&(decide (i<6 * v+zBz (zAL vs v))&&f v ((zAL vs v).lo+((i - 6 * v:Nat):Int))))=false:=by
     by_cases h:6 * v≤i
     ·have:¬(i<6 * v+zBz (zAL vs v)):=by omega
      simp[this]
     ·simp[h]
    rw[e1,e2,Bool.or_false]
theorem zSg (vs:List MVar) (hv:zAa vs) (f:Nat→Int→Bool) (n:Nat) (hn:n≤6):ofN vs f n<2 ^ 36:=by
 apply Nat.lt_pow_two_of_testBit
 intro i hi
 rw[zAY vs hv]
 have:¬(i / 6<n):=by omega
 simp[this]
theorem zF6 (vs:List MVar) (hv:zAa vs) (f:Nat→Int→Bool):ofP vs f<2 ^ 36:=zSg vs hv f _ hv.1
def zCA (n p:Nat):Bool:=(List.range n).any fun v=>p / 2 ^ (v * 6) &&& 63==0
def zD6 (h p:Nat):Bool:=p &&& h==0
def zCa (vs:List MVar) (pts:List Nat) (h:Nat):Bool:=zCA vs.length (zAK (zAC vs) h) || !pts.any (zD6 h)
def zAk (vs:List MVar) (c:MCon):List Int→List Int→Nat→List Nat
 | [],vals,a=>if zAo c vals then [a] else []
 | v :: r,vals,a=>(zGe (zAL vs v.toNat).lo (zAL vs v.toNat).hi).flatMap fun x=>zAk vs c r (vals.set v.toNat x) (a ||| 2 ^ (6 * v.toNat+(x - (zAL vs v.toNat).lo).toNat))
def zAM (vs:List MVar) (c:MCon):List Nat:=zAk vs c (zBA c) (zBm vs.length) 0
def zAj:List Nat→Nat→Option Nat
 | [],left=>some left
 | c :: r,left =>
   if left &&& c=0 then none
   else if zAK (left &&& c) (zAf (left &&& c))=0 then zAj r (zAK left (zAK (zAf (left &&& c)) (left &&& c))) else zAj r left
def zBH (cs:List Nat):Nat→Nat→Nat
 | 0,left=>left
 | f+1,left=>match zAj cs left with
   | none=>0
   | some l=>if l=left then left else zBH cs f l
def zAc (vs:List MVar) (cs:List Nat) (p:Nat):Nat:=if zCA vs.length p then 0 else zBH cs (p+1) p
def zC6 (vs:List MVar) (cs:List Nat) (h:Nat):Bool:=zAc vs cs (zAK (zAC vs) h)==0
theorem zCc:∀(cs:List Nat) (left l:Nat),zAj cs left=some l→l≤left
 | [],left,l,h=>by simp[zAj] at h;omega
 | c :: r,left,l,h=>by
   unfold zAj at h
   split at h
   ·cases h
   ·split at h
    ·exact Nat.le_trans (zCc r _ l h) (zHa _ _)
    ·exact zCc r _ l h
theorem zIq (cs:List Nat):∀(f g left:Nat),left<f→left<g→zBH cs f left=zBH cs g left
 | 0,g,left,hf,hg=>by omega
 | f+1,0,left,hf,hg=>by omega
 | f+1,g+1,left,hf,hg=>by
   unfold zBH
   cases hr:zAj cs left with
   | none=>rfl
   | some l =>
     simp only
     split
     ·rfl
     ·have:=zCc cs left l hr
      exact zIq cs f g l (by omega) (by omega)
theorem zIr (cs:List Nat) (left:Nat):zBH cs (left+1) left=match zAj cs left with
 | none=>0
 | some l=>if l=left then left else zBH cs (l+1) l:=by
 conv=>lhs;unfold zBH
 cases hr:zAj cs left with
 | none=>rfl
 | some l =>
   simp only
   split
   ·rfl
   ·have:=zCc cs left l hr
    exact zIq cs _ _ l (by omega) (by omega)
theorem zHc (cs:List Nat):∀(f left:Nat),zBH cs f left≤left
 | 0,left=>Nat.le_refl _
 | f+1,left=>by
   unfold zBH
   cases hr:zAj cs left with
   | none=>simp
   | some l =>
     simp only
     split
     ·exact Nat.le_refl _
     ·exact Nat.le_trans (zHc cs f l) (zCc cs left l hr)
theorem zDF (vs:List MVar) (cs:List Nat) (p:Nat):zAc vs cs p≤p:=by
 unfold zAc
 split
 ·exact Nat.zero_le _
 ·exact zHc cs _ _
def posV (vs:List MVar) (vals:List Int) (v:Nat):Nat:=6 * v+(zAO vals (v:Int) - (zAL vs v).lo).toNat
def zDV (vs:List MVar) (vals:List Int):Prop:=vals.length=vs.length∧∀v:Nat,v<vs.length→(zAL vs v).lo≤zAO vals (v:Int)∧zAO vals (v:Int)≤(zAL vs v).hi
theorem zNO (vs:List MVar) (vals:List Int) (h:hasS (zFU vs) vals=true):zDV vs vals:=by
 obtain⟨h1,h2⟩:=(zNG _ _).1 h
 have hl:vals.length=vs.length:=by rw[←h1];simp[zFU]
 refine⟨hl,fun v hv=>?_⟩
 have e1:(zFU vs)[v]? = some (zGe (zAL vs v).lo (zAL vs v).hi):=by simp[zFU,zAL,hv,List.getD_eq_getElem?_getD]
 have e2:vals[v]? = some (zAO vals (v:Int)):=by
  unfold zAO
  rw[Int.toNat_natCast,List.getD_eq_getElem?_getD,List.getElem?_eq_getElem (by omega)];rfl
 have h3:=h2 v _ _ e1 e2
 unfold zGe at h3
 obtain⟨k,hk,he⟩:=List.mem_map.1 h3
 have:=List.mem_range.1 hk
 omega
theorem zDW (vs:List MVar) (hv:zAa vs) (vals:List Int) (hm:zDV vs vals) (v:Nat) (h:v<vs.length):posV vs vals v / 6=v∧posV vs vals v % 6<zBz (zAL vs v)∧(zAL vs v).lo+((posV vs vals v % 6:Nat):Int)=zAO vals (v:Int):=by
 have h1:=hm.2 v h
 have h2:=hv.2 v
 have h3:posV vs vals v=6 * v+(zAO vals (v:Int) - (zAL vs v).lo).toNat:=rfl
 unfold zBz at h2 ⊢
 omega
theorem zPj (vs:List MVar) (hv:zAa vs) (vals:List Int) (hm:zDV vs vals) (f:Nat→Int→Bool) (v:Nat) (h:v<vs.length):(ofP vs f).testBit (posV vs vals v)=f v (zAO vals (v:Int)):=by
 obtain⟨p1,p2,p3⟩:=zDW vs hv vals hm v h
 unfold ofP
 rw[zAY vs hv,p1,p3]
 simp[h,p2]
theorem zPk (vs:List MVar) (c:Cla) (vals:List Int) (hc:∀l∈c,0≤l.var∧l.var<(vs.length:Int)):claB c vals=true↔∃v:Nat,v<vs.length∧oneB c v (zAO vals (v:Int))=true:=by
 rw[zRQ]
 constructor
 ·rintro ⟨l,hl,h⟩
  have:=hc l hl
  refine⟨l.var.toNat,by omega,(zNH _ _ _).2 ⟨l,hl,by omega,?_⟩⟩
  unfold zAO
  rw[Int.toNat_natCast];exact h
 ·rintro ⟨v,_,h⟩
  obtain⟨l,hl,he,h⟩:=(zNH _ _ _).1 h
  refine⟨l,hl,?_⟩
  rw[he];exact h
def Hits (vs:List MVar) (vals:List Int) (p:Nat):Prop:=∃v:Nat,v<vs.length∧p.testBit (posV vs vals v)=true
theorem zD7 (vs:List MVar) (hv:zAa vs) (vals:List Int) (hm:zDV vs vals) (c:Cla) (hc:∀l∈c,0≤l.var∧l.var<(vs.length:Int)):Hits vs vals (zAF vs c)↔claB c vals=true:=by
 rw[zPk vs c vals hc]
 constructor
 ·rintro ⟨v,h,hb⟩
  unfold zAF at hb
  rw[zPj vs hv vals hm _ v h] at hb
  exact⟨v,h,hb⟩
 ·rintro ⟨v,h,hb⟩
  refine⟨v,h,?_⟩
  unfold zAF
  rw[zPj vs hv vals hm _ v h]
  exact hb
theorem zHK (n p:Nat) (h:∀v,v<n→∃k,k<6∧p.testBit (6 * v+k)=true):zCA n p=false:=by
 cases hl:zCA n p
 ·rfl
 ·unfold zCA at hl
  obtain⟨v,hv,hb⟩:=List.any_eq_true.1 hl
  obtain⟨k,hk,hp⟩:=h v (List.mem_range.1 hv)
  have h0:p / 2 ^ (v * 6) &&& 63=0:=by simpa using hb
  have:=congrArg (fun q=>Nat.testBit q k) h0
  simp only[Nat.testBit_and,zGg,Nat.testBit_div_two_pow,Nat.zero_testBit] at this
  rw[show k+v * 6=6 * v+k by omega,hp] at this
  simp[hk] at this
def zBv (vs:List MVar) (vals:List Int) (p:Nat):Prop:=∀v:Nat,v<vs.length→p.testBit (posV vs vals v)=true
theorem zHd (vs:List MVar) (hv:zAa vs) (vals:List Int) (hm:zDV vs vals) (p:Nat) (h:zBv vs vals p):zCA vs.length p=false:=by
 refine zHK _ _ fun v hl=>⟨posV vs vals v % 6,by omega,?_⟩
 have:=(zDW vs hv vals hm v hl).1
 have h2:=h v hl
 rw[show 6 * v+posV vs vals v % 6=posV vs vals v by omega]
 exact h2
theorem zFg (vs:List MVar) (hv:zAa vs) (vals:List Int) (hm:zDV vs vals) (h:Nat) (hh:¬Hits vs vals h):zBv vs vals (zAK (zAC vs) h):=by
 intro v hl
 rw[zAP]
 unfold zAC
 rw[zPj vs hv vals hm _ v hl]
 cases hb:h.testBit (posV vs vals v)
 ·rfl
 ·exact absurd ⟨v,hl,hb⟩ hh
theorem zFh (vs:List MVar) (c:MCon) (vals:List Int) (hm:zDV vs vals):∀(r u:List Int) (a:Nat),(∀v∈r,0≤v∧v<(vs.length:Int))→u.length=vs.length →
 (∀u':List Int,u'.length=vs.length→(∀v∈r,zAO u' v=zAO vals v)→(∀w:Int,(∀v∈r,v.toNat≠w.toNat)→zAO u' w=zAO u w)→zAo c u'=true) →
 ∃p∈zAk vs c r u a,∀i,p.testBit i=true→a.testBit i=true∨∃v:Nat,v<vs.length∧i=posV vs vals v
 | [],u,a,_,hu,hh=>by
   have h:=hh u hu (fun v hv=>by cases hv) (fun _ _=>rfl)
   refine⟨a,?_,fun i hi=>Or.inl hi⟩
   unfold zAk
   rw[if_pos h]
   exact List.mem_singleton.2 rfl
 | v :: r,u,a,hr,hu,hh=>by
   obtain⟨v0,v1⟩:=hr v (List.mem_cons_self ..)
   have hvn:v.toNat<vs.length:=by omega
   have hmv:=hm.2 v.toNat hvn
   rw[show ((v.toNat:Nat):Int)=v by omega] at hmv
   obtain⟨p,hp,hb⟩:=zFh vs c vals hm r (u.set v.toNat (zAO vals v)) (a ||| 2 ^ (6 * v.toNat+(zAO vals v - (zAL vs v.toNat).lo).toNat)) (fun x hx=>hr x (List.mem_cons_of_mem _ hx)) (by simpa using hu) (by
    intro u' h1 h2 h3
    refine hh u' h1 (fun x hx=>?_) (fun w hw=>?_)
    ·rcases List.mem_cons.1 hx with rfl | hx
     ·by_cases hq:∃y∈r,y.toNat=x.toNat
      ·obtain⟨y,hy,he⟩:=hq
       have:=hr y (List.mem_cons_of_mem _ hy)
       have:y=x:=by omega
       rw[←this];exact h2 y hy
      ·rw[h3 x (fun y hy he=>hq ⟨y,hy,he⟩),zFW _ _ _ (by omega)]
     ·exact h2 x hx
    ·rw[h3 w (fun y hy=>hw y (List.mem_cons_of_mem _ hy)),zG0 _ _ _ _ (hw v (List.mem_cons_self ..))])
   refine⟨p,?_,fun i hi=>?_⟩
   ·unfold zAk
    exact List.mem_flatMap.2 ⟨zAO vals v,zJ2 _ _ _ hmv.1 hmv.2,hp⟩
   ·rcases hb i hi with h | h
    ·rw[Nat.testBit_or,Bool.or_eq_true] at h
     rcases h with h | h
     ·exact Or.inl h
     ·rw[zCP] at h
      refine Or.inr ⟨v.toNat,hvn,?_⟩
      unfold posV
      rw[show ((v.toNat:Nat):Int)=v by omega]
      exact (of_decide_eq_true h).symm
    ·exact Or.inr h
theorem zPl (vs:List MVar) (hv:zAa vs) (c:MCon) (hsc:∀v∈zBA c,0≤v∧v<(vs.length:Int)) (hl:c.kind=10→c.lits≠[]) (h:Nat) (hs:zCa vs (zAM vs c) h=true)
 (vals:List Int) (hm:zDV vs vals) (hh:zAo c vals=true):Hits vs vals h:=by
 apply Classical.byContradiction
 intro hn
 have hw:=zFg vs hv vals hm h hn
 unfold zCa at hs
 rw[zHd vs hv vals hm _ hw,Bool.false_or] at hs
 obtain⟨p,hp,hb⟩:=zFh vs c vals hm (zBA c) (zBm vs.length) 0 hsc (by simp[zBm]) (fun u' _ h2 _=>by rw[zFf c u' vals h2 hl];exact hh)
 have:(zAM vs c).any (zD6 h)=true:=by
  refine List.any_eq_true.2 ⟨p,hp,?_⟩
  unfold zD6
  have:p &&& h=0:=by
   apply Nat.eq_of_testBit_eq
   intro i
   rw[Nat.testBit_and,Nat.zero_testBit]
   cases hpi:p.testBit i
   ·rfl
   ·rcases hb i hpi with h0 | ⟨v,hvl,rfl⟩
    ·simp at h0
    ·cases hhi:h.testBit (posV vs vals v)
     ·rfl
     ·exact absurd ⟨v,hvl,hhi⟩ hn
  simp[this]
 rw[this] at hs
 cases hs
theorem zPm (p i:Nat) (h:zAK p (zAf p)=0) (hi:p.testBit i=true):(zAf p).testBit i=true:=by
 have:=congrArg (fun q=>Nat.testBit q i) h
 simp only[zAP,hi,Nat.zero_testBit] at this
 simpa using this
theorem zFi (vs:List MVar) (hv:zAa vs) (vals:List Int) (hm:zDV vs vals):∀(cs:List Nat) (left:Nat),(∀c∈cs,Hits vs vals c)→zBv vs vals left→∃l,zAj cs left=some l∧zBv vs vals l
 | [],left,_,hw=>⟨left,rfl,hw⟩
 | c :: r,left,hc,hw=>by
   obtain⟨v,hvl,hb⟩:=hc c (List.mem_cons_self ..)
   have ho:(left &&& c).testBit (posV vs vals v)=true:=by rw[Nat.testBit_and,hw v hvl,hb];rfl
   have hne:left &&& c≠0:=fun h=>by rw[h] at ho;simp at ho
   unfold zAj
   rw[if_neg hne]
   split
   ·rename_i hf
    refine zFi vs hv vals hm r _ (fun d hd=>hc d (List.mem_cons_of_mem _ hd)) fun u hu=>?_
    rw[zAP,hw u hu,zAP]
    by_cases huv:u=v
    ·subst huv;rw[ho];simp
    ·have hfv:=zPm _ _ hf ho
     have:(zAf (left &&& c)).testBit (posV vs vals u)=false:=by
      unfold zAf at hfv ⊢
      rw[zHb] at hfv ⊢
      rw[(zDW vs hv vals hm v hvl).1] at hfv
      rw[(zDW vs hv vals hm u hu).1]
      have:v=Lib.ctz 64 (left &&& c) / 6:=by simpa using hfv
      simp;omega
     rw[this];simp
   ·exact zFi vs hv vals hm r _ (fun d hd=>hc d (List.mem_cons_of_mem _ hd)) hw
theorem zG1 (vs:List MVar) (hv:zAa vs) (vals:List Int) (hm:zDV vs vals) (cs:List Nat) (hc:∀c∈cs,Hits vs vals c):∀(f left:Nat),zBv vs vals left→zBv vs vals (zBH cs f left)
 | 0,left,hw=>hw
 | f+1,left,hw=>by
   obtain⟨l,hl,hw2⟩:=zFi vs hv vals hm cs left hc hw
   unfold zBH
   rw[hl]
   simp only
   split
   ·exact hw
   ·exact zG1 vs hv vals hm cs hc f l hw2
theorem zHe (vs:List MVar) (hv:zAa vs) (vals:List Int) (hm:zDV vs vals) (cs:List Nat) (hc:∀c∈cs,Hits vs vals c) (p:Nat) (hw:zBv vs vals p):zBv vs vals (zAc vs cs p):=by
 unfold zAc
 rw[zHd vs hv vals hm _ hw]
 exact zG1 vs hv vals hm cs hc _ _ hw
theorem zF7 (vs:List MVar) (h1:1≤vs.length) (vals:List Int) (p:Nat) (hw:zBv vs vals p):p≠0:=by
 intro h0
 have:=hw 0 (by omega)
 rw[h0,Nat.zero_testBit] at this
 cases this
theorem zOF (vs:List MVar) (hv:zAa vs) (h1:1≤vs.length) (cs:List Nat) (h:Nat) (hs:zC6 vs cs h=true) (vals:List Int) (hm:zDV vs vals) (hc:∀c∈cs,Hits vs vals c):Hits vs vals h:=by
 apply Classical.byContradiction
 intro hn
 have hw:=zFg vs hv vals hm h hn
 unfold zC6 at hs
 exact zF7 vs h1 vals _ (zHe vs hv vals hm cs hc _ hw) (by simpa using hs)
def zC7 (m:Mod) (ahead:List Nat) (s:MStep):Bool :=
 if s.kind=1 then zCa m.vars (zAM m.vars (m.cons.getD s.con.toNat zJ1)) (zAF m.vars s.cla)
 else if s.kind=2∧s.con=0 then zC6 m.vars ahead (zAF m.vars s.cla) else false
def zBN (m:Mod):List Nat→List MStep→Bool
 | _,[]=>true
 | ahead,s :: r=>zC7 m ahead s&&zBN m (ahead++[zAF m.vars s.cla]) r
theorem zAd (m:Mod) (hm:zAE m=0):zAa m.vars:=by
 refine⟨(zAx m hm).2.1,fun v=>?_⟩
 by_cases h:v<m.vars.length
 ·have e:m.vars[v]? = some (zAL m.vars v):=by unfold zAL;rw[List.getD_eq_getElem?_getD,List.getElem?_eq_getElem h];rfl
  have:=zIl m hm v _ e
  unfold zBz
  omega
 ·unfold zAL
  rw[List.getD_eq_getElem?_getD,List.getElem?_eq_none (by omega)]
  decide
theorem zEN (m:Mod) (hm:zAE m=0):1≤m.vars.length:=by
 have:=(zAx m hm).1
 omega
theorem zIs (m:Mod) (hm:zAE m=0) (vals:List Int) (hv:zDV m.vars vals) (hc:∀c∈m.cons,zAo c vals=true):∀(r:List MStep) (ahead:List Nat),(∀s∈r,s.kind=1→0≤s.con∧s.con<(m.cons.length:Int)) →
 (∀c∈ahead,Hits m.vars vals c)→zBN m ahead r=true→∀s∈r,Hits m.vars vals (zAF m.vars s.cla)
 | [],_,_,_,_=>fun s hs=>by cases hs
 | s :: r,ahead,hk,ha,h=>by
   unfold zBN at h
   rw[Bool.and_eq_true] at h
   have hs:Hits m.vars vals (zAF m.vars s.cla):=by
    have h1:=h.1
    unfold zC7 at h1
    split at h1
    ·rename_i hk1
     obtain⟨c0,c1⟩:=hk s (List.mem_cons_self ..) hk1
     have hj:s.con.toNat<m.cons.length:=by omega
     have e:m.cons[s.con.toNat]? = some (m.cons.getD s.con.toNat zJ1):=by rw[List.getD_eq_getElem?_getD,List.getElem?_eq_getElem hj];rfl
     obtain⟨k1,k2⟩:=zFE m hm _ _ e
     exact zPl m.vars (zAd m hm) _ k1 k2 _ h1 vals hv (hc _ (List.mem_of_getElem? e))
    ·split at h1
     ·exact zOF m.vars (zAd m hm) (zEN m hm) ahead _ h1 vals hv ha
     ·cases h1
   intro t ht
   rcases List.mem_cons.1 ht with rfl | ht
   ·exact hs
   ·refine zIs m hm vals hv hc r _ (fun x hx=>hk x (List.mem_cons_of_mem _ hx)) (fun c hcm=>?_) h.2 t ht
    rcases List.mem_append.1 hcm with hx | hx
    ·exact ha c hx
    ·rw[List.mem_singleton.1 hx];exact hs
theorem zNP (m:Mod) (c:Cla) (h:claE m.vars c=0):∀l∈c,0≤l.var∧l.var<(m.vars.length:Int):=by
 have h1:=zRc m c h
 intro l hl
 have:=h1 l hl
 rw[zHZ] at this
 exact this
theorem zIt (m:Mod) (given:List Cla) (r:List MStep) (vals:List Int) (ha:allA m vals=(true,0)) (hg:∀d∈given,claE m.vars d=0) (hr:∀s∈r,claE m.vars s.cla=0)
 (hk:∀s∈r,s.kind=1→0≤s.con∧s.con<(m.cons.length:Int)) (hh:∀d∈given,claB d vals=true) (hs:zBN m (given.map (zAF m.vars)) r=true) (s:MStep) (hl:s∈r) (he:s.cla=[]):False:=by
 obtain⟨h0,h1,h2⟩:=zGf m vals ha
 have hm:=zNO m.vars vals h1
 have hv:=zAd m h0
 have:=zIs m h0 vals hm h2 r _ hk (fun c hc=>by
  obtain⟨d,hd,rfl⟩:=List.mem_map.1 hc
  exact (zD7 m.vars hv vals hm d (zNP m d (hg d hd))).2 (hh d hd)) hs s hl
 rw[zD7 m.vars hv vals hm _ (zNP m _ (hr s hl)),he] at this
 cases this
def zDw (p:Nat):List Nat:=(List.range 36).filter fun i=>p.testBit i
theorem zRd (x:Nat) (h0:x≠0) (h:x<2 ^ 64):∃m,x=2 ^ (Lib.ctz 64 x+1) * m+2 ^ Lib.ctz 64 x∧Lib.ctz 64 x<64:=by
 obtain⟨m,h1,h2⟩:=Lib.ctzFrom_spec 64 x (by omega) h
 have e:Lib.ctz 64 x=Lib.ctzFrom 64 x:=by unfold Lib.ctz;rw[if_neg h0]
 rw[e]
 refine⟨m,?_,h2⟩
 conv=>lhs;rw[h1]
 rw[Nat.pow_succ,Nat.mul_add,Nat.mul_one,Nat.mul_assoc]
theorem zDn (x:Nat) (h0:x≠0) (h:x<2 ^ 64) (i:Nat):(i<Lib.ctz 64 x→x.testBit i=false)∧(i=Lib.ctz 64 x→x.testBit i=true)∧(x &&& (x - 1)).testBit i=(x.testBit i&&!decide (i=Lib.ctz 64 x)):=by
 obtain⟨m,h1,_⟩:=zRd x h0 h
 generalize hk:Lib.ctz 64 x=k at h1
 have hp:0<2 ^ k:=Nat.pow_pos (by omega)
 have hlt:2 ^ k<2 ^ (k+1):=by rw[Nat.pow_succ];omega
 have h2:x - 1=2 ^ (k+1) * m+(2 ^ k - 1):=by omega
 have t1:x.testBit i=if i<k+1 then decide (k=i) else m.testBit (i - (k+1)):=by
  rw[h1,Nat.testBit_two_pow_mul_add _ hlt]
  split
  ·exact zCP k i
  ·rfl
 have t2:(x - 1).testBit i=if i<k+1 then decide (i<k) else m.testBit (i - (k+1)):=by
  rw[h2,Nat.testBit_two_pow_mul_add _ (by omega)]
  split
  ·exact Nat.testBit_two_pow_sub_one ..
  ·rfl
 refine⟨fun hi=>?_,fun hi=>?_,?_⟩
 ·rw[t1,if_pos (by omega)];simp;omega
 ·rw[t1,if_pos (by omega)];simp;omega
 ·rw[Nat.testBit_and,t1,t2]
  by_cases hi:i<k+1
  ·rw[if_pos hi,if_pos hi]
   by_cases he:k=i
   ·subst he;simp
   ·simp[he]
  ·rw[if_neg hi,if_neg hi,show decide (i=k)=false by simp;omega];simp
theorem zHL (x:Nat) (h0:x≠0) (h:x<2 ^ 64):x &&& (x - 1)<x:=by
 have h1:=zDn x h0 h
 have hle:x &&& (x - 1)≤x:=Nat.and_le_left
 have:x &&& (x - 1)≠x:=fun he=>by
  have h2:=(h1 (Lib.ctz 64 x)).2.2
  rw[he,(h1 (Lib.ctz 64 x)).2.1 rfl] at h2
  simp at h2
 omega
theorem zIu:zDw 0=[]:=by simp[zDw]
theorem zFF (x:Nat) (h0:x≠0) (h:x<2 ^ 36):zDw x=Lib.ctz 64 x :: zDw (x &&& (x - 1))∧Lib.ctz 64 x<36:=by
 have h64:x<2 ^ 64:=Nat.lt_of_lt_of_le h (Nat.pow_le_pow_right (by omega) (by omega))
 have hb:=zDn x h0 h64
 have hk:Lib.ctz 64 x<36:=by
  apply Classical.byContradiction
  intro hn
  have h1:=(hb (Lib.ctz 64 x)).2.1 rfl
  rw[Nat.testBit_lt_two_pow (Nat.lt_of_lt_of_le h (Nat.pow_le_pow_right (by omega) (by omega)))] at h1
  cases h1
 refine⟨?_,hk⟩
 generalize hc:Lib.ctz 64 x=k at *
 unfold zDw
 have hs:List.range 36=List.range k++(k :: (List.range (36 - (k+1))).map (·+(k+1))):=by
  have h1:List.range 36=List.range ((k+1)+(36 - (k+1))):=by congr 1;omega
  rw[h1,List.range_add,List.range_succ,List.append_assoc]
  congr 1
  simp only[List.singleton_append,List.cons.injEq,true_and]
  apply List.map_congr_left
  intro a _
  omega
 rw[hs,List.filter_append,List.filter_append,List.filter_cons,List.filter_cons]
 have e1:(List.range k).filter (fun i=>x.testBit i)=[]:=List.filter_eq_nil_iff.2 fun a ha=>by
  rw[(hb a).1 (List.mem_range.1 ha)];simp
 have e2:(List.range k).filter (fun i=>(x &&& (x - 1)).testBit i)=[]:=List.filter_eq_nil_iff.2 fun a ha=>by
  rw[(hb a).2.2,(hb a).1 (List.mem_range.1 ha)];simp
 have e3:x.testBit k=true:=(hb k).2.1 rfl
 have e4:(x &&& (x - 1)).testBit k=false:=by rw[(hb k).2.2];simp
 rw[e1,e2,e3,e4,if_pos rfl,if_neg (by simp),List.nil_append,List.nil_append]
 congr 1
 apply List.filter_congr
 intro a ha
 obtain⟨b,_,rfl⟩:=List.mem_map.1 ha
 rw[(hb _).2.2,show decide (b+(k+1)=k)=false by simp;omega];simp
def zBc (vs:List MVar) (p:Nat):Cla:=(zDw p).map fun i=>⟨((i / 6:Nat):Int),3,(zAL vs (i / 6)).lo+((i % 6:Nat):Int)⟩
theorem zEO (vs:List MVar) (p:Nat):(zBc vs p).length≤36:=by
 unfold zBc zDw
 rw[List.length_map]
 exact Nat.le_trans (List.length_filter_le _ _) (by simp)
def zCY (says:Nat→Bool):Nat→Nat→Nat→Nat
 | 0,gone,_=>gone
 | f+1,gone,rest=>if rest=0 then gone else zCY says f (if says (zAK gone (2 ^ Lib.ctz 64 rest)) then zAK gone (2 ^ Lib.ctz 64 rest) else gone) (rest &&& (rest - 1))
theorem zIv (says:Nat→Bool):∀(f gone rest:Nat),says gone=true→says (zCY says f gone rest)=true
 | 0,gone,rest,h=>h
 | f+1,gone,rest,h=>by
   unfold zCY
   split
   ·exact h
   ·apply zIv
    split
    ·assumption
    ·exact h
theorem zHf (says:Nat→Bool):∀(f gone rest i:Nat),(zCY says f gone rest).testBit i=true→gone.testBit i=true
 | 0,gone,rest,i,h=>h
 | f+1,gone,rest,i,h=>by
   unfold zCY at h
   split at h
   ·exact h
   ·have:=zHf says f _ _ i h
    split at this
    ·rw[zAP,Bool.and_eq_true] at this
     exact this.1
    ·exact this
theorem zIw (says:Nat→Bool):∀(f g gone rest:Nat),rest<f→rest<g→rest<2 ^ 64→zCY says f gone rest=zCY says g gone rest
 | 0,g,gone,rest,hf,hg,_=>by omega
 | f+1,0,gone,rest,hf,hg,_=>by omega
 | f+1,g+1,gone,rest,hf,hg,h=>by
   unfold zCY
   split
   ·rfl
   ·rename_i h0
    have:=zHL rest h0 h
    exact zIw says f g _ _ (by omega) (by omega) (by omega)
theorem zOG (says:Nat→Bool) (gone rest:Nat) (h0:rest≠0) (h:rest<2 ^ 64):zCY says (rest+1) gone rest=zCY says ((rest &&& (rest - 1))+1) (if says (zAK gone (2 ^ Lib.ctz 64 rest)) then zAK gone (2 ^ Lib.ctz 64 rest) else gone) (rest &&& (rest - 1)):=by
 conv=>lhs;unfold zCY
 rw[if_neg h0]
 have:=zHL rest h0 h
 exact zIw says _ _ _ _ (by omega) (by omega) (by omega)
theorem zDo (lo hi x:Int):x∈zGe lo hi↔lo≤x∧x≤hi:=by
 refine⟨fun h=>?_,fun h=>zJ2 lo hi x h.1 h.2⟩
 unfold zGe at h
 obtain⟨k,hk,rfl⟩:=List.mem_map.1 h
 have:=List.mem_range.1 hk
 omega
theorem zEP (vs:List MVar) (c:MCon):∀(r u:List Int) (a p:Nat),(∀v∈r,0≤v∧v<(vs.length:Int))→u.length=vs.length→p∈zAk vs c r u a →
 ∃u':List Int,u'.length=vs.length∧zAo c u'=true∧(∀v∈r,(zAL vs v.toNat).lo≤zAO u' v∧zAO u' v≤(zAL vs v.toNat).hi)∧(∀w:Int,(∀v∈r,v.toNat≠w.toNat)→zAO u' w=zAO u w) ∧
  (∀i,a.testBit i=true→p.testBit i=true)∧∀v∈r,p.testBit (6 * v.toNat+(zAO u' v - (zAL vs v.toNat).lo).toNat)=true
 | [],u,a,p,_,hu,hp=>by
   unfold zAk at hp
   split at hp
   ·rename_i hh
    rw[List.mem_singleton.1 hp]
    exact⟨u,hu,hh,(fun v hv=>by cases hv),(fun _ _=>rfl),(fun _ h=>h),(fun v hv=>by cases hv)⟩
   ·cases hp
 | v :: r,u,a,p,hr,hu,hp=>by
   unfold zAk at hp
   obtain⟨x,hx,hp⟩:=List.mem_flatMap.1 hp
   obtain⟨h1,h2⟩:=(zDo _ _ _).1 hx
   obtain⟨v0,v1⟩:=hr v (List.mem_cons_self ..)
   obtain⟨u',l1,l2,l3,l4,l5,l6⟩:=zEP vs c r _ _ p (fun y hy=>hr y (List.mem_cons_of_mem _ hy)) (by simpa using hu) hp
   have key:(∀y∈r,y.toNat≠v.toNat)→zAO u' v=x:=fun hq=>by rw[l4 v hq,zFW _ _ _ (by omega)]
   have same:∀y∈r,y.toNat=v.toNat→y=v:=fun y hy he=>by
    have:=hr y (List.mem_cons_of_mem _ hy)
    omega
   refine⟨u',l1,l2,fun y hy=>?_,fun w hw=>?_,fun i hi=>l5 i (by rw[Nat.testBit_or,hi];rfl),fun y hy=>?_⟩
   ·rcases List.mem_cons.1 hy with rfl | hy
    ·by_cases hq:∃z∈r,z.toNat=y.toNat
     ·obtain⟨z,hz,he⟩:=hq
      rw[←same z hz he];exact l3 z hz
     ·rw[key fun z hz he=>hq ⟨z,hz,he⟩];exact⟨h1,h2⟩
    ·exact l3 y hy
   ·rw[l4 w (fun y hy=>hw y (List.mem_cons_of_mem _ hy)),zG0 _ _ _ _ (hw v (List.mem_cons_self ..))]
   ·rcases List.mem_cons.1 hy with rfl | hy
    ·by_cases hq:∃z∈r,z.toNat=y.toNat
     ·obtain⟨z,hz,he⟩:=hq
      rw[←same z hz he];exact l6 z hz
     ·rw[key fun z hz he=>hq ⟨z,hz,he⟩]
      refine l5 _ ?_
      rw[Nat.testBit_or,zCP]
      simp
    ·exact l6 y hy
theorem zJ3 (p i:Nat) (hi:i<36):i∈zDw p↔p.testBit i=true:=by
 unfold zDw
 rw[List.mem_filter,List.mem_range]
 exact⟨fun h=>h.2,fun h=>⟨hi,h⟩⟩
theorem zIx (vs:List MVar) (hv:zAa vs) (hb:∀v:Nat,v<vs.length→-50≤(zAL vs v).lo∧(zAL vs v).hi≤50) (p:Nat) (hp:∀i,p.testBit i=true→(zAC vs).testBit i=true):∀l∈zBc vs p,litE vs l=0:=by
 intro l hl
 obtain⟨i,hi,rfl⟩:=List.mem_map.1 hl
 unfold zDw at hi
 have h1:=hp i (List.mem_filter.1 hi).2
 unfold zAC ofP at h1
 rw[zAY vs hv] at h1
 simp only[Bool.and_eq_true,decide_eq_true_eq] at h1
 have h2:=hb (i / 6) h1.1
 have h3:=h1.2.1
 unfold zBz at h3
 unfold litE
 simp only
 rw[if_neg (by omega),if_neg (by omega),if_neg (by omega)]
theorem zCp (m:Mod) (hm:zAE m=0) (v:Nat) (h:v<m.vars.length):-50≤(zAL m.vars v).lo∧(zAL m.vars v).hi≤50:=by
 have e:m.vars[v]? = some (zAL m.vars v):=by unfold zAL;rw[List.getD_eq_getElem?_getD,List.getElem?_eq_getElem h];rfl
 have:=zIl m hm v _ e
 omega
theorem zCq (l:List Int) (h:∀e∈l,e=0):zAi l=0:=by
 induction l with
 | nil=>rfl
 | cons a r ih =>
   unfold zAi
   rw[if_pos (h a (List.mem_cons_self ..))]
   exact ih fun e he=>h e (List.mem_cons_of_mem _ he)
end Go.Proofs.YtdjbejlbmaiocagGreatDoor
