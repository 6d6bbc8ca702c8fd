/- What the proof leans on, part 9. -/
import Derived.Test.YtdjbejlbmaiocagGreatDoorPartAh
import Derived.Laws.Bits64b
import Derived.Lib.TrailingZeros
namespace Go.Proofs.YtdjbejlbmaiocagGreatDoor
def zAL (a b:Nat):Nat:=a ^^^ (a &&& b)
theorem zAR (a b i:Nat):(zAL a b).testBit i=(a.testBit i&&!b.testBit i):=by
 unfold zAL;rw[Nat.testBit_xor,Nat.testBit_and];cases a.testBit i <;> cases b.testBit i <;> rfl
theorem zCe (n a b:Nat) (h:a<2 ^ n):zAL a b<2 ^ n:=Nat.xor_lt_two_pow h (Nat.lt_of_le_of_lt Nat.and_le_left h)
theorem zHw (a b:Nat):zAL a b≤a:=by
 apply Nat.le_of_testBit;intro i h;rw[zAR] at h;simp at h;exact h.1
theorem zAm (a b:Nat) (ha:a<18446744073709551616) (hb:b<18446744073709551616):bits .andNot .u64 (a:Int) (b:Int)=((zAL a b:Nat):Int):=by
 have h1:(BitVec.ofInt 64 (a:Int)).toNat=a:=by rw[BitVec.ofInt_natCast,BitVec.toNat_ofNat];exact Nat.mod_eq_of_lt (by omega)
 have h2:(BitVec.ofInt 64 (b:Int)).toNat=b:=by rw[BitVec.ofInt_natCast,BitVec.toNat_ofNat];exact Nat.mod_eq_of_lt (by omega)
 have key:(BitVec.ofInt 64 (a:Int) &&& ~~~BitVec.ofInt 64 (b:Int)).toNat=zAL a b:=by
  apply Nat.eq_of_testBit_eq;intro i;rw[zAR,BitVec.toNat_and,Nat.testBit_and,h1,BitVec.testBit_toNat,BitVec.getLsbD_not,←BitVec.testBit_toNat,h2];by_cases hi:i<64
  ·simp[hi]
  ·have:a.testBit i=false:=Nat.testBit_lt_two_pow (Nat.lt_of_lt_of_le ha (by
    have:=Nat.pow_le_pow_right (n:=2) (by omega) (show 64≤i by omega)
    simpa using this))
   simp[this]
 show IntKind.u64.wrap ((BitVec.ofInt 64 (a:Int) &&& ~~~BitVec.ofInt 64 (b:Int)).toNat:Int)=_;rw[key,IntKind.wrap_u64];have:=zCe 64 a b (by simpa using ha)
 omega
def rowP (f:Int→Bool) (b:Nat) (lo:Int):Nat→Nat
 | 0=>0
 | k+1=>if f (lo+(k:Int)) then rowP f b lo k ||| 2 ^ (b+k) else rowP f b lo k
theorem zCf (n i:Nat):(2 ^ n).testBit i=decide (n=i):=by rw[Nat.testBit_two_pow]
theorem zDM (f:Int→Bool) (b:Nat) (lo:Int):∀(k i:Nat),(rowP f b lo k).testBit i=(decide (b≤i)&&(decide (i<b+k)&&f (lo+((i - b:Nat):Int))))
 | 0,i=>by
   simp only[rowP,Nat.zero_testBit,Nat.add_zero];by_cases h:b≤i
   ·simp[h];omega
   ·simp[h]
 | k+1,i=>by
   unfold rowP;by_cases hi:i=b+k
   ·subst hi
    have e:((b+k - b:Nat):Int)=(k:Int):=by omega
    cases hf:f (lo+(k:Int))
    ·rw[if_neg (by simp),zDM f b lo k];simp[hf]
    ·rw[if_pos rfl,Nat.testBit_or,zCf,zDM f b lo k];simp[hf]
   ·have e:decide (i<b+(k+1))=decide (i<b+k):=by
     by_cases h:i<b+k
     ·simp[h];omega
     ·simp[h];omega
    rw[e]
    split
    ·rw[Nat.testBit_or,zCf,zDM f b lo k,show decide (b+k=i)=false by simp;omega,Bool.or_false]
    ·exact zDM f b lo k i
def zAl (p:Nat):Nat:=63 * 2 ^ (6 * (Lib.ctz 64 p / 6))
theorem zGr (i:Nat):Nat.testBit 63 i=decide (i<6):=by
 rw[show (63:Nat)=2 ^ 6 - 1 from rfl,Nat.testBit_two_pow_sub_one]
theorem zHx (v i:Nat):(63 * 2 ^ (6 * v)).testBit i=decide (i / 6=v):=by
 rw[Nat.mul_comm,Nat.testBit_two_pow_mul,zGr];by_cases h:i / 6=v
 ·subst h;simp;omega
 ·simp[h];omega
def zT6:MVar:=⟨ByteArray.empty,0,0⟩
def zB8 (v:MVar):Nat:=(v.hi+1 - v.lo).toNat
def zAK (vs:List MVar) (v:Nat):MVar:=vs.getD v zT6
def ofN (vs:List MVar) (f:Nat→Int→Bool):Nat→Nat
 | 0=>0
 | v+1=>ofN vs f v ||| rowP (f v) (6 * v) (zAK vs v).lo (zB8 (zAK vs v))
def ofP (vs:List MVar) (f:Nat→Int→Bool):Nat:=ofN vs f vs.length
def zAD (vs:List MVar):Nat:=ofP vs fun _ _=>true
def zAH (vs:List MVar) (c:Cla):Nat:=ofP vs fun v x=>oneB c v x
def zAd (vs:List MVar):Prop:=vs.length≤6∧∀v:Nat,zB8 (zAK vs v)≤6
theorem zAc (vs:List MVar) (hv:zAd vs) (f:Nat→Int→Bool):∀(n i:Nat),(ofN vs f n).testBit i=(decide (i / 6<n)&&(decide (i % 6<zB8 (zAK vs (i / 6)))&&f (i / 6) ((zAK vs (i / 6)).lo+((i % 6:Nat):Int))))
 | 0,i=>by simp[ofN]
 | v+1,i=>by
   have h6:=hv.2 v;unfold ofN;rw[Nat.testBit_or,zAc vs hv f v i,zDM];by_cases hi:i / 6=v
   ·subst hi
    have e1:i - 6 * (i / 6)=i % 6:=by omega
    have e2:decide (i<6 * (i / 6)+zB8 (zAK vs (i / 6)))=decide (i % 6<zB8 (zAK vs (i / 6))):=by
     by_cases h:i % 6<zB8 (zAK vs (i / 6))
     ·simp[h];omega
     ·simp[h];omega
    rw[e1,e2,show decide (6 * (i / 6)≤i)=true by simp;omega]
    simp
   ·have e1:decide (i / 6<v+1)=decide (i / 6<v):=by
     by_cases h:i / 6<v
     ·simp[h];omega
     ·simp[h];omega
    have e2:(decide (6 * v≤i)&&(decide (i<6 * v+zB8 (zAK vs v))&&f v ((zAK vs v).lo+((i - 6 * v:Nat):Int))))=false:=by
     by_cases h:6 * v≤i
     ·have:¬(i<6 * v+zB8 (zAK vs v)):=by omega
      simp[this]
     ·simp[h]
    rw[e1,e2,Bool.or_false]
theorem zS6 (vs:List MVar) (hv:zAd vs) (f:Nat→Int→Bool) (n:Nat) (hn:n≤6):ofN vs f n<2 ^ 36:=by
 apply Nat.lt_pow_two_of_testBit;intro i hi;rw[zAc vs hv];have:¬(i / 6<n):=by omega
 simp[this]
theorem zGN (vs:List MVar) (hv:zAd vs) (f:Nat→Int→Bool):ofP vs f<2 ^ 36:=zS6 vs hv f _ hv.1
def zCO (n p:Nat):Bool:=(List.range n).any fun v=>p / 2 ^ (v * 6) &&& 63==0
def zEc (h p:Nat):Bool:=p &&& h==0
def zCy (vs:List MVar) (pts:List Nat) (h:Nat):Bool:=zCO vs.length (zAL (zAD vs) h) || !pts.any (zEc h)
def zAs (vs:List MVar) (c:MCon):List Int→List Int→Nat→List Nat
 | [],vals,a=>if zA0 c vals then [a] else []
 | v :: r,vals,a=>(zGq (zAK vs v.toNat).lo (zAK vs v.toNat).hi).flatMap fun x=>zAs vs c r (vals.set v.toNat x) (a ||| 2 ^ (6 * v.toNat+(x - (zAK vs v.toNat).lo).toNat))
def zAM (vs:List MVar) (c:MCon):List Nat:=zAs vs c (zBN c) (zBs vs.length) 0
def zAp:List Nat→Nat→Option Nat
 | [],left=>some left
 | c :: r,left =>
   if left &&& c=0 then none
   else if zAL (left &&& c) (zAl (left &&& c))=0 then zAp r (zAL left (zAL (zAl (left &&& c)) (left &&& c))) else zAp r left
def zBQ (cs:List Nat):Nat→Nat→Nat
 | 0,left=>left
 | f+1,left=>match zAp cs left with
   | none=>0
   | some l=>if l=left then left else zBQ cs f l
def zAf (vs:List MVar) (cs:List Nat) (p:Nat):Nat:=if zCO vs.length p then 0 else zBQ cs (p+1) p
def zDf (vs:List MVar) (cs:List Nat) (h:Nat):Bool:=zAf vs cs (zAL (zAD vs) h)==0
theorem zC1:∀(cs:List Nat) (left l:Nat),zAp cs left=some l→l≤left
 | [],left,l,h=>by simp[zAp] at h;omega
 | c :: r,left,l,h=>by
   unfold zAp at h
   split at h
   ·cases h
   ·split at h
    ·exact Nat.le_trans (zC1 r _ l h) (zHw _ _)
    ·exact zC1 r _ l h
theorem zJN (cs:List Nat):∀(f g left:Nat),left<f→left<g→zBQ cs f left=zBQ cs g left
 | 0,g,left,hf,hg=>by omega
 | f+1,0,left,hf,hg=>by omega
 | f+1,g+1,left,hf,hg=>by
   unfold zBQ;cases hr:zAp cs left with
   | none=>rfl
   | some l =>
     simp only
     split
     ·rfl
     ·have:=zC1 cs left l hr
      exact zJN cs f g l (by omega) (by omega)
theorem zJO (cs:List Nat) (left:Nat):zBQ cs (left+1) left=match zAp cs left with
 | none=>0
 | some l=>if l=left then left else zBQ cs (l+1) l:=by
 conv=>lhs;unfold zBQ
 cases hr:zAp cs left with
 | none=>rfl
 | some l =>
   simp only
   split
   ·rfl
   ·have:=zC1 cs left l hr
    exact zJN cs _ _ l (by omega) (by omega)
theorem zHy (cs:List Nat):∀(f left:Nat),zBQ cs f left≤left
 | 0,left=>Nat.le_refl _
 | f+1,left=>by
   unfold zBQ;cases hr:zAp cs left with
   | none=>simp
   | some l =>
     simp only
     split
     ·exact Nat.le_refl _
     ·exact Nat.le_trans (zHy cs f l) (zC1 cs left l hr)
theorem zDq (vs:List MVar) (cs:List Nat) (p:Nat):zAf vs cs p≤p:=by
 unfold zAf
 split
 ·exact Nat.zero_le _
 ·exact zHy cs _ _
def posV (vs:List MVar) (vals:List Int) (v:Nat):Nat:=6 * v+(zAZ vals (v:Int) - (zAK vs v).lo).toNat
def zD2 (vs:List MVar) (vals:List Int):Prop:=vals.length=vs.length∧∀v:Nat,v<vs.length→(zAK vs v).lo≤zAZ vals (v:Int)∧zAZ vals (v:Int)≤(zAK vs v).hi
theorem zRz (vs:List MVar) (vals:List Int) (h:hasS (zFp vs) vals=true):zD2 vs vals:=by
 obtain⟨h1,h2⟩:=(zNc _ _).1 h;have hl:vals.length=vs.length:=by rw[←h1];simp[zFp]
 refine⟨hl,fun v hv=>?_⟩
 have e1:(zFp vs)[v]? = some (zGq (zAK vs v).lo (zAK vs v).hi):=by simp[zFp,zAK,hv,List.getD_eq_getElem?_getD]
 have e2:vals[v]? = some (zAZ vals (v:Int)):=by
  unfold zAZ;rw[Int.toNat_natCast,List.getD_eq_getElem?_getD,List.getElem?_eq_getElem (by omega)];rfl
 have h3:=h2 v _ _ e1 e2;unfold zGq at h3;obtain⟨k,hk,he⟩:=List.mem_map.1 h3;have:=List.mem_range.1 hk;omega
theorem zD3 (vs:List MVar) (hv:zAd vs) (vals:List Int) (hm:zD2 vs vals) (v:Nat) (h:v<vs.length):posV vs vals v / 6=v∧posV vs vals v % 6<zB8 (zAK vs v)∧(zAK vs v).lo+((posV vs vals v % 6:Nat):Int)=zAZ vals (v:Int):=by
 have h1:=hm.2 v h;have h2:=hv.2 v;have h3:posV vs vals v=6 * v+(zAZ vals (v:Int) - (zAK vs v).lo).toNat:=rfl;unfold zB8 at h2 ⊢;omega
theorem zPw (vs:List MVar) (hv:zAd vs) (vals:List Int) (hm:zD2 vs vals) (f:Nat→Int→Bool) (v:Nat) (h:v<vs.length):(ofP vs f).testBit (posV vs vals v)=f v (zAZ vals (v:Int)):=by
 obtain⟨p1,p2,p3⟩:=zD3 vs hv vals hm v h;unfold ofP;rw[zAc vs hv,p1,p3];simp[h,p2]
theorem zPx (vs:List MVar) (c:Cla) (vals:List Int) (hc:∀l∈c,0≤l.var∧l.var<(vs.length:Int)):claB c vals=true↔∃v:Nat,v<vs.length∧oneB c v (zAZ vals (v:Int))=true:=by
 rw[zRl]
 constructor
 ·rintro ⟨l,hl,h⟩
  have:=hc l hl;refine⟨l.var.toNat,by omega,(zNd _ _ _).2 ⟨l,hl,by omega,?_⟩⟩
  unfold zAZ;rw[Int.toNat_natCast];exact h
 ·rintro ⟨v,_,h⟩
  obtain⟨l,hl,he,h⟩:=(zNd _ _ _).1 h;refine⟨l,hl,?_⟩;rw[he];exact h
def Hits (vs:List MVar) (vals:List Int) (p:Nat):Prop:=∃v:Nat,v<vs.length∧p.testBit (posV vs vals v)=true
theorem zEd (vs:List MVar) (hv:zAd vs) (vals:List Int) (hm:zD2 vs vals) (c:Cla) (hc:∀l∈c,0≤l.var∧l.var<(vs.length:Int)):Hits vs vals (zAH vs c)↔claB c vals=true:=by
 rw[zPx vs c vals hc]
 constructor
 ·rintro ⟨v,h,hb⟩
  unfold zAH at hb;rw[zPw vs hv vals hm _ v h] at hb;exact⟨v,h,hb⟩
 ·rintro ⟨v,h,hb⟩
  refine⟨v,h,?_⟩;unfold zAH;rw[zPw vs hv vals hm _ v h];exact hb
theorem zHe (n p:Nat) (h:∀v,v<n→∃k,k<6∧p.testBit (6 * v+k)=true):zCO n p=false:=by
 cases hl:zCO n p
 ·rfl
 ·unfold zCO at hl
  obtain⟨v,hv,hb⟩:=List.any_eq_true.1 hl;obtain⟨k,hk,hp⟩:=h v (List.mem_range.1 hv);have h0:p / 2 ^ (v * 6) &&& 63=0:=by simpa using hb
  have:=congrArg (fun q=>Nat.testBit q k) h0
  simp only[Nat.testBit_and,zGr,Nat.testBit_div_two_pow,Nat.zero_testBit] at this;rw[show k+v * 6=6 * v+k by omega,hp] at this
  simp[hk] at this
def zB5 (vs:List MVar) (vals:List Int) (p:Nat):Prop:=∀v:Nat,v<vs.length→p.testBit (posV vs vals v)=true
theorem zHz (vs:List MVar) (hv:zAd vs) (vals:List Int) (hm:zD2 vs vals) (p:Nat) (h:zB5 vs vals p):zCO vs.length p=false:=by
 refine zHe _ _ fun v hl=>⟨posV vs vals v % 6,by omega,?_⟩
 have:=(zD3 vs hv vals hm v hl).1;have h2:=h v hl;rw[show 6 * v+posV vs vals v % 6=posV vs vals v by omega]
 exact h2
theorem zF2 (vs:List MVar) (hv:zAd vs) (vals:List Int) (hm:zD2 vs vals) (h:Nat) (hh:¬Hits vs vals h):zB5 vs vals (zAL (zAD vs) h):=by
 intro v hl;rw[zAR];unfold zAD;rw[zPw vs hv vals hm _ v hl];cases hb:h.testBit (posV vs vals v)
 ·rfl
 ·exact absurd ⟨v,hl,hb⟩ hh
theorem zF3 (vs:List MVar) (c:MCon) (vals:List Int) (hm:zD2 vs vals):∀(r u:List Int) (a:Nat),(∀v∈r,0≤v∧v<(vs.length:Int))→u.length=vs.length →
 (∀u':List Int,u'.length=vs.length→(∀v∈r,zAZ u' v=zAZ vals v)→(∀w:Int,(∀v∈r,v.toNat≠w.toNat)→zAZ u' w=zAZ u w)→zA0 c u'=true) →
 ∃p∈zAs vs c r u a,∀i,p.testBit i=true→a.testBit i=true∨∃v:Nat,v<vs.length∧i=posV vs vals v
 | [],u,a,_,hu,hh=>by
   have h:=hh u hu (fun v hv=>by cases hv) (fun _ _=>rfl)
   refine⟨a,?_,fun i hi=>Or.inl hi⟩
   unfold zAs;rw[if_pos h];exact List.mem_singleton.2 rfl
 | v :: r,u,a,hr,hu,hh=>by
   obtain⟨v0,v1⟩:=hr v (List.mem_cons_self ..);have hvn:v.toNat<vs.length:=by omega
   have hmv:=hm.2 v.toNat hvn;rw[show ((v.toNat:Nat):Int)=v by omega] at hmv
   obtain⟨p,hp,hb⟩:=zF3 vs c vals hm r (u.set v.toNat (zAZ vals v)) (a ||| 2 ^ (6 * v.toNat+(zAZ vals v - (zAK vs v.toNat).lo).toNat)) (fun x hx=>hr x (List.mem_cons_of_mem _ hx)) (by simpa using hu) (by
    intro u' h1 h2 h3;refine hh u' h1 (fun x hx=>?_) (fun w hw=>?_)
    ·rcases List.mem_cons.1 hx with rfl | hx
     ·by_cases hq:∃y∈r,y.toNat=x.toNat
      ·obtain⟨y,hy,he⟩:=hq
       have:=hr y (List.mem_cons_of_mem _ hy);have:y=x:=by omega
       rw[←this];exact h2 y hy
      ·rw[h3 x (fun y hy he=>hq ⟨y,hy,he⟩),zFr _ _ _ (by omega)]
     ·exact h2 x hx
    ·rw[h3 w (fun y hy=>hw y (List.mem_cons_of_mem _ hy)),zHH _ _ _ _ (hw v (List.mem_cons_self ..))])
   refine⟨p,?_,fun i hi=>?_⟩
   ·unfold zAs
    exact List.mem_flatMap.2 ⟨zAZ vals v,zKL _ _ _ hmv.1 hmv.2,hp⟩
   ·rcases hb i hi with h | h
    ·rw[Nat.testBit_or,Bool.or_eq_true] at h
     rcases h with h | h
     ·exact Or.inl h
     ·rw[zCf] at h
      refine Or.inr ⟨v.toNat,hvn,?_⟩;unfold posV;rw[show ((v.toNat:Nat):Int)=v by omega]
      exact (of_decide_eq_true h).symm
    ·exact Or.inr h
theorem zPy (vs:List MVar) (hv:zAd vs) (c:MCon) (hsc:∀v∈zBN c,0≤v∧v<(vs.length:Int)) (hl:c.kind=10→c.lits≠[]) (h:Nat) (hs:zCy vs (zAM vs c) h=true)
 (vals:List Int) (hm:zD2 vs vals) (hh:zA0 c vals=true):Hits vs vals h:=by
 apply Classical.byContradiction;intro hn;have hw:=zF2 vs hv vals hm h hn;unfold zCy at hs;rw[zHz vs hv vals hm _ hw,Bool.false_or] at hs;obtain⟨p,hp,hb⟩:=zF3 vs c vals hm (zBN c) (zBs vs.length) 0 hsc (by simp[zBs]) (fun u' _ h2 _=>by rw[zF1 c u' vals h2 hl];exact hh)
 have:(zAM vs c).any (zEc h)=true:=by
  refine List.any_eq_true.2 ⟨p,hp,?_⟩;unfold zEc;have:p &&& h=0:=by
   apply Nat.eq_of_testBit_eq;intro i;rw[Nat.testBit_and,Nat.zero_testBit];cases hpi:p.testBit i
   ·rfl
   ·rcases hb i hpi with h0 | ⟨v,hvl,rfl⟩
    ·simp at h0
    ·cases hhi:h.testBit (posV vs vals v)
     ·rfl
     ·exact absurd ⟨v,hvl,hhi⟩ hn
  simp[this]
 rw[this] at hs;cases hs
theorem zPz (p i:Nat) (h:zAL p (zAl p)=0) (hi:p.testBit i=true):(zAl p).testBit i=true:=by
 have:=congrArg (fun q=>Nat.testBit q i) h
 simp only[zAR,hi,Nat.zero_testBit] at this;simpa using this
theorem zF4 (vs:List MVar) (hv:zAd vs) (vals:List Int) (hm:zD2 vs vals):∀(cs:List Nat) (left:Nat),(∀c∈cs,Hits vs vals c)→zB5 vs vals left→∃l,zAp cs left=some l∧zB5 vs vals l
 | [],left,_,hw=>⟨left,rfl,hw⟩
 | c :: r,left,hc,hw=>by
   obtain⟨v,hvl,hb⟩:=hc c (List.mem_cons_self ..);have ho:(left &&& c).testBit (posV vs vals v)=true:=by rw[Nat.testBit_and,hw v hvl,hb];rfl
   have hne:left &&& c≠0:=fun h=>by rw[h] at ho;simp at ho
   unfold zAp;rw[if_neg hne]
   split
   ·rename_i hf
    refine zF4 vs hv vals hm r _ (fun d hd=>hc d (List.mem_cons_of_mem _ hd)) fun u hu=>?_
    rw[zAR,hw u hu,zAR];by_cases huv:u=v
    ·subst huv;rw[ho];simp
    ·have hfv:=zPz _ _ hf ho
     have:(zAl (left &&& c)).testBit (posV vs vals u)=false:=by
      unfold zAl at hfv ⊢;rw[zHx] at hfv ⊢;rw[(zD3 vs hv vals hm v hvl).1] at hfv;rw[(zD3 vs hv vals hm u hu).1];have:v=Lib.ctz 64 (left &&& c) / 6:=by simpa using hfv
      simp;omega
     rw[this];simp
   ·exact zF4 vs hv vals hm r _ (fun d hd=>hc d (List.mem_cons_of_mem _ hd)) hw
theorem zHI (vs:List MVar) (hv:zAd vs) (vals:List Int) (hm:zD2 vs vals) (cs:List Nat) (hc:∀c∈cs,Hits vs vals c):∀(f left:Nat),zB5 vs vals left→zB5 vs vals (zBQ cs f left)
 | 0,left,hw=>hw
 | f+1,left,hw=>by
   obtain⟨l,hl,hw2⟩:=zF4 vs hv vals hm cs left hc hw;unfold zBQ;rw[hl];simp only
   split
   ·exact hw
   ·exact zHI vs hv vals hm cs hc f l hw2
theorem zH0 (vs:List MVar) (hv:zAd vs) (vals:List Int) (hm:zD2 vs vals) (cs:List Nat) (hc:∀c∈cs,Hits vs vals c) (p:Nat) (hw:zB5 vs vals p):zB5 vs vals (zAf vs cs p):=by
 unfold zAf;rw[zHz vs hv vals hm _ hw];exact zHI vs hv vals hm cs hc _ _ hw
theorem zGO (vs:List MVar) (h1:1≤vs.length) (vals:List Int) (p:Nat) (hw:zB5 vs vals p):p≠0:=by
 intro h0;have:=hw 0 (by omega)
 rw[h0,Nat.zero_testBit] at this;cases this
theorem zOX (vs:List MVar) (hv:zAd vs) (h1:1≤vs.length) (cs:List Nat) (h:Nat) (hs:zDf vs cs h=true) (vals:List Int) (hm:zD2 vs vals) (hc:∀c∈cs,Hits vs vals c):Hits vs vals h:=by
 apply Classical.byContradiction;intro hn;have hw:=zF2 vs hv vals hm h hn;unfold zDf at hs;exact zGO vs h1 vals _ (zH0 vs hv vals hm cs hc _ hw) (by simpa using hs)
def zDg (m:Mod) (ahead:List Nat) (s:MStep):Bool :=
 if s.kind=1 then zCy m.vars (zAM m.vars (m.cons.getD s.con.toNat zPm)) (zAH m.vars s.cla)
 else if s.kind=2∧s.con=0 then zDf m.vars ahead (zAH m.vars s.cla) else false
def zBZ (m:Mod):List Nat→List MStep→Bool
 | _,[]=>true
 | ahead,s :: r=>zDg m ahead s&&zBZ m (ahead++[zAH m.vars s.cla]) r
theorem zAg (m:Mod) (hm:zAF m=0):zAd m.vars:=by
 refine⟨(zA9 m hm).2.1,fun v=>?_⟩
 by_cases h:v<m.vars.length
 ·have e:m.vars[v]? = some (zAK m.vars v):=by unfold zAK;rw[List.getD_eq_getElem?_getD,List.getElem?_eq_getElem h];rfl
  have:=zKv m hm v _ e;unfold zB8;omega
 ·unfold zAK
  rw[List.getD_eq_getElem?_getD,List.getElem?_eq_none (by omega)]
  decide
theorem zEq (m:Mod) (hm:zAF m=0):1≤m.vars.length:=by
 have:=(zA9 m hm).1;omega
theorem zJP (m:Mod) (hm:zAF m=0) (vals:List Int) (hv:zD2 m.vars vals) (hc:∀c∈m.cons,zA0 c vals=true):∀(r:List MStep) (ahead:List Nat),(∀s∈r,s.kind=1→0≤s.con∧s.con<(m.cons.length:Int)) →
 (∀c∈ahead,Hits m.vars vals c)→zBZ m ahead r=true→∀s∈r,Hits m.vars vals (zAH m.vars s.cla)
 | [],_,_,_,_=>fun s hs=>by cases hs
 | s :: r,ahead,hk,ha,h=>by
   unfold zBZ at h;rw[Bool.and_eq_true] at h;have hs:Hits m.vars vals (zAH m.vars s.cla):=by
    have h1:=h.1;unfold zDg at h1
    split at h1
    ·rename_i hk1
     obtain⟨c0,c1⟩:=hk s (List.mem_cons_self ..) hk1;have hj:s.con.toNat<m.cons.length:=by omega
     have e:m.cons[s.con.toNat]? = some (m.cons.getD s.con.toNat zPm):=by rw[List.getD_eq_getElem?_getD,List.getElem?_eq_getElem hj];rfl
     obtain⟨k1,k2⟩:=zFd m hm _ _ e;exact zPy m.vars (zAg m hm) _ k1 k2 _ h1 vals hv (hc _ (List.mem_of_getElem? e))
    ·split at h1
     ·exact zOX m.vars (zAg m hm) (zEq m hm) ahead _ h1 vals hv ha
     ·cases h1
   intro t ht;rcases List.mem_cons.1 ht with rfl | ht
   ·exact hs
   ·refine zJP m hm vals hv hc r _ (fun x hx=>hk x (List.mem_cons_of_mem _ hx)) (fun c hcm=>?_) h.2 t ht
    rcases List.mem_append.1 hcm with hx | hx
    ·exact ha c hx
    ·rw[List.mem_singleton.1 hx];exact hs
theorem zNi (m:Mod) (c:Cla) (h:claE m.vars c=0):∀l∈c,0≤l.var∧l.var<(m.vars.length:Int):=by
 have h1:=zRy m c h;intro l hl;have:=h1 l hl;rw[zHv] at this;exact this
theorem zOY (m:Mod) (given:List Cla) (r:List MStep) (vals:List Int) (ha:allA m vals=(true,0)) (hg:∀d∈given,claE m.vars d=0) (hr:∀s∈r,claE m.vars s.cla=0)
 (hk:∀s∈r,s.kind=1→0≤s.con∧s.con<(m.cons.length:Int)) (hh:∀d∈given,claB d vals=true) (hs:zBZ m (given.map (zAH m.vars)) r=true) (s:MStep) (hl:s∈r) (he:s.cla=[]):False:=by
 obtain⟨h0,h1,h2⟩:=zOW m vals ha;have hm:=zRz m.vars vals h1;have hv:=zAg m h0;have:=zJP m h0 vals hm h2 r _ hk (fun c hc=>by
  obtain⟨d,hd,rfl⟩:=List.mem_map.1 hc;exact (zEd m.vars hv vals hm d (zNi m d (hg d hd))).2 (hh d hd)) hs s hl
 rw[zEd m.vars hv vals hm _ (zNi m _ (hr s hl)),he] at this;cases this
def zEQ (p:Nat):List Nat:=(List.range 36).filter fun i=>p.testBit i
theorem zR0 (x:Nat) (h0:x≠0) (h:x<2 ^ 64):∃m,x=2 ^ (Lib.ctz 64 x+1) * m+2 ^ Lib.ctz 64 x∧Lib.ctz 64 x<64:=by
 obtain⟨m,h1,h2⟩:=Lib.ctzFrom_spec 64 x (by omega) h
 have e:Lib.ctz 64 x=Lib.ctzFrom 64 x:=by unfold Lib.ctz;rw[if_neg h0]
 rw[e];refine⟨m,?_,h2⟩
 conv=>lhs;rw[h1]
 rw[Nat.pow_succ,Nat.mul_add,Nat.mul_one,Nat.mul_assoc]
theorem zEJ (x:Nat) (h0:x≠0) (h:x<2 ^ 64) (i:Nat):(i<Lib.ctz 64 x→x.testBit i=false)∧(i=Lib.ctz 64 x→x.testBit i=true)∧(x &&& (x - 1)).testBit i=(x.testBit i&&!decide (i=Lib.ctz 64 x)):=by
 obtain⟨m,h1,_⟩:=zR0 x h0 h;generalize hk:Lib.ctz 64 x=k at h1;have hp:0<2 ^ k:=Nat.pow_pos (by omega)
 have hlt:2 ^ k<2 ^ (k+1):=by rw[Nat.pow_succ];omega
 have h2:x - 1=2 ^ (k+1) * m+(2 ^ k - 1):=by omega
 have t1:x.testBit i=if i<k+1 then decide (k=i) else m.testBit (i - (k+1)):=by
  rw[h1,Nat.testBit_two_pow_mul_add _ hlt]
  split
  ·exact zCf k i
  ·rfl
 have t2:(x - 1).testBit i=if i<k+1 then decide (i<k) else m.testBit (i - (k+1)):=by
  rw[h2,Nat.testBit_two_pow_mul_add _ (by omega)]
  split
  ·exact Nat.testBit_two_pow_sub_one ..
  ·rfl
 refine⟨fun hi=>?_,fun hi=>?_,?_⟩
 ·rw[t1,if_pos (by omega)];simp;omega
 ·rw[t1,if_pos (by omega)];simp;omega
 ·rw[Nat.testBit_and,t1,t2]
  by_cases hi:i<k+1
  ·rw[if_pos hi,if_pos hi]
   by_cases he:k=i
   ·subst he;simp
   ·simp[he]
  ·rw[if_neg hi,if_neg hi,show decide (i=k)=false by simp;omega];simp
theorem zHf (x:Nat) (h0:x≠0) (h:x<2 ^ 64):x &&& (x - 1)<x:=by
 have h1:=zEJ x h0 h;have hle:x &&& (x - 1)≤x:=Nat.and_le_left;have:x &&& (x - 1)≠x:=fun he=>by
  have h2:=(h1 (Lib.ctz 64 x)).2.2;rw[he,(h1 (Lib.ctz 64 x)).2.1 rfl] at h2;simp at h2
 omega
theorem zJQ:zEQ 0=[]:=by simp[zEQ]
theorem zFe (x:Nat) (h0:x≠0) (h:x<2 ^ 36):zEQ x=Lib.ctz 64 x :: zEQ (x &&& (x - 1))∧Lib.ctz 64 x<36:=by
 have h64:x<2 ^ 64:=Nat.lt_of_lt_of_le h (Nat.pow_le_pow_right (by omega) (by omega))
 have hb:=zEJ x h0 h64;have hk:Lib.ctz 64 x<36:=by
  apply Classical.byContradiction;intro hn;have h1:=(hb (Lib.ctz 64 x)).2.1 rfl;rw[Nat.testBit_lt_two_pow (Nat.lt_of_lt_of_le h (Nat.pow_le_pow_right (by omega) (by omega)))] at h1
  cases h1
 refine⟨?_,hk⟩;generalize hc:Lib.ctz 64 x=k at *;unfold zEQ;have hs:List.range 36=List.range k++(k :: (List.range (36 - (k+1))).map (·+(k+1))):=by
  have h1:List.range 36=List.range ((k+1)+(36 - (k+1))):=by congr 1;omega
  rw[h1,List.range_add,List.range_succ,List.append_assoc]
  congr 1
  simp only[List.singleton_append,List.cons.injEq,true_and];apply List.map_congr_left;intro a _;omega
 rw[hs,List.filter_append,List.filter_append,List.filter_cons,List.filter_cons];have e1:(List.range k).filter (fun i=>x.testBit i)=[]:=List.filter_eq_nil_iff.2 fun a ha=>by
  rw[(hb a).1 (List.mem_range.1 ha)];simp
 have e2:(List.range k).filter (fun i=>(x &&& (x - 1)).testBit i)=[]:=List.filter_eq_nil_iff.2 fun a ha=>by
  rw[(hb a).2.2,(hb a).1 (List.mem_range.1 ha)];simp
 have e3:x.testBit k=true:=(hb k).2.1 rfl;have e4:(x &&& (x - 1)).testBit k=false:=by rw[(hb k).2.2];simp
 rw[e1,e2,e3,e4,if_pos rfl,if_neg (by simp),List.nil_append,List.nil_append]
 congr 1
 apply List.filter_congr;intro a ha;obtain⟨b,_,rfl⟩:=List.mem_map.1 ha;rw[(hb _).2.2,show decide (b+(k+1)=k)=false by simp;omega];simp
def zBj (vs:List MVar) (p:Nat):Cla:=(zEQ p).map fun i=>⟨((i / 6:Nat):Int),3,(zAK vs (i / 6)).lo+((i % 6:Nat):Int)⟩
theorem zEr (vs:List MVar) (p:Nat):(zBj vs p).length≤36:=by
 unfold zBj zEQ;rw[List.length_map];exact Nat.le_trans (List.length_filter_le _ _) (by simp)
def zCu (says:Nat→Bool):Nat→Nat→Nat→Nat
 | 0,gone,_=>gone
 | f+1,gone,rest=>if rest=0 then gone else zCu says f (if says (zAL gone (2 ^ Lib.ctz 64 rest)) then zAL gone (2 ^ Lib.ctz 64 rest) else gone) (rest &&& (rest - 1))
theorem zJR (says:Nat→Bool):∀(f gone rest:Nat),says gone=true→says (zCu says f gone rest)=true
 | 0,gone,rest,h=>h
 | f+1,gone,rest,h=>by
   unfold zCu
   split
   ·exact h
   ·apply zJR
    split
    ·assumption
    ·exact h
theorem zH1 (says:Nat→Bool):∀(f gone rest i:Nat),(zCu says f gone rest).testBit i=true→gone.testBit i=true
 | 0,gone,rest,i,h=>h
 | f+1,gone,rest,i,h=>by
   unfold zCu at h
   split at h
   ·exact h
   ·have:=zH1 says f _ _ i h
    split at this
    ·rw[zAR,Bool.and_eq_true] at this
     exact this.1
    ·exact this
theorem zJS (says:Nat→Bool):∀(f g gone rest:Nat),rest<f→rest<g→rest<2 ^ 64→zCu says f gone rest=zCu says g gone rest
 | 0,g,gone,rest,hf,hg,_=>by omega
 | f+1,0,gone,rest,hf,hg,_=>by omega
 | f+1,g+1,gone,rest,hf,hg,h=>by
   unfold zCu
   split
   ·rfl
   ·rename_i h0
    have:=zHf rest h0 h;exact zJS says f g _ _ (by omega) (by omega) (by omega)
theorem zOZ (says:Nat→Bool) (gone rest:Nat) (h0:rest≠0) (h:rest<2 ^ 64):zCu says (rest+1) gone rest=zCu says ((rest &&& (rest - 1))+1) (if says (zAL gone (2 ^ Lib.ctz 64 rest)) then zAL gone (2 ^ Lib.ctz 64 rest) else gone) (rest &&& (rest - 1)):=by
 conv=>lhs;unfold zCu
 rw[if_neg h0];have:=zHf rest h0 h;exact zJS says _ _ _ _ (by omega) (by omega) (by omega)
theorem zEK (lo hi x:Int):x∈zGq lo hi↔lo≤x∧x≤hi:=by
 refine⟨fun h=>?_,fun h=>zKL lo hi x h.1 h.2⟩
 unfold zGq at h;obtain⟨k,hk,rfl⟩:=List.mem_map.1 h;have:=List.mem_range.1 hk;omega
theorem zEs (vs:List MVar) (c:MCon):∀(r u:List Int) (a p:Nat),(∀v∈r,0≤v∧v<(vs.length:Int))→u.length=vs.length→p∈zAs vs c r u a →
 ∃u':List Int,u'.length=vs.length∧zA0 c u'=true∧(∀v∈r,(zAK vs v.toNat).lo≤zAZ u' v∧zAZ u' v≤(zAK vs v.toNat).hi)∧(∀w:Int,(∀v∈r,v.toNat≠w.toNat)→zAZ u' w=zAZ u w) ∧
  (∀i,a.testBit i=true→p.testBit i=true)∧∀v∈r,p.testBit (6 * v.toNat+(zAZ u' v - (zAK vs v.toNat).lo).toNat)=true
 | [],u,a,p,_,hu,hp=>by
   unfold zAs at hp
   split at hp
   ·rename_i hh
    rw[List.mem_singleton.1 hp];exact⟨u,hu,hh,(fun v hv=>by cases hv),(fun _ _=>rfl),(fun _ h=>h),(fun v hv=>by cases hv)⟩
   ·cases hp
 | v :: r,u,a,p,hr,hu,hp=>by
   unfold zAs at hp;obtain⟨x,hx,hp⟩:=List.mem_flatMap.1 hp;obtain⟨h1,h2⟩:=(zEK _ _ _).1 hx;obtain⟨v0,v1⟩:=hr v (List.mem_cons_self ..);obtain⟨u',l1,l2,l3,l4,l5,l6⟩:=zEs vs c r _ _ p (fun y hy=>hr y (List.mem_cons_of_mem _ hy)) (by simpa using hu) hp
   have key:(∀y∈r,y.toNat≠v.toNat)→zAZ u' v=x:=fun hq=>by rw[l4 v hq,zFr _ _ _ (by omega)]
   have same:∀y∈r,y.toNat=v.toNat→y=v:=fun y hy he=>by
    have:=hr y (List.mem_cons_of_mem _ hy);omega
   refine⟨u',l1,l2,fun y hy=>?_,fun w hw=>?_,fun i hi=>l5 i (by rw[Nat.testBit_or,hi];rfl),fun y hy=>?_⟩
   ·rcases List.mem_cons.1 hy with rfl | hy
    ·by_cases hq:∃z∈r,z.toNat=y.toNat
     ·obtain⟨z,hz,he⟩:=hq
      rw[←same z hz he];exact l3 z hz
     ·rw[key fun z hz he=>hq ⟨z,hz,he⟩];exact⟨h1,h2⟩
    ·exact l3 y hy
   ·rw[l4 w (fun y hy=>hw y (List.mem_cons_of_mem _ hy)),zHH _ _ _ _ (hw v (List.mem_cons_self ..))]
   ·rcases List.mem_cons.1 hy with rfl | hy
    ·by_cases hq:∃z∈r,z.toNat=y.toNat
     ·obtain⟨z,hz,he⟩:=hq
      rw[←same z hz he];exact l6 z hz
     ·rw[key fun z hz he=>hq ⟨z,hz,he⟩]
      refine l5 _ ?_;rw[Nat.testBit_or,zCf];simp
    ·exact l6 y hy
theorem zKM (p i:Nat) (hi:i<36):i∈zEQ p↔p.testBit i=true:=by
 unfold zEQ;rw[List.mem_filter,List.mem_range];exact⟨fun h=>h.2,fun h=>⟨hi,h⟩⟩
theorem zJT (vs:List MVar) (hv:zAd vs) (hb:∀v:Nat,v<vs.length→-50≤(zAK vs v).lo∧(zAK vs v).hi≤50) (p:Nat) (hp:∀i,p.testBit i=true→(zAD vs).testBit i=true):∀l∈zBj vs p,litE vs l=0:=by
 intro l hl;obtain⟨i,hi,rfl⟩:=List.mem_map.1 hl;unfold zEQ at hi;have h1:=hp i (List.mem_filter.1 hi).2;unfold zAD ofP at h1;rw[zAc vs hv] at h1;simp only[Bool.and_eq_true,decide_eq_true_eq] at h1;have h2:=hb (i / 6) h1.1;have h3:=h1.2.1;unfold zB8 at h3;unfold litE;simp only;rw[if_neg (by omega),if_neg (by omega),if_neg (by omega)]
theorem zCg (m:Mod) (hm:zAF m=0) (v:Nat) (h:v<m.vars.length):-50≤(zAK m.vars v).lo∧(zAK m.vars v).hi≤50:=by
 have e:m.vars[v]? = some (zAK m.vars v):=by unfold zAK;rw[List.getD_eq_getElem?_getD,List.getElem?_eq_getElem h];rfl
 have:=zKv m hm v _ e;omega
theorem zDN (l:List Int) (h:∀e∈l,e=0):zAQ l=0:=by
 induction l with
 | nil=>rfl
 | cons a r ih =>
   unfold zAQ;rw[if_pos (h a (List.mem_cons_self ..))];exact ih fun e he=>h e (List.mem_cons_of_mem _ he)
end Go.Proofs.YtdjbejlbmaiocagGreatDoor
