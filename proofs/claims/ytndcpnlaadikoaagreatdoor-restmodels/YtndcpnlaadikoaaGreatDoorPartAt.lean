/- What the proof leans on, part 20. -/
import Derived.Test.YtndcpnlaadikoaaGreatDoorPartAp
namespace Go.Proofs.YtndcpnlaadikoaaGreatDoor
def zCB (p:Nat):List Nat→Nat×Nat×Bool→Nat×Nat×Bool
 | [],s=>s
 | q :: r,s=>zCB p r (if zAL q p=0 then (q,s.2.1 ||| q,true) else s)
def clrN:Nat→Nat→Nat→Nat
 | 0,_,p=>p
 | f+1,s,p=>if s=0 then p else clrN f (zAL s (zAh s)) (zAL p (zAh s))
def zBT (pts:List Nat) (p:Nat):Nat :=
 if (zCB p pts (0,0,false)).2.2 then clrN ((zCB p pts (0,0,false)).1+1) (zCB p pts (0,0,false)).1 p ||| (zCB p pts (0,0,false)).2.1 else 0
theorem zBb (q p:Nat):zAL q p=0↔∀i,q.testBit i=true→p.testBit i=true:=by
 constructor
 ·intro h i hi
  have:=congrArg (fun z=>Nat.testBit z i) h
  simp only[zAO,hi,Nat.zero_testBit] at this;simpa using this
 ·intro h
  apply Nat.eq_of_testBit_eq;intro i;rw[zAO,Nat.zero_testBit];cases hq:q.testBit i
  ·rfl
  ·rw[h i hq];rfl
theorem zDM (p:Nat):∀(pts:List Nat) (s:Nat×Nat×Bool),(zCB p pts s).2.2=true↔s.2.2=true∨∃q∈pts,zAL q p=0
 | [],s=>by simp[zCB]
 | q :: r,s=>by
   unfold zCB;rw[zDM p r];by_cases h:zAL q p=0
   ·rw[if_pos h]
    simp[h]
   ·rw[if_neg h]
    simp[h]
theorem zDr (p:Nat) (i:Nat):∀(pts:List Nat) (s:Nat×Nat×Bool),(zCB p pts s).2.1.testBit i=true↔s.2.1.testBit i=true∨∃q∈pts,zAL q p=0∧q.testBit i=true
 | [],s=>by simp[zCB]
 | q :: r,s=>by
   unfold zCB;rw[zDr p i r];by_cases h:zAL q p=0
   ·rw[if_pos h]
    simp only[Nat.testBit_or,Bool.or_eq_true,List.mem_cons,exists_eq_or_imp,h,true_and,or_assoc]
   ·rw[if_neg h]
    simp[h]
theorem zCf (p:Nat):∀(pts:List Nat) (s:Nat×Nat×Bool),(zCB p pts s).1=s.1∨(zCB p pts s).1∈pts∧zAL (zCB p pts s).1 p=0
 | [],s=>Or.inl rfl
 | q :: r,s=>by
   unfold zCB;rcases zCf p r (if zAL q p=0 then (q,s.2.1 ||| q,true) else s) with h | h
   ·by_cases hq:zAL q p=0
    ·right
     rw[h,if_pos hq];exact⟨List.mem_cons_self ..,hq⟩
    ·left
     rw[h,if_neg hq]
   ·exact Or.inr ⟨List.mem_cons_of_mem _ h.1,h.2⟩
theorem zBa (s i:Nat):(zAh s).testBit i=decide (i / 6=Lib.ctz 64 s / 6):=zHX _ _
theorem zDB (s:Nat) (h0:s≠0) (h:s<2 ^ 36):zAL s (zAh s)<s:=by
 have hb:=(zD6 s h0 (by omega) (Lib.ctz 64 s)).2.1 rfl
 have h1:=zHW s (zAh s);have h2:zAL s (zAh s)≠s:=fun he=>by
  have:=congrArg (fun z=>Nat.testBit z (Lib.ctz 64 s)) he
  simp only[zAO,zBa,hb] at this;simp at this
 omega
theorem zM0:∀(f g s p:Nat),s<f→s<g→s<2 ^ 36→clrN f s p=clrN g s p
 | 0,g,s,p,hf,hg,_=>by omega
 | f+1,0,s,p,hf,hg,_=>by omega
 | f+1,g+1,s,p,hf,hg,h=>by
   unfold clrN
   split
   ·rfl
   ·rename_i h0
    have:=zDB s h0 h;exact zM0 f g _ _ (by omega) (by omega) (by omega)
theorem zQ6 (s p:Nat) (h0:s≠0) (h:s<2 ^ 36):clrN (s+1) s p=clrN (zAL s (zAh s)+1) (zAL s (zAh s)) (zAL p (zAh s)):=by
 conv=>lhs;unfold clrN
 rw[if_neg h0];have:=zDB s h0 h;exact zM0 _ _ _ _ (by omega) (by omega) (by omega)
theorem zHi (i:Nat):∀(f s p:Nat),s<f→s<2 ^ 36→((clrN f s p).testBit i=true↔p.testBit i=true∧∀j,s.testBit j=true→j / 6≠i / 6)
 | 0,s,p,hf,_=>by omega
 | f+1,s,p,hf,h=>by
   unfold clrN;by_cases h0:s=0
   ·rw[if_pos h0,h0]
    simp
   ·rw[if_neg h0]
    have hlt:=zDB s h0 h;have hb:=(zD6 s h0 (by omega) (Lib.ctz 64 s)).2.1 rfl
    rw[zHi i f _ _ (by omega) (by omega)]
    simp only[zAO,zBa,Bool.and_eq_true,Bool.not_eq_true',decide_eq_false_iff_not]
    constructor
    ·rintro ⟨⟨h1,h2⟩,h3⟩
     refine⟨h1,fun j hj he=>?_⟩
     by_cases hk:j / 6=Lib.ctz 64 s / 6
     ·omega
     ·exact h3 j ⟨hj,hk⟩ he
    ·rintro ⟨h1,h2⟩
     refine⟨⟨h1,fun he=>h2 _ hb he.symm⟩,fun j hj he=>h2 j hj.1 he⟩
theorem zD9 (pts:List Nat) (p i:Nat) (hp:p<2 ^ 36) (h:(zBT pts p).testBit i=true):p.testBit i=true:=by
 unfold zBT at h
 split at h
 ·rw[Nat.testBit_or,Bool.or_eq_true] at h
  rcases h with h | h
  ·have hs:(zCB p pts (0,0,false)).1<2 ^ 36:=by
    rcases zCf p pts (0,0,false) with h1 | h1
    ·rw[h1];decide
    ·exact Nat.lt_of_le_of_lt (Nat.le_of_testBit ((zBb _ _).1 h1.2)) hp
   exact ((zHi i _ _ p (Nat.lt_succ_self _) hs).1 h).1
  ·rcases (zDr p i pts _).1 h with h1 | ⟨q,_,h1,h2⟩
   ·simp at h1
   ·exact (zBb _ _).1 h1 i h2
 ·simp at h
theorem zFM (pts:List Nat) (p:Nat) (hp:p<2 ^ 36):zBT pts p≤p:=Nat.le_of_testBit fun i h=>zD9 pts p i hp h
theorem zFn (pts:List Nat) (p:Nat) (hp:p<2 ^ 36):(zCB p pts (0,0,false)).1<2 ^ 36:=by
 rcases zCf p pts (0,0,false) with h1 | h1
 ·rw[h1];decide
 ·exact Nat.lt_of_le_of_lt (Nat.le_of_testBit ((zBb _ _).1 h1.2)) hp
theorem zHj (i:Nat):∀(cs:List Nat) (left l:Nat),zAl cs left=some l→l.testBit i=true→left.testBit i=true
 | [],left,l,h,hi=>by simp[zAl] at h;rw[h];exact hi
 | c :: r,left,l,h,hi=>by
   unfold zAl at h
   split at h
   ·cases h
   ·split at h
    ·have:=zHj i r _ l h hi
     rw[zAO,Bool.and_eq_true] at this;exact this.1
    ·exact zHj i r _ l h hi
theorem zIv (cs:List Nat) (i:Nat):∀(f left:Nat),(zBH cs f left).testBit i=true→left.testBit i=true
 | 0,left,h=>h
 | f+1,left,h=>by
   unfold zBH at h;cases hr:zAl cs left with
   | none=>rw[hr] at h;simp at h
   | some l =>
     rw[hr] at h;simp only at h
     split at h
     ·exact h
     ·exact zHj i cs left l hr (zIv cs i f l h)
theorem zCs (vs:List MVar) (cs:List Nat) (p i:Nat) (h:(zAa vs cs p).testBit i=true):p.testBit i=true:=by
 unfold zAa at h
 split at h
 ·simp at h
 ·exact zIv cs i _ _ h
theorem zEb (vs:List MVar) (hv:zAc vs) (c:MCon):∀(r u:List Int) (a p:Nat),p∈zAm vs c r u a→∀i,p.testBit i=true→a.testBit i=true∨∃v∈r,i / 6=v.toNat
 | [],u,a,p,hp=>by
   intro i hi;unfold zAm at hp
   split at hp
   ·rw[List.mem_singleton.1 hp] at hi;exact Or.inl hi
   ·cases hp
 | v :: r,u,a,p,hp=>by
   intro i hi;unfold zAm at hp;obtain⟨x,hx,hp⟩:=List.mem_flatMap.1 hp;rcases zEb vs hv c r _ _ p hp i hi with h | ⟨w,hw,he⟩
   ·rw[Nat.testBit_or,Bool.or_eq_true,zCA] at h
    rcases h with h | h
    ·exact Or.inl h
    ·right
     refine⟨v,List.mem_cons_self ..,?_⟩;have h1:6 * v.toNat+(x - (zAJ vs v.toNat).lo).toNat=i:=by simpa using h
     obtain⟨b1,b2⟩:=(zDb _ _ _).1 hx;have h6:=hv.2 v.toNat;unfold zBj at h6;omega
   ·exact Or.inr ⟨w,List.mem_cons_of_mem _ hw,he⟩
theorem zQ7 (vs:List MVar) (hv:zAc vs) (c:MCon) (hsc:∀v∈zAk c,0≤v∧v<(vs.length:Int)) (hl:c.kind=10→c.lits≠[]) (vals:List Int) (hm:zD5 vs vals) (hh:zAR c vals=true) :
 ∃p∈zAK vs c,(∀i,p.testBit i=true→∃v:Nat,v<vs.length∧i=posV vs vals v)∧∀v∈zAk c,p.testBit (posV vs vals v.toNat)=true:=by
 obtain⟨p,hp,hb⟩:=zHZ vs c vals hm (zAk c) (zBS vs.length) 0 hsc (by simp[zBS]) (fun u' _ h2 _=>by rw[zFH c u' vals h2 hl];exact hh)
 have hb':∀i,p.testBit i=true→∃v:Nat,v<vs.length∧i=posV vs vals v:=fun i hi=>by
  rcases hb i hi with h | h
  ·simp at h
  ·exact h
 refine⟨p,hp,hb',fun v hvs=>?_⟩
 obtain⟨u,l1,l2,l3,l4,_,l6⟩:=zD8 vs c _ _ _ p hsc (by simp[zBS]) hp
 have h1:=l6 v hvs;obtain⟨v',hv',he⟩:=hb' _ h1;have h6:=hv.2 v.toNat;have h3:=l3 v hvs;have h7:=(zDJ vs hv vals hm v' hv').1;have h8:=hsc v hvs;unfold zBj at h6;have:v'=v.toNat:=by omega
 rw[he,this] at h1;exact h1
theorem zNv (vs:List MVar) (hv:zAc vs) (c:MCon) (hsc:∀v∈zAk c,0≤v∧v<(vs.length:Int)) (hl:c.kind=10→c.lits≠[]) (vals:List Int) (hm:zD5 vs vals) (hh:zAR c vals=true) (p:Nat) (hp36:p<2 ^ 36) (hw:zBe vs vals p) :
 zBe vs vals (zBT (zAK vs c) p):=by
 obtain⟨q,hq,h1,h2⟩:=zQ7 vs hv c hsc hl vals hm hh;have hz:zAL q p=0:=(zBb _ _).2 fun i hi=>by
  obtain⟨v,hvl,rfl⟩:=h1 i hi;exact hw v hvl
 have hf:=(zDM p (zAK vs c) (0,0,false)).2 (Or.inr ⟨q,hq,hz⟩);intro v hvl;unfold zBT;rw[if_pos hf,Nat.testBit_or,Bool.or_eq_true];by_cases hs:(v:Int)∈zAk c
 ·right
  refine (zDr p _ _ _).2 (Or.inr ⟨q,hq,hz,?_⟩);have:=h2 _ hs;rwa [Int.toNat_natCast] at this
 ·left
  refine (zHi _ _ _ _ (Nat.lt_succ_self _) (zFn _ _ hp36)).2 ⟨hw v hvl,fun j hj he=>?_⟩
  rw[(zDJ vs hv vals hm v hvl).1] at he;rcases zCf p (zAK vs c) (0,0,false) with h3 | h3
  ·rw[h3] at hj;simp at hj
  ·rcases zEb vs hv c _ _ _ _ h3.1 j hj with h4 | ⟨w,hw2,h4⟩
   ·simp at h4
   ·have:=hsc w hw2
    refine hs ?_;rw[show (v:Int)=w by omega]
    exact hw2
def zA2:List (List Nat)→Nat→Nat
 | [],l=>l
 | pts :: r,l=>if l=0 then l else zA2 r (zBT pts l)
def zDT:Nat→List (List Nat)→Nat→List (Nat×Nat×Nat)
 | _,[],_=>[]
 | k,pts :: r,l=>if l=0 then [] else (if zBT pts l=l then [] else [(k,l,zBT pts l)])++zDT (k+1) r (zBT pts l)
def zBN (vs:List MVar) (cs:List Nat) (pt:List (List Nat)):Nat→Nat→Nat
 | 0,l=>l
 | f+1,l=>if zA2 pt (zAa vs cs l)=l then l else zBN vs cs pt f (zA2 pt (zAa vs cs l))
def zBn (vs:List MVar) (cs:List Nat) (pt:List (List Nat)):Nat→Nat→List (Nat×Nat×Nat)
 | 0,_=>[]
 | f+1,l=>zDT 0 pt (zAa vs cs l)++if zA2 pt (zAa vs cs l)=l then [] else zBn vs cs pt f (zA2 pt (zAa vs cs l))
def zBU (vs:List MVar) (cs:List Nat) (pt:List (List Nat)) (h:Nat):Nat :=
 if zAL (zAE vs) h=0 then 0 else zBN vs cs pt (zAL (zAE vs) h+1) (zAL (zAE vs) h)
def zHk (vs:List MVar) (cs:List Nat) (pt:List (List Nat)) (h:Nat):List (Nat×Nat×Nat) :=
 if zAL (zAE vs) h=0 then [] else zBn vs cs pt (zAL (zAE vs) h+1) (zAL (zAE vs) h)
theorem zFo:∀(pt:List (List Nat)) (l:Nat),l<2 ^ 36→zA2 pt l≤l
 | [],l,_=>Nat.le_refl _
 | pts :: r,l,h=>by
   unfold zA2
   split
   ·exact Nat.le_refl _
   ·have h1:=zFM pts l h
    exact Nat.le_trans (zFo r _ (by omega)) h1
theorem zEc (vs:List MVar) (cs:List Nat) (pt:List (List Nat)) (l:Nat) (h:l<2 ^ 36):zA2 pt (zAa vs cs l)≤l:=by
 have h1:=zDA vs cs l;exact Nat.le_trans (zFo pt _ (by omega)) h1
theorem zHl (vs:List MVar) (cs:List Nat) (pt:List (List Nat)):∀(f g l:Nat),l<f→l<g→l<2 ^ 36→zBN vs cs pt f l=zBN vs cs pt g l∧zBn vs cs pt f l=zBn vs cs pt g l
 | 0,g,l,hf,hg,_=>by omega
 | f+1,0,l,hf,hg,_=>by omega
 | f+1,g+1,l,hf,hg,h=>by
   unfold zBN zBn
   split
   ·exact⟨rfl,rfl⟩
   ·have:=zEc vs cs pt l h
    obtain⟨h1,h2⟩:=zHl vs cs pt f g (zA2 pt (zAa vs cs l)) (by omega) (by omega) (by omega)
    exact⟨h1,by rw[h2]⟩
theorem zLi (vs:List MVar) (cs:List Nat) (pt:List (List Nat)) (l:Nat) (h:l<2 ^ 36) :
 zBN vs cs pt (l+1) l=(if zA2 pt (zAa vs cs l)=l then l else zBN vs cs pt (zA2 pt (zAa vs cs l)+1) (zA2 pt (zAa vs cs l))) ∧
 zBn vs cs pt (l+1) l=zDT 0 pt (zAa vs cs l)++if zA2 pt (zAa vs cs l)=l then [] else zBn vs cs pt (zA2 pt (zAa vs cs l)+1) (zA2 pt (zAa vs cs l)):=by
 by_cases he:zA2 pt (zAa vs cs l)=l
 ·constructor
  ·conv=>lhs;unfold zBN
   rw[if_pos he,if_pos he]
  ·conv=>lhs;unfold zBn
   rw[if_pos he,if_pos he]
 ·have:=zEc vs cs pt l h
  obtain⟨h1,h2⟩:=zHl vs cs pt l (zA2 pt (zAa vs cs l)+1) (zA2 pt (zAa vs cs l)) (by omega) (by omega) (by omega)
  constructor
  ·conv=>lhs;unfold zBN
   rw[if_neg he,if_neg he,h1]
  ·conv=>lhs;unfold zBn
   rw[if_neg he,if_neg he,h2]
theorem zHm (vs:List MVar) (hv:zAc vs) (h1:1≤vs.length) (vals:List Int) (hm:zD5 vs vals):∀(pt:List (List Nat)) (l:Nat),l<2 ^ 36→(∀pts∈pt,∀p,p<2 ^ 36→zBe vs vals p→zBe vs vals (zBT pts p))→zBe vs vals l→zBe vs vals (zA2 pt l)
 | [],l,_,_,hw=>hw
 | pts :: r,l,h,hk,hw=>by
   unfold zA2;rw[if_neg (zHa vs h1 vals l hw)];have:=zFM pts l h;exact zHm vs hv h1 vals hm r _ (by omega) (fun q hq=>hk q (List.mem_cons_of_mem _ hq)) (hk pts (List.mem_cons_self ..) l h hw)
theorem zFp (vs:List MVar) (hv:zAc vs) (h1:1≤vs.length) (vals:List Int) (hm:zD5 vs vals) (cs:List Nat) (hc:∀c∈cs,Hits vs vals c) (pt:List (List Nat)) (hk:∀pts∈pt,∀p,p<2 ^ 36→zBe vs vals p→zBe vs vals (zBT pts p)) :
 ∀(f l:Nat),l<2 ^ 36→zBe vs vals l→zBe vs vals (zBN vs cs pt f l)
 | 0,l,_,hw=>hw
 | f+1,l,h,hw=>by
   unfold zBN
   split
   ·exact hw
   ·have h2:=zDA vs cs l
    have h3:=zEc vs cs pt l h;exact zFp vs hv h1 vals hm cs hc pt hk f _ (by omega) (zHm vs hv h1 vals hm pt _ (by omega) hk (zLc vs hv vals hm cs hc l hw))
theorem zBh (vs:List MVar) (hv:zAc vs):zAE vs<2 ^ 36:=zFi vs hv _
theorem zLj (vs:List MVar) (hv:zAc vs) (h1:1≤vs.length) (vals:List Int) (hm:zD5 vs vals) (cs:List Nat) (hc:∀c∈cs,Hits vs vals c) (pt:List (List Nat)) (hk:∀pts∈pt,∀p,p<2 ^ 36→zBe vs vals p→zBe vs vals (zBT pts p))
 (h:Nat) (hz:zBU vs cs pt h=0):Hits vs vals h:=by
 apply Classical.byContradiction;intro hn;have hw:=zLb vs hv vals hm h hn;unfold zBU at hz;rw[if_neg (zHa vs h1 vals _ hw)] at hz;exact zHa vs h1 vals _ (zFp vs hv h1 vals hm cs hc pt hk _ _ (zB9 36 _ _ (zBh vs hv)) hw) hz
theorem zFN (f g:Nat→Bool) (h:∀i,g i=true→f i=true):∀l:List Nat,(l.filter f).length=(l.filter g).length+(l.filter fun i=>f i&&!g i).length
 | []=>rfl
 | a :: r=>by
   have ih:=zFN f g h r;rw[List.filter_cons,List.filter_cons,List.filter_cons];cases hf:f a <;> cases hg:g a
   ·simpa using ih
   ·rw[h a hg] at hf;cases hf
   ·simp;omega
   ·simp;omega
def zFO (p:Nat):Nat:=(zDg p).length
theorem zLk (p:Nat):zFO p≤36:=by
 unfold zFO zDg;exact Nat.le_trans (List.length_filter_le _ _) (by simp)
theorem zM1 (a b:Nat) (h:∀i,a.testBit i=true→b.testBit i=true):zFO a≤zFO b:=by
 unfold zFO zDg;rw[zFN (fun i=>b.testBit i) (fun i=>a.testBit i) h]
 omega
theorem zKZ (a b:Nat) (hb:b<2 ^ 36) (h:∀i,a.testBit i=true→b.testBit i=true) (hne:a≠b):zFO a+1≤zFO b:=by
 unfold zFO zDg;rw[zFN (fun i=>b.testBit i) (fun i=>a.testBit i) h]
 have:((List.range 36).filter fun i=>b.testBit i&&!a.testBit i)≠[]:=fun hn=>by
  refine hne (Nat.eq_of_testBit_eq fun i=>?_)
  by_cases hi:i<36
  ·have:=List.filter_eq_nil_iff.1 hn i (List.mem_range.2 hi)
   cases ha:a.testBit i <;> cases hbb:b.testBit i
   ·rfl
   ·rw[ha,hbb] at this;simp at this
   ·rw[h i ha] at hbb;cases hbb
   ·rfl
  ·have h1:b.testBit i=false:=Nat.testBit_lt_two_pow (Nat.lt_of_lt_of_le hb (Nat.pow_le_pow_right (by omega) (by omega)))
   cases ha:a.testBit i
   ·exact h1.symm
   ·rw[h i ha] at h1;cases h1
 have:=List.length_pos_iff.2 this;omega
def zAx {α:Type} (enough:List α→Bool):Nat→List α→List α
 | 0,out=>out
 | k+1,out=>zAx enough k (if enough (out.eraseIdx k) then out.eraseIdx k else out)
theorem zEd {α:Type} (enough:List α→Bool):∀(k:Nat) (out:List α),enough out=true→enough (zAx enough k out)=true
 | 0,out,h=>h
 | k+1,out,h=>by
   unfold zAx;apply zEd
   split
   ·assumption
   ·exact h
theorem zFq {α:Type} (enough:List α→Bool) (x:α):∀(k:Nat) (out:List α),x∈zAx enough k out→x∈out
 | 0,out,h=>h
 | k+1,out,h=>by
   unfold zAx at h;have:=zFq enough x k _ h
   split at this
   ·exact List.mem_of_mem_eraseIdx this
   ·exact this
theorem zHn {α:Type} (enough:List α→Bool):∀(k:Nat) (out:List α),(zAx enough k out).length≤out.length
 | 0,out=>Nat.le_refl _
 | k+1,out=>by
   unfold zAx;refine Nat.le_trans (zHn enough k _) ?_
   split
   ·exact List.length_eraseIdx_le ..
   ·exact Nat.le_refl _
def whyP (vs:List MVar) (pts:List Nat) (any:Cla) (gone:Nat):Cla:=any++zBY vs (zCF (fun g=>zBv vs pts (zAH vs any ||| g)) (gone+1) gone gone)
def zCR (vs:List MVar) (con:Nat) (c:Cla):MStep×Nat:=(⟨1,(con:Int),c⟩,zAH vs c)
def zA3 (vs:List MVar) (pt:List (List Nat)) (t:Nat×Nat×Nat):List (MStep×Nat) :=
 if t.2.2=0 then [zCR vs t.1 (whyP vs (pt.getD t.1 []) [] (zAL (zAE vs) t.2.1))]
 else (zBY vs (zAL t.2.1 t.2.2)).map fun l=>zCR vs t.1 (whyP vs (pt.getD t.1 []) [⟨l.var,4,l.n⟩] (zAL (zAE vs) t.2.1))
def zAu (vs:List MVar) (cs:List Nat) (pt:List (List Nat)) (h:Nat):List (MStep×Nat):=(zHk vs cs pt h).flatMap (zA3 vs pt)
def zBw (vs:List MVar) (cs:List Nat) (h:Nat) (some:List (MStep×Nat)):Bool:=zCE vs (cs++some.map (·.2)) h
def zEe (vs:List MVar) (cs:List Nat) (pt:List (List Nat)) (c:Cla):List MStep :=
 (zAx (zBw vs cs (zAH vs c)) (zAu vs cs pt (zAH vs c)).length (zAu vs cs pt (zAH vs c))).map (·.1)++[⟨2,0,c⟩]
def zBB (vs:List MVar) (cs:List Nat) (pt:List (List Nat)) (c:Cla):Bool:=zBU vs cs pt (zAH vs c)==0
def zBz (vs:List MVar) (cs:List Nat) (pt:List (List Nat)) (c:Cla):Cla:=zAx (zBB vs cs pt) c.length c
def ptsM (m:Mod):List (List Nat):=m.cons.map (zAK m.vars)
theorem zNw (m:Mod) (hm:zAG m=0) (vals:List Int) (hv:zD5 m.vars vals) (hc:∀c∈m.cons,zAR c vals=true):∀pts∈ptsM m,∀p,p<2 ^ 36→zBe m.vars vals p→zBe m.vars vals (zBT pts p):=by
 intro pts hp p h36 hw;obtain⟨c,hcm,rfl⟩:=List.mem_map.1 hp;obtain⟨j,hj,he⟩:=List.getElem_of_mem hcm;obtain⟨k1,k2⟩:=zC9 m hm j c (by rw[List.getElem?_eq_getElem hj,he])
 exact zNv m.vars (zAy m hm) c k1 k2 vals hv (hc c hcm) p h36 hw
theorem zJj (m:Mod) (hm:zAG m=0) (vals:List Int) (hv:zD5 m.vars vals) (hc:∀c∈m.cons,zAR c vals=true) (cs:List Nat) (hh:∀c∈cs,Hits m.vars vals c) (c:Cla) (hz:zBB m.vars cs (ptsM m) c=true):Hits m.vars vals (zAH m.vars c):=by
 unfold zBB at hz;exact zLj m.vars (zAy m hm) (zJe m hm) vals hv cs hh (ptsM m) (zNw m hm vals hv hc) _ (by simpa using hz)
def zBi:Cla→Sto→Sto
 | [],s=>s
 | l :: r,s=>zBi r (s.set l.var.toNat (s.getD l.var.toNat []++[l.n]))
def zAb (vs:List MVar) (p:Nat):Sto:=zBi (zBY vs p) (List.replicate vs.length [])
def fewF (s:Sto):Nat→List (List Int)→Int→Int
 | _,[],b=>b
 | v,x :: r,b=>fewF s (v+1) r (if 1<x.length∧(b<0∨x.length<(s.getD b.toNat []).length) then (v:Int) else b)
def zBV (s:Sto):Int:=fewF s 0 s (-1)
def zPQ (x l:MLit):Bool:=decide (x.var=l.var)&&(decide (x.op=l.op)&&decide (x.n=l.n))
def idxL (l:MLit):Cla→Nat
 | []=>0
 | x :: r=>if zPQ l x then 0 else idxL l r+1
structure Sk where
 cs:List Nat
 fuel:Nat
 proof:List MStep
 path:Cla
def zAZ (vs:List MVar):List MStep→List MStep→List MStep
 | [],p=>p
 | t :: r,p=>zAZ vs r (if (p.map fun x=>zAH vs x.cla).contains (zAH vs t.cla) then p else p++[t])
def zKa (c:Cla):MLit:=c.getD (c.length - 1) zTS
def zBL (vs:List MVar) (pt:List (List Nat)) (s:Sk):Int×Sk :=
 if s.fuel=0 then (3,s)
 else if 6000<(zAZ vs (zEe vs s.cs pt (zBz vs s.cs pt s.path)) s.proof).length then (3,⟨s.cs,s.fuel - 1,zAZ vs (zEe vs s.cs pt (zBz vs s.cs pt s.path)) s.proof,s.path⟩)
 else if (zBz vs s.cs pt s.path).length=0 then (2,⟨s.cs,s.fuel - 1,zAZ vs (zEe vs s.cs pt (zBz vs s.cs pt s.path)) s.proof,s.path⟩)
 else (0,⟨s.cs++[zAH vs (zBz vs s.cs pt s.path)],s.fuel - 1,zAZ vs (zEe vs s.cs pt (zBz vs s.cs pt s.path)) s.proof,s.path.take (idxL (zKa (zBz vs s.cs pt s.path)) s.path)⟩)
def zAo (vs:List MVar) (pt:List (List Nat)) (s:Sk):Nat:=zBU vs s.cs pt (zAH vs s.path)
def zPR (st:Sto):MLit:=⟨zBV st,4,(st.getD (zBV st).toNat []).getD 0 0⟩
def zEf (st:Sto) (s:Sk):Sk:=⟨s.cs,s.fuel,s.proof,s.path++[zPR st]⟩
def zIL (vs:List MVar) (pt:List (List Nat)):Nat→Sk→Int×List Int×Sk
 | 0,s=>(0,[],s)
 | n+1,s =>
   if zAo vs pt s=0 then
    (if (zBL vs pt s).1=0 then zIL vs pt n (zBL vs pt s).2 else ((zBL vs pt s).1,[],(zBL vs pt s).2))
   else if zBV (zAb vs (zAo vs pt s))<0 then (1,(zAb vs (zAo vs pt s)).flatten,s)
   else zIL vs pt n (zEf (zAb vs (zAo vs pt s)) s)
def zLl (vs:List MVar) (c:Cla):Nat:=zFO (zAL (zAE vs) (zAH vs c))
def zCY (vs:List MVar) (s:Sk):Nat:=s.fuel * 40+zLl vs s.path
def zAt (vs:List MVar) (pt:List (List Nat)) (s:Sk):Int×List Int×Sk:=zIL vs pt (zCY vs s+1) s
theorem zIw:∀(c:Cla) (s:Sto),(zBi c s).length=s.length
 | [],s=>rfl
 | l :: r,s=>by unfold zBi;rw[zIw r];simp
theorem zEv (vs:List MVar) (p:Nat):(zAb vs p).length=vs.length:=by unfold zAb;rw[zIw];simp
theorem zIx (v:Nat):∀(c:Cla) (s:Sto),v<s.length→(zBi c s).getD v []=s.getD v []++(c.filter fun l=>l.var.toNat==v).map (·.n)
 | [],s,_=>by simp[zBi]
 | l :: r,s,h=>by
   unfold zBi;rw[zIx v r _ (by simpa using h)]
   by_cases he:l.var.toNat=v
   ·subst he
    rw[List.filter_cons];simp[List.getD_eq_getElem?_getD,h]
   ·rw[List.filter_cons]
    simp[List.getD_eq_getElem?_getD,he]
theorem zIy (vs:List MVar) (p v:Nat) (h:v<vs.length):(zAb vs p).getD v []=((zDg p).filter fun i=>i / 6==v).map fun i=>(zAJ vs v).lo+((i % 6:Nat):Int):=by
 unfold zAb;rw[zIx v _ _ (by simpa using h)]
 unfold zBY;rw[List.filter_map,List.map_map];have:(List.replicate vs.length ([]:List Int)).getD v []=[]:=by simp[List.getD_eq_getElem?_getD,h]
 rw[this,List.nil_append];have e:((fun l:MLit=>l.var.toNat==v) ∘ fun i:Nat=>(⟨((i / 6:Nat):Int),3,(zAJ vs (i / 6)).lo+((i % 6:Nat):Int)⟩:MLit))=fun i:Nat=>i / 6==v:=by
  funext i
  show ((((i / 6:Nat):Int)).toNat==v)=_;rw[Int.toNat_natCast]
 rw[e];apply List.map_congr_left;intro i hi;have:=(List.mem_filter.1 hi).2;have:i / 6=v:=by simpa using this
 simp[this]
theorem zLm (p:Nat):(zDg p).Nodup:=by
 unfold zDg;exact List.Pairwise.filter _ List.nodup_range
theorem zGj (vs:List MVar) (p v:Nat) (h:v<vs.length):((zAb vs p).getD v []).Nodup:=by
 rw[zIy vs p v h];have hn:=List.Pairwise.filter (fun i=>i / 6==v) (zLm p)
 refine List.Pairwise.map _ (fun a b hab=>?_) (List.Pairwise.imp_of_mem ?_ hn (S:=fun a b:Nat=>a≠b∧a / 6=v∧b / 6=v))
 ·intro he
  have:a % 6=b % 6:=by omega
  have:=hab;omega
 ·intro a b ha hb hab
  exact⟨hab,by simpa using (List.mem_filter.1 ha).2,by simpa using (List.mem_filter.1 hb).2⟩
theorem zEw (vs:List MVar) (p v:Nat) (h:v<vs.length) (x:Int):x∈(zAb vs p).getD v []↔∃i,i<36∧p.testBit i=true∧i / 6=v∧x=(zAJ vs v).lo+((i % 6:Nat):Int):=by
 rw[zIy vs p v h,List.mem_map]
 constructor
 ·rintro ⟨i,hi,rfl⟩
  obtain⟨h1,h2⟩:=List.mem_filter.1 hi;unfold zDg at h1;obtain⟨h3,h4⟩:=List.mem_filter.1 h1;exact⟨i,List.mem_range.1 h3,h4,by simpa using h2,rfl⟩
 ·rintro ⟨i,h1,h2,h3,rfl⟩
  exact⟨i,List.mem_filter.2 ⟨(zJg p i h1).2 h2,by simpa using h3⟩,rfl⟩
theorem zFr (s:Sto):∀(r:List (List Int)) (v:Nat) (b:Int),v+r.length=s.length→(∀k,r[k]? = s[v+k]?)→(b<0∨(0≤b∧b<(s.length:Int)∧1<(s.getD b.toNat []).length)) →
 (fewF s v r b<0→b<0∧∀x∈r,x.length≤1)∧(¬fewF s v r b<0→fewF s v r b<(s.length:Int)∧1<(s.getD (fewF s v r b).toNat []).length)
 | [],v,b,hl,hr,hb=>by
   unfold fewF;refine⟨fun h=>⟨h,fun x hx=>by cases hx⟩,fun h=>?_⟩
   rcases hb with hb | hb
   ·exact absurd hb h
   ·exact⟨hb.2.1,hb.2.2⟩
 | x :: r,v,b,hl,hr,hb=>by
   unfold fewF;have hx:s[v]? = some x:=by have:=hr 0;simpa using this.symm
   have hg:s.getD v []=x:=by rw[List.getD_eq_getElem?_getD,hx];rfl
   have hl':v+1+r.length=s.length:=by rw[List.length_cons] at hl;omega
   have hr':∀k,r[k]? = s[v+1+k]? := fun k=>by
    have:=hr (k+1);rw[List.getElem?_cons_succ] at this;rw[this];congr 1;omega
   by_cases hc:1<x.length∧(b<0∨x.length<(s.getD b.toNat []).length)
   ·rw[if_pos hc]
    obtain⟨h1,h2⟩:=zFr s r (v+1) (v:Int) hl' hr' (Or.inr ⟨by omega,by rw[List.length_cons] at hl;omega,by rw[Int.toNat_natCast,hg];exact hc.1⟩)
    refine⟨fun h=>?_,h2⟩
    have:=(h1 h).1;omega
   ·rw[if_neg hc]
    obtain⟨h1,h2⟩:=zFr s r (v+1) b hl' hr' hb;refine⟨fun h=>?_,h2⟩
    obtain⟨h3,h4⟩:=h1 h;refine⟨h3,fun y hy=>?_⟩
    rcases List.mem_cons.1 hy with rfl | hy
    ·apply Classical.byContradiction
     intro hn;exact hc ⟨by omega,Or.inl h3⟩
    ·exact h4 y hy
theorem zLn (s:Sto) (h:zBV s<0):∀x∈s,x.length≤1 :=
 ((zFr s s 0 (-1) (by omega) (fun k=>by rw[Nat.zero_add]) (Or.inl (by omega))).1 h).2
theorem zFP (s:Sto) (h:¬zBV s<0):zBV s<(s.length:Int)∧1<(s.getD (zBV s).toNat []).length :=
 (zFr s s 0 (-1) (by omega) (fun k=>by rw[Nat.zero_add]) (Or.inl (by omega))).2 h
theorem zEg (vs:List MVar) (hv:zAc vs) (a b:Cla) (i:Nat):(zAH vs (a++b)).testBit i=((zAH vs a).testBit i || (zAH vs b).testBit i):=by
 unfold zAH ofP;rw[zAd vs hv,zAd vs hv,zAd vs hv];unfold oneB;rw[List.any_append];cases decide (i / 6<vs.length) <;> cases decide (i % 6<zBj (zAJ vs (i / 6))) <;> simp
theorem zHo (vs:List MVar) (cs:List Nat) (pt:List (List Nat)) (i:Nat):∀(f l:Nat),l<2 ^ 36→(zBN vs cs pt f l).testBit i=true→l.testBit i=true
 | 0,l,_,h=>h
 | f+1,l,hl,h=>by
   unfold zBN at h
   split at h
   ·exact h
   ·have h1:=zEc vs cs pt l hl
    have h2:=zHo vs cs pt i f _ (by omega) h
    have h3:=zDA vs cs l;refine zCs vs cs l i ?_;have:∀(pt:List (List Nat)) (q:Nat),q<2 ^ 36→(zA2 pt q).testBit i=true→q.testBit i=true:=by
     intro pt
     induction pt with
     | nil=>intro q _ h;exact h
     | cons pts r ih =>
       intro q hq h;unfold zA2 at h
       split at h
       ·exact h
       ·have:=zFM pts q hq
        exact zD9 pts q i hq (ih _ (by omega) h)
    exact this pt _ (by omega) h2
theorem zDs (vs:List MVar) (hv:zAc vs) (cs:List Nat) (pt:List (List Nat)) (h i:Nat) (hi:(zBU vs cs pt h).testBit i=true):(zAE vs).testBit i=true∧h.testBit i=false:=by
 unfold zBU at hi
 split at hi
 ·simp at hi
 ·have:=zHo vs cs pt i _ _ (zB9 36 _ _ (zBh vs hv)) hi
  rw[zAO,Bool.and_eq_true,Bool.not_eq_true'] at this;exact this
theorem zPS (vs:List MVar) (hv:zAc vs) (cs:List Nat) (pt:List (List Nat)) (h:Nat):zBU vs cs pt h<2 ^ 36:=by
 refine Nat.lt_of_le_of_lt (Nat.le_of_testBit fun i hi=>(zDs vs hv cs pt h i hi).1) (zBh vs hv)
theorem zM2 (vs:List MVar) (hv:zAc vs) (pt:List (List Nat)) (s:Sk) (h:¬zBV (zAb vs (zAo vs pt s))<0):zLl vs (zEf (zAb vs (zAo vs pt s)) s).path+1≤zLl vs s.path:=by
 obtain⟨h1,h2⟩:=zFP _ h;obtain⟨f,hf⟩:∃f,zBV (zAb vs (zAo vs pt s))=f:=⟨_,rfl⟩;unfold zEf zPR;rw[hf] at h h1 h2 ⊢;rw[zEv] at h1;obtain⟨v,rfl⟩:∃v:Nat,f=(v:Int):=⟨f.toNat,by omega⟩
 rw[Int.toNat_natCast] at h2 ⊢;have hvl:v<vs.length:=by omega
 have hnd:=zGj vs (zAo vs pt s) v hvl;obtain⟨x,y,t,ht⟩:∃x y t,(zAb vs (zAo vs pt s)).getD v []=x :: y :: t:=by
  match hr:(zAb vs (zAo vs pt s)).getD v [] with
  | []=>rw[hr] at h2;simp at h2
  | [x]=>rw[hr] at h2;simp at h2
  | x :: y :: t=>exact⟨x,y,t,rfl⟩
 have hy:y∈(zAb vs (zAo vs pt s)).getD v []:=by rw[ht];simp
 have hxy:x≠y:=by rw[ht] at hnd;simp at hnd;exact hnd.1.1
 obtain⟨i,hi36,hib,hiv,rfl⟩:=(zEw vs _ v hvl y).1 hy;rw[ht];obtain⟨hw,hn⟩:=zDs vs hv _ _ _ i hib;unfold zLl;refine zKZ _ _ (zB9 36 _ _ (zBh vs hv)) (fun k hk=>?_) (fun he=>?_)
 ·rw[zAO,Bool.and_eq_true,Bool.not_eq_true',zEg vs hv,Bool.or_eq_false_iff] at hk
  rw[zAO,hk.1,hk.2.1];rfl
 ·have h3:=congrArg (fun z=>Nat.testBit z i) he
  simp only[zAO,zEg vs hv,hw,hn] at h3;have h4:(zAH vs [(⟨(v:Int),4,x⟩:MLit)]).testBit i=true:=by
   unfold zAE ofP at hw;rw[zAd vs hv] at hw;simp only[Bool.and_eq_true,decide_eq_true_eq] at hw;unfold zAH ofP;rw[zAd vs hv];simp only[Bool.and_eq_true,decide_eq_true_eq];refine⟨hw.1,hw.2.1,?_⟩;unfold oneB;simp only[List.any_cons,List.any_nil,Bool.or_false,Bool.and_eq_true,decide_eq_true_eq,hiv,true_and];unfold litV;simpa using fun h=>hxy h.symm
  simp[h4] at h3
theorem zKb (vs:List MVar) (pt:List (List Nat)) (s:Sk) (h:(zBL vs pt s).1=0):(zBL vs pt s).2.fuel+1=s.fuel:=by
 unfold zBL at h ⊢
 split
 ·rename_i hc;rw[if_pos hc] at h;cases h
 ·rename_i h0
  rw[if_neg h0] at h
  split
  ·rename_i hc;rw[if_pos hc] at h;cases h
  ·rename_i h1
   rw[if_neg h1] at h
   split
   ·rename_i hc;rw[if_pos hc] at h;cases h
   ·show s.fuel - 1+1=s.fuel
    omega
theorem zDt (vs:List MVar) (pt:List (List Nat)) (s:Sk) (h:(zBL vs pt s).1=0):zCY vs (zBL vs pt s).2<zCY vs s:=by
 have h1:=zKb vs pt s h;have h2:zLl vs (zBL vs pt s).2.path≤36:=zLk _;unfold zCY;omega
theorem zEx (vs:List MVar) (hv:zAc vs) (pt:List (List Nat)) (s:Sk) (h:¬zBV (zAb vs (zAo vs pt s))<0):zCY vs (zEf (zAb vs (zAo vs pt s)) s)<zCY vs s:=by
 have:=zM2 vs hv pt s h;unfold zCY;show s.fuel * 40+_<_;omega
theorem zFs (vs:List MVar) (hv:zAc vs) (pt:List (List Nat)):∀(f g:Nat) (s:Sk),zCY vs s<f→zCY vs s<g→zIL vs pt f s=zIL vs pt g s
 | 0,g,s,hf,hg=>by omega
 | f+1,0,s,hf,hg=>by omega
 | f+1,g+1,s,hf,hg=>by
   unfold zIL
   split
   ·split
    ·rename_i h
     have:=zDt vs pt s h;exact zFs vs hv pt f g _ (by omega) (by omega)
    ·rfl
   ·split
    ·rfl
    ·rename_i h
     have:=zEx vs hv pt s h;exact zFs vs hv pt f g _ (by omega) (by omega)
theorem zFt (vs:List MVar) (hv:zAc vs) (pt:List (List Nat)) (s:Sk):zAt vs pt s =
 if zAo vs pt s=0 then (if (zBL vs pt s).1=0 then zAt vs pt (zBL vs pt s).2 else ((zBL vs pt s).1,[],(zBL vs pt s).2))
 else if zBV (zAb vs (zAo vs pt s))<0 then (1,(zAb vs (zAo vs pt s)).flatten,s)
 else zAt vs pt (zEf (zAb vs (zAo vs pt s)) s):=by
 conv=>lhs;unfold zAt zIL
 split
 ·split
  ·rename_i h
   have:=zDt vs pt s h;exact zFs vs hv pt _ _ _ (by omega) (by omega)
  ·rfl
 ·split
  ·rfl
  ·rename_i h
   have:=zEx vs hv pt s h;exact zFs vs hv pt _ _ _ (by omega) (by omega)
def zHp (vs:List MVar) (c:Cla):Prop:=∀k,k≤c.length→k+zLl vs (c.take k)≤36
theorem zQ8 (vs:List MVar):zHp vs []:=fun k hk=>by
 have:k=0:=by simpa using hk
 subst this;have:=zLk (zAL (zAE vs) (zAH vs ([].take 0)));unfold zLl;omega
theorem zM3 (vs:List MVar) (c:Cla) (h:zHp vs c):c.length≤36:=by
 have:=h c.length (Nat.le_refl _);omega
theorem zPT (vs:List MVar) (c:Cla) (h:zHp vs c) (n:Nat):zHp vs (c.take n):=fun k hk=>by
 rw[List.length_take] at hk;rw[List.take_take,Nat.min_eq_left (by omega)]
 exact h k (by omega)
theorem zQ9 (vs:List MVar) (hv:zAc vs) (pt:List (List Nat)) (s:Sk) (hp:zHp vs s.path) (h:¬zBV (zAb vs (zAo vs pt s))<0):zHp vs (zEf (zAb vs (zAo vs pt s)) s).path:=fun k hk=>by
 have h1:=zM2 vs hv pt s h;unfold zEf at *;simp only at *;rw[List.length_append,List.length_singleton] at hk;by_cases he:k≤s.path.length
 ·rw[List.take_append_of_le_length he]
  exact hp k he
 ·have:k=s.path.length+1:=by omega
  subst this;rw[List.take_of_length_le (by simp)]
  have:=hp s.path.length (Nat.le_refl _);rw[List.take_length] at this;omega
theorem zLo (x l:MLit):zPQ x l=true↔x=l:=by
 unfold zPQ;rw[Bool.and_eq_true,Bool.and_eq_true,decide_eq_true_eq,decide_eq_true_eq,decide_eq_true_eq]
 constructor
 ·rintro ⟨h1,h2,h3⟩;cases x;cases l;simp_all
 ·rintro rfl;exact⟨rfl,rfl,rfl⟩
theorem zPU (l:MLit):∀c:Cla,l∈c→idxL l c<c.length
 | [],h=>by cases h
 | x :: r,h=>by
   unfold idxL
   split
   ·simp
   ·rename_i hn
    rcases List.mem_cons.1 h with rfl | h
    ·exact absurd ((zLo l l).2 rfl) hn
    ·have:=zPU l r h
     rw[List.length_cons];omega
theorem zIz (vs:List MVar) (cs:List Nat) (pt:List (List Nat)) (c:Cla) (x:MLit) (h:x∈zBz vs cs pt c):x∈c:=zFq _ x _ c h
theorem zI0 (vs:List MVar) (cs:List Nat) (pt:List (List Nat)) (c:Cla):(zBz vs cs pt c).length≤c.length:=zHn _ _ c
theorem zKc (c:Cla) (h:c.length≠0):zKa c∈c:=by
 unfold zKa;rw[List.getD_eq_getElem?_getD,List.getElem?_eq_getElem (by omega)]
 exact List.getElem_mem _
end Go.Proofs.YtndcpnlaadikoaaGreatDoor
