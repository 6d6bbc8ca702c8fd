/- What the proof leans on, part 10. -/
import Derived.Test.YtdjbejlbmaiocagGreatDoorPartAi
namespace Go.Proofs.YtdjbejlbmaiocagGreatDoor
def zCQ (p:Nat):List Nat→Nat×Nat×Bool→Nat×Nat×Bool
 | [],s=>s
 | q :: r,s=>zCQ p r (if zAK q p=0 then (q,s.2.1 ||| q,true) else s)
def clrN:Nat→Nat→Nat→Nat
 | 0,_,p=>p
 | f+1,s,p=>if s=0 then p else clrN f (zAK s (zAf s)) (zAK p (zAf s))
def zBV (pts:List Nat) (p:Nat):Nat :=
 if (zCQ p pts (0,0,false)).2.2 then clrN ((zCQ p pts (0,0,false)).1+1) (zCQ p pts (0,0,false)).1 p ||| (zCQ p pts (0,0,false)).2.1 else 0
theorem zBd (q p:Nat):zAK q p=0↔∀i,q.testBit i=true→p.testBit i=true:=by
 constructor
 ·intro h i hi
  have:=congrArg (fun z=>Nat.testBit z i) h
  simp only[zAP,hi,Nat.zero_testBit] at this
  simpa using this
 ·intro h
  apply Nat.eq_of_testBit_eq
  intro i
  rw[zAP,Nat.zero_testBit]
  cases hq:q.testBit i
  ·rfl
  ·rw[h i hq];rfl
theorem zDX (p:Nat):∀(pts:List Nat) (s:Nat×Nat×Bool),(zCQ p pts s).2.2=true↔s.2.2=true∨∃q∈pts,zAK q p=0
 | [],s=>by simp[zCQ]
 | q :: r,s=>by
   unfold zCQ
   rw[zDX p r]
   by_cases h:zAK q p=0
   ·rw[if_pos h]
    simp[h]
   ·rw[if_neg h]
    simp[h]
theorem zD8 (p:Nat) (i:Nat):∀(pts:List Nat) (s:Nat×Nat×Bool),(zCQ p pts s).2.1.testBit i=true↔s.2.1.testBit i=true∨∃q∈pts,zAK q p=0∧q.testBit i=true
 | [],s=>by simp[zCQ]
 | q :: r,s=>by
   unfold zCQ
   rw[zD8 p i r]
   by_cases h:zAK q p=0
   ·rw[if_pos h]
    simp only[Nat.testBit_or,Bool.or_eq_true,List.mem_cons,exists_eq_or_imp,h,true_and,or_assoc]
   ·rw[if_neg h]
    simp[h]
theorem zCr (p:Nat):∀(pts:List Nat) (s:Nat×Nat×Bool),(zCQ p pts s).1=s.1∨(zCQ p pts s).1∈pts∧zAK (zCQ p pts s).1 p=0
 | [],s=>Or.inl rfl
 | q :: r,s=>by
   unfold zCQ
   rcases zCr p r (if zAK q p=0 then (q,s.2.1 ||| q,true) else s) with h | h
   ·by_cases hq:zAK q p=0
    ·right
     rw[h,if_pos hq]
     exact⟨List.mem_cons_self ..,hq⟩
    ·left
     rw[h,if_neg hq]
   ·exact Or.inr ⟨List.mem_cons_of_mem _ h.1,h.2⟩
theorem zBB (s i:Nat):(zAf s).testBit i=decide (i / 6=Lib.ctz 64 s / 6):=zHb _ _
theorem zDG (s:Nat) (h0:s≠0) (h:s<2 ^ 36):zAK s (zAf s)<s:=by
 have hb:=(zDn s h0 (by omega) (Lib.ctz 64 s)).2.1 rfl
 have h1:=zHa s (zAf s)
 have h2:zAK s (zAf s)≠s:=fun he=>by
  have:=congrArg (fun z=>Nat.testBit z (Lib.ctz 64 s)) he
  simp only[zAP,zBB,hb] at this
  simp at this
 omega
theorem zNQ:∀(f g s p:Nat),s<f→s<g→s<2 ^ 36→clrN f s p=clrN g s p
 | 0,g,s,p,hf,hg,_=>by omega
 | f+1,0,s,p,hf,hg,_=>by omega
 | f+1,g+1,s,p,hf,hg,h=>by
   unfold clrN
   split
   ·rfl
   ·rename_i h0
    have:=zDG s h0 h
    exact zNQ f g _ _ (by omega) (by omega) (by omega)
theorem zRe (s p:Nat) (h0:s≠0) (h:s<2 ^ 36):clrN (s+1) s p=clrN (zAK s (zAf s)+1) (zAK s (zAf s)) (zAK p (zAf s)):=by
 conv=>lhs;unfold clrN
 rw[if_neg h0]
 have:=zDG s h0 h
 exact zNQ _ _ _ _ (by omega) (by omega) (by omega)
theorem zHg (i:Nat):∀(f s p:Nat),s<f→s<2 ^ 36→((clrN f s p).testBit i=true↔p.testBit i=true∧∀j,s.testBit j=true→j / 6≠i / 6)
 | 0,s,p,hf,_=>by omega
 | f+1,s,p,hf,h=>by
   unfold clrN
   by_cases h0:s=0
   ·rw[if_pos h0,h0]
    simp
   ·rw[if_neg h0]
    have hlt:=zDG s h0 h
    have hb:=(zDn s h0 (by omega) (Lib.ctz 64 s)).2.1 rfl
    rw[zHg i f _ _ (by omega) (by omega)]
    simp only[zAP,zBB,Bool.and_eq_true,Bool.not_eq_true',decide_eq_false_iff_not]
    constructor
    ·rintro ⟨⟨h1,h2⟩,h3⟩
     refine⟨h1,fun j hj he=>?_⟩
     by_cases hk:j / 6=Lib.ctz 64 s / 6
     ·omega
     ·exact h3 j ⟨hj,hk⟩ he
    ·rintro ⟨h1,h2⟩
     refine⟨⟨h1,fun he=>h2 _ hb he.symm⟩,fun j hj he=>h2 j hj.1 he⟩
theorem zEQ (pts:List Nat) (p i:Nat) (hp:p<2 ^ 36) (h:(zBV pts p).testBit i=true):p.testBit i=true:=by
 unfold zBV at h
 split at h
 ·rw[Nat.testBit_or,Bool.or_eq_true] at h
  rcases h with h | h
  ·have hs:(zCQ p pts (0,0,false)).1<2 ^ 36:=by
    rcases zCr p pts (0,0,false) with h1 | h1
    ·rw[h1];decide
    ·exact Nat.lt_of_le_of_lt (Nat.le_of_testBit ((zBd _ _).1 h1.2)) hp
   exact ((zHg i _ _ p (Nat.lt_succ_self _) hs).1 h).1
  ·rcases (zD8 p i pts _).1 h with h1 | ⟨q,_,h1,h2⟩
   ·simp at h1
   ·exact (zBd _ _).1 h1 i h2
 ·simp at h
theorem zFj (pts:List Nat) (p:Nat) (hp:p<2 ^ 36):zBV pts p≤p:=Nat.le_of_testBit fun i h=>zEQ pts p i hp h
theorem zF8 (pts:List Nat) (p:Nat) (hp:p<2 ^ 36):(zCQ p pts (0,0,false)).1<2 ^ 36:=by
 rcases zCr p pts (0,0,false) with h1 | h1
 ·rw[h1];decide
 ·exact Nat.lt_of_le_of_lt (Nat.le_of_testBit ((zBd _ _).1 h1.2)) hp
theorem zHh (i:Nat):∀(cs:List Nat) (left l:Nat),zAj cs left=some l→l.testBit i=true→left.testBit i=true
 | [],left,l,h,hi=>by simp[zAj] at h;rw[h];exact hi
 | c :: r,left,l,h,hi=>by
   unfold zAj at h
   split at h
   ·cases h
   ·split at h
    ·have:=zHh i r _ l h hi
     rw[zAP,Bool.and_eq_true] at this
     exact this.1
    ·exact zHh i r _ l h hi
theorem zIy (cs:List Nat) (i:Nat):∀(f left:Nat),(zBH cs f left).testBit i=true→left.testBit i=true
 | 0,left,h=>h
 | f+1,left,h=>by
   unfold zBH at h
   cases hr:zAj cs left with
   | none=>rw[hr] at h;simp at h
   | some l =>
     rw[hr] at h
     simp only at h
     split at h
     ·exact h
     ·exact zHh i cs left l hr (zIy cs i f l h)
theorem zC8 (vs:List MVar) (cs:List Nat) (p i:Nat) (h:(zAc vs cs p).testBit i=true):p.testBit i=true:=by
 unfold zAc at h
 split at h
 ·simp at h
 ·exact zIy cs i _ _ h
theorem zEp (vs:List MVar) (hv:zAa vs) (c:MCon):∀(r u:List Int) (a p:Nat),p∈zAk vs c r u a→∀i,p.testBit i=true→a.testBit i=true∨∃v∈r,i / 6=v.toNat
 | [],u,a,p,hp=>by
   intro i hi
   unfold zAk at hp
   split at hp
   ·rw[List.mem_singleton.1 hp] at hi;exact Or.inl hi
   ·cases hp
 | v :: r,u,a,p,hp=>by
   intro i hi
   unfold zAk at hp
   obtain⟨x,hx,hp⟩:=List.mem_flatMap.1 hp
   rcases zEp vs hv c r _ _ p hp i hi with h | ⟨w,hw,he⟩
   ·rw[Nat.testBit_or,Bool.or_eq_true,zCP] at h
    rcases h with h | h
    ·exact Or.inl h
    ·right
     refine⟨v,List.mem_cons_self ..,?_⟩
     have h1:6 * v.toNat+(x - (zAL vs v.toNat).lo).toNat=i:=by simpa using h
     obtain⟨b1,b2⟩:=(zDo _ _ _).1 hx
     have h6:=hv.2 v.toNat
     unfold zBz at h6
     omega
   ·exact Or.inr ⟨w,List.mem_cons_of_mem _ hw,he⟩
theorem zRf (vs:List MVar) (hv:zAa vs) (c:MCon) (hsc:∀v∈zBA c,0≤v∧v<(vs.length:Int)) (hl:c.kind=10→c.lits≠[]) (vals:List Int) (hm:zDV vs vals) (hh:zAo c vals=true) :
 ∃p∈zAM vs c,(∀i,p.testBit i=true→∃v:Nat,v<vs.length∧i=posV vs vals v)∧∀v∈zBA c,p.testBit (posV vs vals v.toNat)=true:=by
 obtain⟨p,hp,hb⟩:=zFh vs c vals hm (zBA c) (zBm vs.length) 0 hsc (by simp[zBm]) (fun u' _ h2 _=>by rw[zFf c u' vals h2 hl];exact hh)
 have hb':∀i,p.testBit i=true→∃v:Nat,v<vs.length∧i=posV vs vals v:=fun i hi=>by
  rcases hb i hi with h | h
  ·simp at h
  ·exact h
 refine⟨p,hp,hb',fun v hvs=>?_⟩
 obtain⟨u,l1,l2,l3,l4,_,l6⟩:=zEP vs c _ _ _ p hsc (by simp[zBm]) hp
 have h1:=l6 v hvs
 obtain⟨v',hv',he⟩:=hb' _ h1
 have h6:=hv.2 v.toNat
 have h3:=l3 v hvs
 have h7:=(zDW vs hv vals hm v' hv').1
 have h8:=hsc v hvs
 unfold zBz at h6
 have:v'=v.toNat:=by omega
 rw[he,this] at h1
 exact h1
theorem zOH (vs:List MVar) (hv:zAa vs) (c:MCon) (hsc:∀v∈zBA c,0≤v∧v<(vs.length:Int)) (hl:c.kind=10→c.lits≠[]) (vals:List Int) (hm:zDV vs vals) (hh:zAo c vals=true) (p:Nat) (hp36:p<2 ^ 36) (hw:zBv vs vals p) :
 zBv vs vals (zBV (zAM vs c) p):=by
 obtain⟨q,hq,h1,h2⟩:=zRf vs hv c hsc hl vals hm hh
 have hz:zAK q p=0:=(zBd _ _).2 fun i hi=>by
  obtain⟨v,hvl,rfl⟩:=h1 i hi
  exact hw v hvl
 have hf:=(zDX p (zAM vs c) (0,0,false)).2 (Or.inr ⟨q,hq,hz⟩)
 intro v hvl
 unfold zBV
 rw[if_pos hf,Nat.testBit_or,Bool.or_eq_true]
 by_cases hs:(v:Int)∈zBA c
 ·right
  refine (zD8 p _ _ _).2 (Or.inr ⟨q,hq,hz,?_⟩)
  have:=h2 _ hs
  rwa [Int.toNat_natCast] at this
 ·left
  refine (zHg _ _ _ _ (Nat.lt_succ_self _) (zF8 _ _ hp36)).2 ⟨hw v hvl,fun j hj he=>?_⟩
  rw[(zDW vs hv vals hm v hvl).1] at he
  rcases zCr p (zAM vs c) (0,0,false) with h3 | h3
  ·rw[h3] at hj;simp at hj
  ·rcases zEp vs hv c _ _ _ _ h3.1 j hj with h4 | ⟨w,hw2,h4⟩
   ·simp at h4
   ·have:=hsc w hw2
    refine hs ?_
    rw[show (v:Int)=w by omega]
    exact hw2
def zA3:List (List Nat)→Nat→Nat
 | [],l=>l
 | pts :: r,l=>if l=0 then l else zA3 r (zBV pts l)
def zDh:Nat→List (List Nat)→Nat→List (Nat×Nat×Nat)
 | _,[],_=>[]
 | k,pts :: r,l=>if l=0 then [] else (if zBV pts l=l then [] else [(k,l,zBV pts l)])++zDh (k+1) r (zBV pts l)
def zBP (vs:List MVar) (cs:List Nat) (pt:List (List Nat)):Nat→Nat→Nat
 | 0,l=>l
 | f+1,l=>if zA3 pt (zAc vs cs l)=l then l else zBP vs cs pt f (zA3 pt (zAc vs cs l))
def zB3 (vs:List MVar) (cs:List Nat) (pt:List (List Nat)):Nat→Nat→List (Nat×Nat×Nat)
 | 0,_=>[]
 | f+1,l=>zDh 0 pt (zAc vs cs l)++if zA3 pt (zAc vs cs l)=l then [] else zB3 vs cs pt f (zA3 pt (zAc vs cs l))
def zBW (vs:List MVar) (cs:List Nat) (pt:List (List Nat)) (h:Nat):Nat :=
 if zAK (zAC vs) h=0 then 0 else zBP vs cs pt (zAK (zAC vs) h+1) (zAK (zAC vs) h)
def zHi (vs:List MVar) (cs:List Nat) (pt:List (List Nat)) (h:Nat):List (Nat×Nat×Nat) :=
 if zAK (zAC vs) h=0 then [] else zB3 vs cs pt (zAK (zAC vs) h+1) (zAK (zAC vs) h)
theorem zF9:∀(pt:List (List Nat)) (l:Nat),l<2 ^ 36→zA3 pt l≤l
 | [],l,_=>Nat.le_refl _
 | pts :: r,l,h=>by
   unfold zA3
   split
   ·exact Nat.le_refl _
   ·have h1:=zFj pts l h
    exact Nat.le_trans (zF9 r _ (by omega)) h1
theorem zEq (vs:List MVar) (cs:List Nat) (pt:List (List Nat)) (l:Nat) (h:l<2 ^ 36):zA3 pt (zAc vs cs l)≤l:=by
 have h1:=zDF vs cs l
 exact Nat.le_trans (zF9 pt _ (by omega)) h1
theorem zHj (vs:List MVar) (cs:List Nat) (pt:List (List Nat)):∀(f g l:Nat),l<f→l<g→l<2 ^ 36→zBP vs cs pt f l=zBP vs cs pt g l∧zB3 vs cs pt f l=zB3 vs cs pt g l
 | 0,g,l,hf,hg,_=>by omega
 | f+1,0,l,hf,hg,_=>by omega
 | f+1,g+1,l,hf,hg,h=>by
   unfold zBP zB3
   split
   ·exact⟨rfl,rfl⟩
   ·have:=zEq vs cs pt l h
    obtain⟨h1,h2⟩:=zHj vs cs pt f g (zA3 pt (zAc vs cs l)) (by omega) (by omega) (by omega)
    exact⟨h1,by rw[h2]⟩
theorem zL9 (vs:List MVar) (cs:List Nat) (pt:List (List Nat)) (l:Nat) (h:l<2 ^ 36) :
 zBP vs cs pt (l+1) l=(if zA3 pt (zAc vs cs l)=l then l else zBP vs cs pt (zA3 pt (zAc vs cs l)+1) (zA3 pt (zAc vs cs l))) ∧
 zB3 vs cs pt (l+1) l=zDh 0 pt (zAc vs cs l)++if zA3 pt (zAc vs cs l)=l then [] else zB3 vs cs pt (zA3 pt (zAc vs cs l)+1) (zA3 pt (zAc vs cs l)):=by
 by_cases he:zA3 pt (zAc vs cs l)=l
 ·constructor
  ·conv=>lhs;unfold zBP
   rw[if_pos he,if_pos he]
  ·conv=>lhs;unfold zB3
   rw[if_pos he,if_pos he]
 ·have:=zEq vs cs pt l h
  obtain⟨h1,h2⟩:=zHj vs cs pt l (zA3 pt (zAc vs cs l)+1) (zA3 pt (zAc vs cs l)) (by omega) (by omega) (by omega)
  constructor
  ·conv=>lhs;unfold zBP
   rw[if_neg he,if_neg he,h1]
  ·conv=>lhs;unfold zB3
   rw[if_neg he,if_neg he,h2]
theorem zHk (vs:List MVar) (hv:zAa vs) (h1:1≤vs.length) (vals:List Int) (hm:zDV vs vals):∀(pt:List (List Nat)) (l:Nat),l<2 ^ 36→(∀pts∈pt,∀p,p<2 ^ 36→zBv vs vals p→zBv vs vals (zBV pts p))→zBv vs vals l→zBv vs vals (zA3 pt l)
 | [],l,_,_,hw=>hw
 | pts :: r,l,h,hk,hw=>by
   unfold zA3
   rw[if_neg (zF7 vs h1 vals l hw)]
   have:=zFj pts l h
   exact zHk vs hv h1 vals hm r _ (by omega) (fun q hq=>hk q (List.mem_cons_of_mem _ hq)) (hk pts (List.mem_cons_self ..) l h hw)
theorem zGA (vs:List MVar) (hv:zAa vs) (h1:1≤vs.length) (vals:List Int) (hm:zDV vs vals) (cs:List Nat) (hc:∀c∈cs,Hits vs vals c) (pt:List (List Nat)) (hk:∀pts∈pt,∀p,p<2 ^ 36→zBv vs vals p→zBv vs vals (zBV pts p)) :
 ∀(f l:Nat),l<2 ^ 36→zBv vs vals l→zBv vs vals (zBP vs cs pt f l)
 | 0,l,_,hw=>hw
 | f+1,l,h,hw=>by
   unfold zBP
   split
   ·exact hw
   ·have h2:=zDF vs cs l
    have h3:=zEq vs cs pt l h
    exact zGA vs hv h1 vals hm cs hc pt hk f _ (by omega) (zHk vs hv h1 vals hm pt _ (by omega) hk (zHe vs hv vals hm cs hc l hw))
theorem zBw (vs:List MVar) (hv:zAa vs):zAC vs<2 ^ 36:=zF6 vs hv _
theorem zMA (vs:List MVar) (hv:zAa vs) (h1:1≤vs.length) (vals:List Int) (hm:zDV vs vals) (cs:List Nat) (hc:∀c∈cs,Hits vs vals c) (pt:List (List Nat)) (hk:∀pts∈pt,∀p,p<2 ^ 36→zBv vs vals p→zBv vs vals (zBV pts p))
 (h:Nat) (hz:zBW vs cs pt h=0):Hits vs vals h:=by
 apply Classical.byContradiction
 intro hn
 have hw:=zFg vs hv vals hm h hn
 unfold zBW at hz
 rw[if_neg (zF7 vs h1 vals _ hw)] at hz
 exact zF7 vs h1 vals _ (zGA vs hv h1 vals hm cs hc pt hk _ _ (zCO 36 _ _ (zBw vs hv)) hw) hz
theorem zFk (f g:Nat→Bool) (h:∀i,g i=true→f i=true):∀l:List Nat,(l.filter f).length=(l.filter g).length+(l.filter fun i=>f i&&!g i).length
 | []=>rfl
 | a :: r=>by
   have ih:=zFk f g h r
   rw[List.filter_cons,List.filter_cons,List.filter_cons]
   cases hf:f a <;> cases hg:g a
   ·simpa using ih
   ·rw[h a hg] at hf;cases hf
   ·simp;omega
   ·simp;omega
def zFl (p:Nat):Nat:=(zDw p).length
theorem zMB (p:Nat):zFl p≤36:=by
 unfold zFl zDw
 exact Nat.le_trans (List.length_filter_le _ _) (by simp)
theorem zNR (a b:Nat) (h:∀i,a.testBit i=true→b.testBit i=true):zFl a≤zFl b:=by
 unfold zFl zDw
 rw[zFk (fun i=>b.testBit i) (fun i=>a.testBit i) h]
 omega
theorem zKf (a b:Nat) (hb:b<2 ^ 36) (h:∀i,a.testBit i=true→b.testBit i=true) (hne:a≠b):zFl a+1≤zFl b:=by
 unfold zFl zDw
 rw[zFk (fun i=>b.testBit i) (fun i=>a.testBit i) h]
 have:((List.range 36).filter fun i=>b.testBit i&&!a.testBit i)≠[]:=fun hn=>by
  refine hne (Nat.eq_of_testBit_eq fun i=>?_)
  by_cases hi:i<36
  ·have:=List.filter_eq_nil_iff.1 hn i (List.mem_range.2 hi)
   cases ha:a.testBit i <;> cases hbb:b.testBit i
   ·rfl
   ·rw[ha,hbb] at this;simp at this
   ·rw[h i ha] at hbb;cases hbb
   ·rfl
  ·have h1:b.testBit i=false:=Nat.testBit_lt_two_pow (Nat.lt_of_lt_of_le hb (Nat.pow_le_pow_right (by omega) (by omega)))
   cases ha:a.testBit i
   ·exact h1.symm
   ·rw[h i ha] at h1;cases h1
 have:=List.length_pos_iff.2 this
 omega
def zAv {α:Type} (enough:List α→Bool):Nat→List α→List α
 | 0,out=>out
 | k+1,out=>zAv enough k (if enough (out.eraseIdx k) then out.eraseIdx k else out)
theorem zEr {α:Type} (enough:List α→Bool):∀(k:Nat) (out:List α),enough out=true→enough (zAv enough k out)=true
 | 0,out,h=>h
 | k+1,out,h=>by
   unfold zAv
   apply zEr
   split
   ·assumption
   ·exact h
theorem zGB {α:Type} (enough:List α→Bool) (x:α):∀(k:Nat) (out:List α),x∈zAv enough k out→x∈out
 | 0,out,h=>h
 | k+1,out,h=>by
   unfold zAv at h
   have:=zGB enough x k _ h
   split at this
   ·exact List.mem_of_mem_eraseIdx this
   ·exact this
theorem zHl {α:Type} (enough:List α→Bool):∀(k:Nat) (out:List α),(zAv enough k out).length≤out.length
 | 0,out=>Nat.le_refl _
 | k+1,out=>by
   unfold zAv
   refine Nat.le_trans (zHl enough k _) ?_
   split
   ·exact List.length_eraseIdx_le ..
   ·exact Nat.le_refl _
def whyP (vs:List MVar) (pts:List Nat) (any:Cla) (gone:Nat):Cla:=any++zBc vs (zCY (fun g=>zCa vs pts (zAF vs any ||| g)) (gone+1) gone gone)
def zCd (vs:List MVar) (con:Nat) (c:Cla):MStep×Nat:=(⟨1,(con:Int),c⟩,zAF vs c)
def zA4 (vs:List MVar) (pt:List (List Nat)) (t:Nat×Nat×Nat):List (MStep×Nat) :=
 if t.2.2=0 then [zCd vs t.1 (whyP vs (pt.getD t.1 []) [] (zAK (zAC vs) t.2.1))]
 else (zBc vs (zAK t.2.1 t.2.2)).map fun l=>zCd vs t.1 (whyP vs (pt.getD t.1 []) [⟨l.var,4,l.n⟩] (zAK (zAC vs) t.2.1))
def zAt (vs:List MVar) (cs:List Nat) (pt:List (List Nat)) (h:Nat):List (MStep×Nat):=(zHi vs cs pt h).flatMap (zA4 vs pt)
def zCE (vs:List MVar) (cs:List Nat) (h:Nat) (some:List (MStep×Nat)):Bool:=zC6 vs (cs++some.map (·.2)) h
def zEs (vs:List MVar) (cs:List Nat) (pt:List (List Nat)) (c:Cla):List MStep :=
 (zAv (zCE vs cs (zAF vs c)) (zAt vs cs pt (zAF vs c)).length (zAt vs cs pt (zAF vs c))).map (·.1)++[⟨2,0,c⟩]
def zBC (vs:List MVar) (cs:List Nat) (pt:List (List Nat)) (c:Cla):Bool:=zBW vs cs pt (zAF vs c)==0
def zCH (vs:List MVar) (cs:List Nat) (pt:List (List Nat)) (c:Cla):Cla:=zAv (zBC vs cs pt) c.length c
def ptsM (m:Mod):List (List Nat):=m.cons.map (zAM m.vars)
theorem zOI (m:Mod) (hm:zAE m=0) (vals:List Int) (hv:zDV m.vars vals) (hc:∀c∈m.cons,zAo c vals=true):∀pts∈ptsM m,∀p,p<2 ^ 36→zBv m.vars vals p→zBv m.vars vals (zBV pts p):=by
 intro pts hp p h36 hw
 obtain⟨c,hcm,rfl⟩:=List.mem_map.1 hp
 obtain⟨j,hj,he⟩:=List.getElem_of_mem hcm
 obtain⟨k1,k2⟩:=zFE m hm j c (by rw[List.getElem?_eq_getElem hj,he])
 exact zOH m.vars (zAd m hm) c k1 k2 vals hv (hc c hcm) p h36 hw
theorem zJ4 (m:Mod) (hm:zAE m=0) (vals:List Int) (hv:zDV m.vars vals) (hc:∀c∈m.cons,zAo c vals=true) (cs:List Nat) (hh:∀c∈cs,Hits m.vars vals c) (c:Cla) (hz:zBC m.vars cs (ptsM m) c=true):Hits m.vars vals (zAF m.vars c):=by
 unfold zBC at hz
 exact zMA m.vars (zAd m hm) (zEN m hm) vals hv cs hh (ptsM m) (zOI m hm vals hv hc) _ (by simpa using hz)
def zBx:Cla→Sto→Sto
 | [],s=>s
 | l :: r,s=>zBx r (s.set l.var.toNat (s.getD l.var.toNat []++[l.n]))
def zAe (vs:List MVar) (p:Nat):Sto:=zBx (zBc vs p) (List.replicate vs.length [])
def fewF (s:Sto):Nat→List (List Int)→Int→Int
 | _,[],b=>b
 | v,x :: r,b=>fewF s (v+1) r (if 1<x.length∧(b<0∨x.length<(s.getD b.toNat []).length) then (v:Int) else b)
def zBX (s:Sto):Int:=fewF s 0 s (-1)
def zPn (x l:MLit):Bool:=decide (x.var=l.var)&&(decide (x.op=l.op)&&decide (x.n=l.n))
def idxL (l:MLit):Cla→Nat
 | []=>0
 | x :: r=>if zPn l x then 0 else idxL l r+1
structure Sk where
 cs:List Nat
 fuel:Nat
 proof:List MStep
 path:Cla
def zAb (vs:List MVar):List MStep→List MStep→List MStep
 | [],p=>p
 | t :: r,p=>zAb vs r (if (p.map fun x=>zAF vs x.cla).contains (zAF vs t.cla) then p else p++[t])
def zKg (c:Cla):MLit:=c.getD (c.length - 1) zTu
def zBL (vs:List MVar) (pt:List (List Nat)) (s:Sk):Int×Sk :=
 if s.fuel=0 then (3,s)
 else if 6000<(zAb vs (zEs vs s.cs pt (zCH vs s.cs pt s.path)) s.proof).length then (3,⟨s.cs,s.fuel - 1,zAb vs (zEs vs s.cs pt (zCH vs s.cs pt s.path)) s.proof,s.path⟩)
 else if (zCH vs s.cs pt s.path).length=0 then (2,⟨s.cs,s.fuel - 1,zAb vs (zEs vs s.cs pt (zCH vs s.cs pt s.path)) s.proof,s.path⟩)
 else (0,⟨s.cs++[zAF vs (zCH vs s.cs pt s.path)],s.fuel - 1,zAb vs (zEs vs s.cs pt (zCH vs s.cs pt s.path)) s.proof,s.path.take (idxL (zKg (zCH vs s.cs pt s.path)) s.path)⟩)
def zAl (vs:List MVar) (pt:List (List Nat)) (s:Sk):Nat:=zBW vs s.cs pt (zAF vs s.path)
def zPo (st:Sto):MLit:=⟨zBX st,4,(st.getD (zBX st).toNat []).getD 0 0⟩
def zEt (st:Sto) (s:Sk):Sk:=⟨s.cs,s.fuel,s.proof,s.path++[zPo st]⟩
def zMC (vs:List MVar) (pt:List (List Nat)):Nat→Sk→Int×List Int×Sk
 | 0,s=>(0,[],s)
 | n+1,s =>
   if zAl vs pt s=0 then
    (if (zBL vs pt s).1=0 then zMC vs pt n (zBL vs pt s).2 else ((zBL vs pt s).1,[],(zBL vs pt s).2))
   else if zBX (zAe vs (zAl vs pt s))<0 then (1,(zAe vs (zAl vs pt s)).flatten,s)
   else zMC vs pt n (zEt (zAe vs (zAl vs pt s)) s)
def zMD (vs:List MVar) (c:Cla):Nat:=zFl (zAK (zAC vs) (zAF vs c))
def zCj (vs:List MVar) (s:Sk):Nat:=s.fuel * 40+zMD vs s.path
def zAV (vs:List MVar) (pt:List (List Nat)) (s:Sk):Int×List Int×Sk:=zMC vs pt (zCj vs s+1) s
theorem zIz:∀(c:Cla) (s:Sto),(zBx c s).length=s.length
 | [],s=>rfl
 | l :: r,s=>by unfold zBx;rw[zIz r];simp
theorem zFG (vs:List MVar) (p:Nat):(zAe vs p).length=vs.length:=by unfold zAe;rw[zIz];simp
theorem zI0 (v:Nat):∀(c:Cla) (s:Sto),v<s.length→(zBx c s).getD v []=s.getD v []++(c.filter fun l=>l.var.toNat==v).map (·.n)
 | [],s,_=>by simp[zBx]
 | l :: r,s,h=>by
   unfold zBx
   rw[zI0 v r _ (by simpa using h)]
   by_cases he:l.var.toNat=v
   ·subst he
    rw[List.filter_cons]
    simp[List.getD_eq_getElem?_getD,h]
   ·rw[List.filter_cons]
    simp[List.getD_eq_getElem?_getD,he]
theorem zI1 (vs:List MVar) (p v:Nat) (h:v<vs.length):(zAe vs p).getD v []=((zDw p).filter fun i=>i / 6==v).map fun i=>(zAL vs v).lo+((i % 6:Nat):Int):=by
 unfold zAe
 rw[zI0 v _ _ (by simpa using h)]
 unfold zBc
 rw[List.filter_map,List.map_map]
 have:(List.replicate vs.length ([]:List Int)).getD v []=[]:=by simp[List.getD_eq_getElem?_getD,h]
 rw[this,List.nil_append]
 have e:((fun l:MLit=>l.var.toNat==v) ∘ fun i:Nat=>(⟨((i / 6:Nat):Int),3,(zAL vs (i / 6)).lo+((i % 6:Nat):Int)⟩:MLit))=fun i:Nat=>i / 6==v:=by
  funext i
  show ((((i / 6:Nat):Int)).toNat==v)=_
  rw[Int.toNat_natCast]
 rw[e]
 apply List.map_congr_left
 intro i hi
 have:=(List.mem_filter.1 hi).2
 have:i / 6=v:=by simpa using this
 simp[this]
theorem zME (p:Nat):(zDw p).Nodup:=by
 unfold zDw
 exact List.Pairwise.filter _ List.nodup_range
theorem zG2 (vs:List MVar) (p v:Nat) (h:v<vs.length):((zAe vs p).getD v []).Nodup:=by
 rw[zI1 vs p v h]
 have hn:=List.Pairwise.filter (fun i=>i / 6==v) (zME p)
 refine List.Pairwise.map _ (fun a b hab=>?_) (List.Pairwise.imp_of_mem ?_ hn (S:=fun a b:Nat=>a≠b∧a / 6=v∧b / 6=v))
 ·intro he
  have:a % 6=b % 6:=by omega
  have:=hab
  omega
 ·intro a b ha hb hab
  exact⟨hab,by simpa using (List.mem_filter.1 ha).2,by simpa using (List.mem_filter.1 hb).2⟩
theorem zFH (vs:List MVar) (p v:Nat) (h:v<vs.length) (x:Int):x∈(zAe vs p).getD v []↔∃i,i<36∧p.testBit i=true∧i / 6=v∧x=(zAL vs v).lo+((i % 6:Nat):Int):=by
 rw[zI1 vs p v h,List.mem_map]
 constructor
 ·rintro ⟨i,hi,rfl⟩
  obtain⟨h1,h2⟩:=List.mem_filter.1 hi
  unfold zDw at h1
  obtain⟨h3,h4⟩:=List.mem_filter.1 h1
  exact⟨i,List.mem_range.1 h3,h4,by simpa using h2,rfl⟩
 ·rintro ⟨i,h1,h2,h3,rfl⟩
  exact⟨i,List.mem_filter.2 ⟨(zJ3 p i h1).2 h2,by simpa using h3⟩,rfl⟩
theorem zGC (s:Sto):∀(r:List (List Int)) (v:Nat) (b:Int),v+r.length=s.length→(∀k,r[k]? = s[v+k]?)→(b<0∨(0≤b∧b<(s.length:Int)∧1<(s.getD b.toNat []).length)) →
 (fewF s v r b<0→b<0∧∀x∈r,x.length≤1)∧(¬fewF s v r b<0→fewF s v r b<(s.length:Int)∧1<(s.getD (fewF s v r b).toNat []).length)
 | [],v,b,hl,hr,hb=>by
   unfold fewF
   refine⟨fun h=>⟨h,fun x hx=>by cases hx⟩,fun h=>?_⟩
   rcases hb with hb | hb
   ·exact absurd hb h
   ·exact⟨hb.2.1,hb.2.2⟩
 | x :: r,v,b,hl,hr,hb=>by
   unfold fewF
   have hx:s[v]? = some x:=by have:=hr 0;simpa using this.symm
   have hg:s.getD v []=x:=by rw[List.getD_eq_getElem?_getD,hx];rfl
   have hl':v+1+r.length=s.length:=by rw[List.length_cons] at hl;omega
   have hr':∀k,r[k]? = s[v+1+k]? := fun k=>by
    have:=hr (k+1)
    rw[List.getElem?_cons_succ] at this
    rw[this];congr 1;omega
   by_cases hc:1<x.length∧(b<0∨x.length<(s.getD b.toNat []).length)
   ·rw[if_pos hc]
    obtain⟨h1,h2⟩:=zGC s r (v+1) (v:Int) hl' hr' (Or.inr ⟨by omega,by rw[List.length_cons] at hl;omega,by rw[Int.toNat_natCast,hg];exact hc.1⟩)
    refine⟨fun h=>?_,h2⟩
    have:=(h1 h).1
    omega
   ·rw[if_neg hc]
    obtain⟨h1,h2⟩:=zGC s r (v+1) b hl' hr' hb
    refine⟨fun h=>?_,h2⟩
    obtain⟨h3,h4⟩:=h1 h
    refine⟨h3,fun y hy=>?_⟩
    rcases List.mem_cons.1 hy with rfl | hy
    ·apply Classical.byContradiction
     intro hn
     exact hc ⟨by omega,Or.inl h3⟩
    ·exact h4 y hy
theorem zMF (s:Sto) (h:zBX s<0):∀x∈s,x.length≤1 :=
 ((zGC s s 0 (-1) (by omega) (fun k=>by rw[Nat.zero_add]) (Or.inl (by omega))).1 h).2
theorem zFm (s:Sto) (h:¬zBX s<0):zBX s<(s.length:Int)∧1<(s.getD (zBX s).toNat []).length :=
 (zGC s s 0 (-1) (by omega) (fun k=>by rw[Nat.zero_add]) (Or.inl (by omega))).2 h
theorem zEu (vs:List MVar) (hv:zAa vs) (a b:Cla) (i:Nat):(zAF vs (a++b)).testBit i=((zAF vs a).testBit i || (zAF vs b).testBit i):=by
 unfold zAF ofP
 rw[zAY vs hv,zAY vs hv,zAY vs hv]
 unfold oneB
 rw[List.any_append]
 cases decide (i / 6<vs.length) <;> cases decide (i % 6<zBz (zAL vs (i / 6))) <;> simp
theorem zHm (vs:List MVar) (cs:List Nat) (pt:List (List Nat)) (i:Nat):∀(f l:Nat),l<2 ^ 36→(zBP vs cs pt f l).testBit i=true→l.testBit i=true
 | 0,l,_,h=>h
 | f+1,l,hl,h=>by
   unfold zBP at h
   split at h
   ·exact h
   ·have h1:=zEq vs cs pt l hl
    have h2:=zHm vs cs pt i f _ (by omega) h
    have h3:=zDF vs cs l
    refine zC8 vs cs l i ?_
    have:∀(pt:List (List Nat)) (q:Nat),q<2 ^ 36→(zA3 pt q).testBit i=true→q.testBit i=true:=by
     intro pt
     induction pt with
     | nil=>intro q _ h;exact h
     | cons pts r ih =>
       intro q hq h
       unfold zA3 at h
       split at h
       ·exact h
       ·have:=zFj pts q hq
        exact zEQ pts q i hq (ih _ (by omega) h)
    exact this pt _ (by omega) h2
theorem zD9 (vs:List MVar) (hv:zAa vs) (cs:List Nat) (pt:List (List Nat)) (h i:Nat) (hi:(zBW vs cs pt h).testBit i=true):(zAC vs).testBit i=true∧h.testBit i=false:=by
 unfold zBW at hi
 split at hi
 ·simp at hi
 ·have:=zHm vs cs pt i _ _ (zCO 36 _ _ (zBw vs hv)) hi
  rw[zAP,Bool.and_eq_true,Bool.not_eq_true'] at this
  exact this
theorem zPp (vs:List MVar) (hv:zAa vs) (cs:List Nat) (pt:List (List Nat)) (h:Nat):zBW vs cs pt h<2 ^ 36:=by
 refine Nat.lt_of_le_of_lt (Nat.le_of_testBit fun i hi=>(zD9 vs hv cs pt h i hi).1) (zBw vs hv)
theorem zNS (vs:List MVar) (hv:zAa vs) (pt:List (List Nat)) (s:Sk) (h:¬zBX (zAe vs (zAl vs pt s))<0):zMD vs (zEt (zAe vs (zAl vs pt s)) s).path+1≤zMD vs s.path:=by
 obtain⟨h1,h2⟩:=zFm _ h
 obtain⟨f,hf⟩:∃f,zBX (zAe vs (zAl vs pt s))=f:=⟨_,rfl⟩
 unfold zEt zPo
 rw[hf] at h h1 h2 ⊢
 rw[zFG] at h1
 obtain⟨v,rfl⟩:∃v:Nat,f=(v:Int):=⟨f.toNat,by omega⟩
 rw[Int.toNat_natCast] at h2 ⊢
 have hvl:v<vs.length:=by omega
 have hnd:=zG2 vs (zAl vs pt s) v hvl
 obtain⟨x,y,t,ht⟩:∃x y t,(zAe vs (zAl vs pt s)).getD v []=x :: y :: t:=by
  match hr:(zAe vs (zAl vs pt s)).getD v [] with
  | []=>rw[hr] at h2;simp at h2
  | [x]=>rw[hr] at h2;simp at h2
  | x :: y :: t=>exact⟨x,y,t,rfl⟩
 have hy:y∈(zAe vs (zAl vs pt s)).getD v []:=by rw[ht];simp
 have hxy:x≠y:=by rw[ht] at hnd;simp at hnd;exact hnd.1.1
 obtain⟨i,hi36,hib,hiv,rfl⟩:=(zFH vs _ v hvl y).1 hy
 rw[ht]
 obtain⟨hw,hn⟩:=zD9 vs hv _ _ _ i hib
 unfold zMD
 refine zKf _ _ (zCO 36 _ _ (zBw vs hv)) (fun k hk=>?_) (fun he=>?_)
 ·rw[zAP,Bool.and_eq_true,Bool.not_eq_true',zEu vs hv,Bool.or_eq_false_iff] at hk
  rw[zAP,hk.1,hk.2.1];rfl
 ·have h3:=congrArg (fun z=>Nat.testBit z i) he
  simp only[zAP,zEu vs hv,hw,hn] at h3
  have h4:(zAF vs [(⟨(v:Int),4,x⟩:MLit)]).testBit i=true:=by
   unfold zAC ofP at hw
   rw[zAY vs hv] at hw
   simp only[Bool.and_eq_true,decide_eq_true_eq] at hw
   unfold zAF ofP
   rw[zAY vs hv]
   simp only[Bool.and_eq_true,decide_eq_true_eq]
   refine⟨hw.1,hw.2.1,?_⟩
   unfold oneB
   simp only[List.any_cons,List.any_nil,Bool.or_false,Bool.and_eq_true,decide_eq_true_eq,hiv,true_and]
   unfold litV
   simpa using fun h=>hxy h.symm
  simp[h4] at h3
theorem zKh (vs:List MVar) (pt:List (List Nat)) (s:Sk) (h:(zBL vs pt s).1=0):(zBL vs pt s).2.fuel+1=s.fuel:=by
 unfold zBL at h ⊢
 split
 ·rename_i hc;rw[if_pos hc] at h;cases h
 ·rename_i h0
  rw[if_neg h0] at h
  split
  ·rename_i hc;rw[if_pos hc] at h;cases h
  ·rename_i h1
   rw[if_neg h1] at h
   split
   ·rename_i hc;rw[if_pos hc] at h;cases h
   ·show s.fuel - 1+1=s.fuel
    omega
theorem zEA (vs:List MVar) (pt:List (List Nat)) (s:Sk) (h:(zBL vs pt s).1=0):zCj vs (zBL vs pt s).2<zCj vs s:=by
 have h1:=zKh vs pt s h
 have h2:zMD vs (zBL vs pt s).2.path≤36:=zMB _
 unfold zCj
 omega
theorem zFI (vs:List MVar) (hv:zAa vs) (pt:List (List Nat)) (s:Sk) (h:¬zBX (zAe vs (zAl vs pt s))<0):zCj vs (zEt (zAe vs (zAl vs pt s)) s)<zCj vs s:=by
 have:=zNS vs hv pt s h
 unfold zCj
 show s.fuel * 40+_<_
 omega
theorem zGD (vs:List MVar) (hv:zAa vs) (pt:List (List Nat)):∀(f g:Nat) (s:Sk),zCj vs s<f→zCj vs s<g→zMC vs pt f s=zMC vs pt g s
 | 0,g,s,hf,hg=>by omega
 | f+1,0,s,hf,hg=>by omega
 | f+1,g+1,s,hf,hg=>by
   unfold zMC
   split
   ·split
    ·rename_i h
     have:=zEA vs pt s h
     exact zGD vs hv pt f g _ (by omega) (by omega)
    ·rfl
   ·split
    ·rfl
    ·rename_i h
     have:=zFI vs hv pt s h
     exact zGD vs hv pt f g _ (by omega) (by omega)
theorem zGE (vs:List MVar) (hv:zAa vs) (pt:List (List Nat)) (s:Sk):zAV vs pt s =
 if zAl vs pt s=0 then (if (zBL vs pt s).1=0 then zAV vs pt (zBL vs pt s).2 else ((zBL vs pt s).1,[],(zBL vs pt s).2))
 else if zBX (zAe vs (zAl vs pt s))<0 then (1,(zAe vs (zAl vs pt s)).flatten,s)
 else zAV vs pt (zEt (zAe vs (zAl vs pt s)) s):=by
 conv=>lhs;unfold zAV zMC
 split
 ·split
  ·rename_i h
   have:=zEA vs pt s h
   exact zGD vs hv pt _ _ _ (by omega) (by omega)
  ·rfl
 ·split
  ·rfl
  ·rename_i h
   have:=zFI vs hv pt s h
   exact zGD vs hv pt _ _ _ (by omega) (by omega)
def zHn (vs:List MVar) (c:Cla):Prop:=∀k,k≤c.length→k+zMD vs (c.take k)≤36
theorem zRg (vs:List MVar):zHn vs []:=fun k hk=>by
 have:k=0:=by simpa using hk
 subst this
 have:=zMB (zAK (zAC vs) (zAF vs ([].take 0)))
 unfold zMD
 omega
theorem zNT (vs:List MVar) (c:Cla) (h:zHn vs c):c.length≤36:=by
 have:=h c.length (Nat.le_refl _)
 omega
theorem zPq (vs:List MVar) (c:Cla) (h:zHn vs c) (n:Nat):zHn vs (c.take n):=fun k hk=>by
 rw[List.length_take] at hk
 rw[List.take_take,Nat.min_eq_left (by omega)]
 exact h k (by omega)
theorem zRh (vs:List MVar) (hv:zAa vs) (pt:List (List Nat)) (s:Sk) (hp:zHn vs s.path) (h:¬zBX (zAe vs (zAl vs pt s))<0):zHn vs (zEt (zAe vs (zAl vs pt s)) s).path:=fun k hk=>by
 have h1:=zNS vs hv pt s h
 unfold zEt at *
 simp only at *
 rw[List.length_append,List.length_singleton] at hk
 by_cases he:k≤s.path.length
 ·rw[List.take_append_of_le_length he]
  exact hp k he
 ·have:k=s.path.length+1:=by omega
  subst this
  rw[List.take_of_length_le (by simp)]
  have:=hp s.path.length (Nat.le_refl _)
  rw[List.take_length] at this
  omega
theorem zMG (x l:MLit):zPn x l=true↔x=l:=by
 unfold zPn
 rw[Bool.and_eq_true,Bool.and_eq_true,decide_eq_true_eq,decide_eq_true_eq,decide_eq_true_eq]
 constructor
 ·rintro ⟨h1,h2,h3⟩;cases x;cases l;simp_all
 ·rintro rfl;exact⟨rfl,rfl,rfl⟩
theorem zPr (l:MLit):∀c:Cla,l∈c→idxL l c<c.length
 | [],h=>by cases h
 | x :: r,h=>by
   unfold idxL
   split
   ·simp
   ·rename_i hn
    rcases List.mem_cons.1 h with rfl | h
    ·exact absurd ((zMG l l).2 rfl) hn
    ·have:=zPr l r h
     rw[List.length_cons];omega
theorem zI2 (vs:List MVar) (cs:List Nat) (pt:List (List Nat)) (c:Cla) (x:MLit) (h:x∈zCH vs cs pt c):x∈c:=zGB _ x _ c h
theorem zI3 (vs:List MVar) (cs:List Nat) (pt:List (List Nat)) (c:Cla):(zCH vs cs pt c).length≤c.length:=zHl _ _ c
theorem zKi (c:Cla) (h:c.length≠0):zKg c∈c:=by
 unfold zKg
 rw[List.getD_eq_getElem?_getD,List.getElem?_eq_getElem (by omega)]
 exact List.getElem_mem _
end Go.Proofs.YtdjbejlbmaiocagGreatDoor
