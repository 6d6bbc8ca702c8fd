/- What the proof leans on, part 10. -/
import Derived.Test.YtdjbejlbmaiocagGreatDoorPartAi
namespace Go.Proofs.YtdjbejlbmaiocagGreatDoor
def zCh (p:Nat):List Nat→Nat×Nat×Bool→Nat×Nat×Bool
 | [],s=>s
 | q :: r,s=>zCh p r (if zAL q p=0 then (q,s.2.1 ||| q,true) else s)
def clrN:Nat→Nat→Nat→Nat
 | 0,_,p=>p
 | f+1,s,p=>if s=0 then p else clrN f (zAL s (zAl s)) (zAL p (zAl s))
def zBd (pts:List Nat) (p:Nat):Nat :=
 if (zCh p pts (0,0,false)).2.2 then clrN ((zCh p pts (0,0,false)).1+1) (zCh p pts (0,0,false)).1 p ||| (zCh p pts (0,0,false)).2.1 else 0
theorem zBk (q p:Nat):zAL q p=0↔∀i,q.testBit i=true→p.testBit i=true:=by
 constructor
 ·intro h i hi
  have:=congrArg (fun z=>Nat.testBit z i) h
  simp only[zAR,hi,Nat.zero_testBit] at this;simpa using this
 ·intro h
  apply Nat.eq_of_testBit_eq;intro i;rw[zAR,Nat.zero_testBit];cases hq:q.testBit i
  ·rfl
  ·rw[h i hq];rfl
theorem zD4 (p:Nat):∀(pts:List Nat) (s:Nat×Nat×Bool),(zCh p pts s).2.2=true↔s.2.2=true∨∃q∈pts,zAL q p=0
 | [],s=>by simp[zCh]
 | q :: r,s=>by
   unfold zCh;rw[zD4 p r];by_cases h:zAL q p=0
   ·rw[if_pos h]
    simp[h]
   ·rw[if_neg h]
    simp[h]
theorem zEe (p:Nat) (i:Nat):∀(pts:List Nat) (s:Nat×Nat×Bool),(zCh p pts s).2.1.testBit i=true↔s.2.1.testBit i=true∨∃q∈pts,zAL q p=0∧q.testBit i=true
 | [],s=>by simp[zCh]
 | q :: r,s=>by
   unfold zCh;rw[zEe p i r];by_cases h:zAL q p=0
   ·rw[if_pos h]
    simp only[Nat.testBit_or,Bool.or_eq_true,List.mem_cons,exists_eq_or_imp,h,true_and,or_assoc]
   ·rw[if_neg h]
    simp[h]
theorem zDO (p:Nat):∀(pts:List Nat) (s:Nat×Nat×Bool),(zCh p pts s).1=s.1∨(zCh p pts s).1∈pts∧zAL (zCh p pts s).1 p=0
 | [],s=>Or.inl rfl
 | q :: r,s=>by
   unfold zCh;rcases zDO p r (if zAL q p=0 then (q,s.2.1 ||| q,true) else s) with h | h
   ·by_cases hq:zAL q p=0
    ·right
     rw[h,if_pos hq];exact⟨List.mem_cons_self ..,hq⟩
    ·left
     rw[h,if_neg hq]
   ·exact Or.inr ⟨List.mem_cons_of_mem _ h.1,h.2⟩
theorem zBL (s i:Nat):(zAl s).testBit i=decide (i / 6=Lib.ctz 64 s / 6):=zHx _ _
theorem zDr (s:Nat) (h0:s≠0) (h:s<2 ^ 36):zAL s (zAl s)<s:=by
 have hb:=(zEJ s h0 (by omega) (Lib.ctz 64 s)).2.1 rfl
 have h1:=zHw s (zAl s);have h2:zAL s (zAl s)≠s:=fun he=>by
  have:=congrArg (fun z=>Nat.testBit z (Lib.ctz 64 s)) he
  simp only[zAR,zBL,hb] at this;simp at this
 omega
theorem zNj:∀(f g s p:Nat),s<f→s<g→s<2 ^ 36→clrN f s p=clrN g s p
 | 0,g,s,p,hf,hg,_=>by omega
 | f+1,0,s,p,hf,hg,_=>by omega
 | f+1,g+1,s,p,hf,hg,h=>by
   unfold clrN
   split
   ·rfl
   ·rename_i h0
    have:=zDr s h0 h;exact zNj f g _ _ (by omega) (by omega) (by omega)
theorem zR1 (s p:Nat) (h0:s≠0) (h:s<2 ^ 36):clrN (s+1) s p=clrN (zAL s (zAl s)+1) (zAL s (zAl s)) (zAL p (zAl s)):=by
 conv=>lhs;unfold clrN
 rw[if_neg h0];have:=zDr s h0 h;exact zNj _ _ _ _ (by omega) (by omega) (by omega)
theorem zH2 (i:Nat):∀(f s p:Nat),s<f→s<2 ^ 36→((clrN f s p).testBit i=true↔p.testBit i=true∧∀j,s.testBit j=true→j / 6≠i / 6)
 | 0,s,p,hf,_=>by omega
 | f+1,s,p,hf,h=>by
   unfold clrN;by_cases h0:s=0
   ·rw[if_pos h0,h0]
    simp
   ·rw[if_neg h0]
    have hlt:=zDr s h0 h;have hb:=(zEJ s h0 (by omega) (Lib.ctz 64 s)).2.1 rfl
    rw[zH2 i f _ _ (by omega) (by omega)]
    simp only[zAR,zBL,Bool.and_eq_true,Bool.not_eq_true',decide_eq_false_iff_not]
    constructor
    ·rintro ⟨⟨h1,h2⟩,h3⟩
     refine⟨h1,fun j hj he=>?_⟩
     by_cases hk:j / 6=Lib.ctz 64 s / 6
     ·omega
     ·exact h3 j ⟨hj,hk⟩ he
    ·rintro ⟨h1,h2⟩
     refine⟨⟨h1,fun he=>h2 _ hb he.symm⟩,fun j hj he=>h2 j hj.1 he⟩
theorem zEt (pts:List Nat) (p i:Nat) (hp:p<2 ^ 36) (h:(zBd pts p).testBit i=true):p.testBit i=true:=by
 unfold zBd at h
 split at h
 ·rw[Nat.testBit_or,Bool.or_eq_true] at h
  rcases h with h | h
  ·have hs:(zCh p pts (0,0,false)).1<2 ^ 36:=by
    rcases zDO p pts (0,0,false) with h1 | h1
    ·rw[h1];decide
    ·exact Nat.lt_of_le_of_lt (Nat.le_of_testBit ((zBk _ _).1 h1.2)) hp
   exact ((zH2 i _ _ p (Nat.lt_succ_self _) hs).1 h).1
  ·rcases (zEe p i pts _).1 h with h1 | ⟨q,_,h1,h2⟩
   ·simp at h1
   ·exact (zBk _ _).1 h1 i h2
 ·simp at h
theorem zF5 (pts:List Nat) (p:Nat) (hp:p<2 ^ 36):zBd pts p≤p:=Nat.le_of_testBit fun i h=>zEt pts p i hp h
theorem zGP (pts:List Nat) (p:Nat) (hp:p<2 ^ 36):(zCh p pts (0,0,false)).1<2 ^ 36:=by
 rcases zDO p pts (0,0,false) with h1 | h1
 ·rw[h1];decide
 ·exact Nat.lt_of_le_of_lt (Nat.le_of_testBit ((zBk _ _).1 h1.2)) hp
theorem zH3 (i:Nat):∀(cs:List Nat) (left l:Nat),zAp cs left=some l→l.testBit i=true→left.testBit i=true
 | [],left,l,h,hi=>by simp[zAp] at h;rw[h];exact hi
 | c :: r,left,l,h,hi=>by
   unfold zAp at h
   split at h
   ·cases h
   ·split at h
    ·have:=zH3 i r _ l h hi
     rw[zAR,Bool.and_eq_true] at this;exact this.1
    ·exact zH3 i r _ l h hi
theorem zJU (cs:List Nat) (i:Nat):∀(f left:Nat),(zBQ cs f left).testBit i=true→left.testBit i=true
 | 0,left,h=>h
 | f+1,left,h=>by
   unfold zBQ at h;cases hr:zAp cs left with
   | none=>rw[hr] at h;simp at h
   | some l =>
     rw[hr] at h;simp only at h
     split at h
     ·exact h
     ·exact zH3 i cs left l hr (zJU cs i f l h)
theorem zDh (vs:List MVar) (cs:List Nat) (p i:Nat) (h:(zAf vs cs p).testBit i=true):p.testBit i=true:=by
 unfold zAf at h
 split at h
 ·simp at h
 ·exact zJU cs i _ _ h
theorem zFD (vs:List MVar) (hv:zAd vs) (c:MCon):∀(r u:List Int) (a p:Nat),p∈zAs vs c r u a→∀i,p.testBit i=true→a.testBit i=true∨∃v∈r,i / 6=v.toNat
 | [],u,a,p,hp=>by
   intro i hi;unfold zAs at hp
   split at hp
   ·rw[List.mem_singleton.1 hp] at hi;exact Or.inl hi
   ·cases hp
 | v :: r,u,a,p,hp=>by
   intro i hi;unfold zAs at hp;obtain⟨x,hx,hp⟩:=List.mem_flatMap.1 hp;rcases zFD vs hv c r _ _ p hp i hi with h | ⟨w,hw,he⟩
   ·rw[Nat.testBit_or,Bool.or_eq_true,zCf] at h
    rcases h with h | h
    ·exact Or.inl h
    ·right
     refine⟨v,List.mem_cons_self ..,?_⟩;have h1:6 * v.toNat+(x - (zAK vs v.toNat).lo).toNat=i:=by simpa using h
     obtain⟨b1,b2⟩:=(zEK _ _ _).1 hx;have h6:=hv.2 v.toNat;unfold zB8 at h6;omega
   ·exact Or.inr ⟨w,List.mem_cons_of_mem _ hw,he⟩
theorem zR2 (vs:List MVar) (hv:zAd vs) (c:MCon) (hsc:∀v∈zBN c,0≤v∧v<(vs.length:Int)) (hl:c.kind=10→c.lits≠[]) (vals:List Int) (hm:zD2 vs vals) (hh:zA0 c vals=true) :
 ∃p∈zAM vs c,(∀i,p.testBit i=true→∃v:Nat,v<vs.length∧i=posV vs vals v)∧∀v∈zBN c,p.testBit (posV vs vals v.toNat)=true:=by
 obtain⟨p,hp,hb⟩:=zF3 vs c vals hm (zBN c) (zBs vs.length) 0 hsc (by simp[zBs]) (fun u' _ h2 _=>by rw[zF1 c u' vals h2 hl];exact hh)
 have hb':∀i,p.testBit i=true→∃v:Nat,v<vs.length∧i=posV vs vals v:=fun i hi=>by
  rcases hb i hi with h | h
  ·simp at h
  ·exact h
 refine⟨p,hp,hb',fun v hvs=>?_⟩
 obtain⟨u,l1,l2,l3,l4,_,l6⟩:=zEs vs c _ _ _ p hsc (by simp[zBs]) hp
 have h1:=l6 v hvs;obtain⟨v',hv',he⟩:=hb' _ h1;have h6:=hv.2 v.toNat;have h3:=l3 v hvs;have h7:=(zD3 vs hv vals hm v' hv').1;have h8:=hsc v hvs;unfold zB8 at h6;have:v'=v.toNat:=by omega
 rw[he,this] at h1;exact h1
theorem zOa (vs:List MVar) (hv:zAd vs) (c:MCon) (hsc:∀v∈zBN c,0≤v∧v<(vs.length:Int)) (hl:c.kind=10→c.lits≠[]) (vals:List Int) (hm:zD2 vs vals) (hh:zA0 c vals=true) (p:Nat) (hp36:p<2 ^ 36) (hw:zB5 vs vals p) :
 zB5 vs vals (zBd (zAM vs c) p):=by
 obtain⟨q,hq,h1,h2⟩:=zR2 vs hv c hsc hl vals hm hh;have hz:zAL q p=0:=(zBk _ _).2 fun i hi=>by
  obtain⟨v,hvl,rfl⟩:=h1 i hi;exact hw v hvl
 have hf:=(zD4 p (zAM vs c) (0,0,false)).2 (Or.inr ⟨q,hq,hz⟩);intro v hvl;unfold zBd;rw[if_pos hf,Nat.testBit_or,Bool.or_eq_true];by_cases hs:(v:Int)∈zBN c
 ·right
  refine (zEe p _ _ _).2 (Or.inr ⟨q,hq,hz,?_⟩);have:=h2 _ hs;rwa [Int.toNat_natCast] at this
 ·left
  refine (zH2 _ _ _ _ (Nat.lt_succ_self _) (zGP _ _ hp36)).2 ⟨hw v hvl,fun j hj he=>?_⟩
  rw[(zD3 vs hv vals hm v hvl).1] at he;rcases zDO p (zAM vs c) (0,0,false) with h3 | h3
  ·rw[h3] at hj;simp at hj
  ·rcases zFD vs hv c _ _ _ _ h3.1 j hj with h4 | ⟨w,hw2,h4⟩
   ·simp at h4
   ·have:=hsc w hw2
    refine hs ?_;rw[show (v:Int)=w by omega]
    exact hw2
def zBC:List (List Nat)→Nat→Nat
 | [],l=>l
 | pts :: r,l=>if l=0 then l else zBC r (zBd pts l)
def zEE:Nat→List (List Nat)→Nat→List (Nat×Nat×Nat)
 | _,[],_=>[]
 | k,pts :: r,l=>if l=0 then [] else (if zBd pts l=l then [] else [(k,l,zBd pts l)])++zEE (k+1) r (zBd pts l)
def zBW (vs:List MVar) (cs:List Nat) (pt:List (List Nat)):Nat→Nat→Nat
 | 0,l=>l
 | f+1,l=>if zBC pt (zAf vs cs l)=l then l else zBW vs cs pt f (zBC pt (zAf vs cs l))
def zCF (vs:List MVar) (cs:List Nat) (pt:List (List Nat)):Nat→Nat→List (Nat×Nat×Nat)
 | 0,_=>[]
 | f+1,l=>zEE 0 pt (zAf vs cs l)++if zBC pt (zAf vs cs l)=l then [] else zCF vs cs pt f (zBC pt (zAf vs cs l))
def zBe (vs:List MVar) (cs:List Nat) (pt:List (List Nat)) (h:Nat):Nat :=
 if zAL (zAD vs) h=0 then 0 else zBW vs cs pt (zAL (zAD vs) h+1) (zAL (zAD vs) h)
def zH4 (vs:List MVar) (cs:List Nat) (pt:List (List Nat)) (h:Nat):List (Nat×Nat×Nat) :=
 if zAL (zAD vs) h=0 then [] else zCF vs cs pt (zAL (zAD vs) h+1) (zAL (zAD vs) h)
theorem zGQ:∀(pt:List (List Nat)) (l:Nat),l<2 ^ 36→zBC pt l≤l
 | [],l,_=>Nat.le_refl _
 | pts :: r,l,h=>by
   unfold zBC
   split
   ·exact Nat.le_refl _
   ·have h1:=zF5 pts l h
    exact Nat.le_trans (zGQ r _ (by omega)) h1
theorem zFE (vs:List MVar) (cs:List Nat) (pt:List (List Nat)) (l:Nat) (h:l<2 ^ 36):zBC pt (zAf vs cs l)≤l:=by
 have h1:=zDq vs cs l;exact Nat.le_trans (zGQ pt _ (by omega)) h1
theorem zH5 (vs:List MVar) (cs:List Nat) (pt:List (List Nat)):∀(f g l:Nat),l<f→l<g→l<2 ^ 36→zBW vs cs pt f l=zBW vs cs pt g l∧zCF vs cs pt f l=zCF vs cs pt g l
 | 0,g,l,hf,hg,_=>by omega
 | f+1,0,l,hf,hg,_=>by omega
 | f+1,g+1,l,hf,hg,h=>by
   unfold zBW zCF
   split
   ·exact⟨rfl,rfl⟩
   ·have:=zFE vs cs pt l h
    obtain⟨h1,h2⟩:=zH5 vs cs pt f g (zBC pt (zAf vs cs l)) (by omega) (by omega) (by omega)
    exact⟨h1,by rw[h2]⟩
theorem zMY (vs:List MVar) (cs:List Nat) (pt:List (List Nat)) (l:Nat) (h:l<2 ^ 36) :
 zBW vs cs pt (l+1) l=(if zBC pt (zAf vs cs l)=l then l else zBW vs cs pt (zBC pt (zAf vs cs l)+1) (zBC pt (zAf vs cs l))) ∧
 zCF vs cs pt (l+1) l=zEE 0 pt (zAf vs cs l)++if zBC pt (zAf vs cs l)=l then [] else zCF vs cs pt (zBC pt (zAf vs cs l)+1) (zBC pt (zAf vs cs l)):=by
 by_cases he:zBC pt (zAf vs cs l)=l
 ·constructor
  ·conv=>lhs;unfold zBW
   rw[if_pos he,if_pos he]
  ·conv=>lhs;unfold zCF
   rw[if_pos he,if_pos he]
 ·have:=zFE vs cs pt l h
  obtain⟨h1,h2⟩:=zH5 vs cs pt l (zBC pt (zAf vs cs l)+1) (zBC pt (zAf vs cs l)) (by omega) (by omega) (by omega)
  constructor
  ·conv=>lhs;unfold zBW
   rw[if_neg he,if_neg he,h1]
  ·conv=>lhs;unfold zCF
   rw[if_neg he,if_neg he,h2]
theorem zH6 (vs:List MVar) (hv:zAd vs) (h1:1≤vs.length) (vals:List Int) (hm:zD2 vs vals):∀(pt:List (List Nat)) (l:Nat),l<2 ^ 36→(∀pts∈pt,∀p,p<2 ^ 36→zB5 vs vals p→zB5 vs vals (zBd pts p))→zB5 vs vals l→zB5 vs vals (zBC pt l)
 | [],l,_,_,hw=>hw
 | pts :: r,l,h,hk,hw=>by
   unfold zBC;rw[if_neg (zGO vs h1 vals l hw)];have:=zF5 pts l h;exact zH6 vs hv h1 vals hm r _ (by omega) (fun q hq=>hk q (List.mem_cons_of_mem _ hq)) (hk pts (List.mem_cons_self ..) l h hw)
theorem zGR (vs:List MVar) (hv:zAd vs) (h1:1≤vs.length) (vals:List Int) (hm:zD2 vs vals) (cs:List Nat) (hc:∀c∈cs,Hits vs vals c) (pt:List (List Nat)) (hk:∀pts∈pt,∀p,p<2 ^ 36→zB5 vs vals p→zB5 vs vals (zBd pts p)) :
 ∀(f l:Nat),l<2 ^ 36→zB5 vs vals l→zB5 vs vals (zBW vs cs pt f l)
 | 0,l,_,hw=>hw
 | f+1,l,h,hw=>by
   unfold zBW
   split
   ·exact hw
   ·have h2:=zDq vs cs l
    have h3:=zFE vs cs pt l h;exact zGR vs hv h1 vals hm cs hc pt hk f _ (by omega) (zH6 vs hv h1 vals hm pt _ (by omega) hk (zH0 vs hv vals hm cs hc l hw))
theorem zB6 (vs:List MVar) (hv:zAd vs):zAD vs<2 ^ 36:=zGN vs hv _
theorem zMZ (vs:List MVar) (hv:zAd vs) (h1:1≤vs.length) (vals:List Int) (hm:zD2 vs vals) (cs:List Nat) (hc:∀c∈cs,Hits vs vals c) (pt:List (List Nat)) (hk:∀pts∈pt,∀p,p<2 ^ 36→zB5 vs vals p→zB5 vs vals (zBd pts p))
 (h:Nat) (hz:zBe vs cs pt h=0):Hits vs vals h:=by
 apply Classical.byContradiction;intro hn;have hw:=zF2 vs hv vals hm h hn;unfold zBe at hz;rw[if_neg (zGO vs h1 vals _ hw)] at hz;exact zGO vs h1 vals _ (zGR vs hv h1 vals hm cs hc pt hk _ _ (zCe 36 _ _ (zB6 vs hv)) hw) hz
theorem zF6 (f g:Nat→Bool) (h:∀i,g i=true→f i=true):∀l:List Nat,(l.filter f).length=(l.filter g).length+(l.filter fun i=>f i&&!g i).length
 | []=>rfl
 | a :: r=>by
   have ih:=zF6 f g h r;rw[List.filter_cons,List.filter_cons,List.filter_cons];cases hf:f a <;> cases hg:g a
   ·simpa using ih
   ·rw[h a hg] at hf;cases hf
   ·simp;omega
   ·simp;omega
def zF7 (p:Nat):Nat:=(zEQ p).length
theorem zMa (p:Nat):zF7 p≤36:=by
 unfold zF7 zEQ;exact Nat.le_trans (List.length_filter_le _ _) (by simp)
theorem zNk (a b:Nat) (h:∀i,a.testBit i=true→b.testBit i=true):zF7 a≤zF7 b:=by
 unfold zF7 zEQ;rw[zF6 (fun i=>b.testBit i) (fun i=>a.testBit i) h]
 omega
theorem zK2 (a b:Nat) (hb:b<2 ^ 36) (h:∀i,a.testBit i=true→b.testBit i=true) (hne:a≠b):zF7 a+1≤zF7 b:=by
 unfold zF7 zEQ;rw[zF6 (fun i=>b.testBit i) (fun i=>a.testBit i) h]
 have:((List.range 36).filter fun i=>b.testBit i&&!a.testBit i)≠[]:=fun hn=>by
  refine hne (Nat.eq_of_testBit_eq fun i=>?_)
  by_cases hi:i<36
  ·have:=List.filter_eq_nil_iff.1 hn i (List.mem_range.2 hi)
   cases ha:a.testBit i <;> cases hbb:b.testBit i
   ·rfl
   ·rw[ha,hbb] at this;simp at this
   ·rw[h i ha] at hbb;cases hbb
   ·rfl
  ·have h1:b.testBit i=false:=Nat.testBit_lt_two_pow (Nat.lt_of_lt_of_le hb (Nat.pow_le_pow_right (by omega) (by omega)))
   cases ha:a.testBit i
   ·exact h1.symm
   ·rw[h i ha] at h1;cases h1
 have:=List.length_pos_iff.2 this;omega
def zA4 {α:Type} (enough:List α→Bool):Nat→List α→List α
 | 0,out=>out
 | k+1,out=>zA4 enough k (if enough (out.eraseIdx k) then out.eraseIdx k else out)
theorem zFF {α:Type} (enough:List α→Bool):∀(k:Nat) (out:List α),enough out=true→enough (zA4 enough k out)=true
 | 0,out,h=>h
 | k+1,out,h=>by
   unfold zA4;apply zFF
   split
   ·assumption
   ·exact h
theorem zGS {α:Type} (enough:List α→Bool) (x:α):∀(k:Nat) (out:List α),x∈zA4 enough k out→x∈out
 | 0,out,h=>h
 | k+1,out,h=>by
   unfold zA4 at h;have:=zGS enough x k _ h
   split at this
   ·exact List.mem_of_mem_eraseIdx this
   ·exact this
theorem zH7 {α:Type} (enough:List α→Bool):∀(k:Nat) (out:List α),(zA4 enough k out).length≤out.length
 | 0,out=>Nat.le_refl _
 | k+1,out=>by
   unfold zA4;refine Nat.le_trans (zH7 enough k _) ?_
   split
   ·exact List.length_eraseIdx_le ..
   ·exact Nat.le_refl _
def whyP (vs:List MVar) (pts:List Nat) (any:Cla) (gone:Nat):Cla:=any++zBj vs (zCu (fun g=>zCy vs pts (zAH vs any ||| g)) (gone+1) gone gone)
def zC2 (vs:List MVar) (con:Nat) (c:Cla):MStep×Nat:=(⟨1,(con:Int),c⟩,zAH vs c)
def zBD (vs:List MVar) (pt:List (List Nat)) (t:Nat×Nat×Nat):List (MStep×Nat) :=
 if t.2.2=0 then [zC2 vs t.1 (whyP vs (pt.getD t.1 []) [] (zAL (zAD vs) t.2.1))]
 else (zBj vs (zAL t.2.1 t.2.2)).map fun l=>zC2 vs t.1 (whyP vs (pt.getD t.1 []) [⟨l.var,4,l.n⟩] (zAL (zAD vs) t.2.1))
def zAz (vs:List MVar) (cs:List Nat) (pt:List (List Nat)) (h:Nat):List (MStep×Nat):=(zH4 vs cs pt h).flatMap (zBD vs pt)
def zCU (vs:List MVar) (cs:List Nat) (h:Nat) (some:List (MStep×Nat)):Bool:=zDf vs (cs++some.map (·.2)) h
def zFG (vs:List MVar) (cs:List Nat) (pt:List (List Nat)) (c:Cla):List MStep :=
 (zA4 (zCU vs cs (zAH vs c)) (zAz vs cs pt (zAH vs c)).length (zAz vs cs pt (zAH vs c))).map (·.1)++[⟨2,0,c⟩]
def zBM (vs:List MVar) (cs:List Nat) (pt:List (List Nat)) (c:Cla):Bool:=zBe vs cs pt (zAH vs c)==0
def zCX (vs:List MVar) (cs:List Nat) (pt:List (List Nat)) (c:Cla):Cla:=zA4 (zBM vs cs pt) c.length c
def ptsM (m:Mod):List (List Nat):=m.cons.map (zAM m.vars)
theorem zOb (m:Mod) (hm:zAF m=0) (vals:List Int) (hv:zD2 m.vars vals) (hc:∀c∈m.cons,zA0 c vals=true):∀pts∈ptsM m,∀p,p<2 ^ 36→zB5 m.vars vals p→zB5 m.vars vals (zBd pts p):=by
 intro pts hp p h36 hw;obtain⟨c,hcm,rfl⟩:=List.mem_map.1 hp;obtain⟨j,hj,he⟩:=List.getElem_of_mem hcm;obtain⟨k1,k2⟩:=zFd m hm j c (by rw[List.getElem?_eq_getElem hj,he])
 exact zOa m.vars (zAg m hm) c k1 k2 vals hv (hc c hcm) p h36 hw
theorem zKN (m:Mod) (hm:zAF m=0) (vals:List Int) (hv:zD2 m.vars vals) (hc:∀c∈m.cons,zA0 c vals=true) (cs:List Nat) (hh:∀c∈cs,Hits m.vars vals c) (c:Cla) (hz:zBM m.vars cs (ptsM m) c=true):Hits m.vars vals (zAH m.vars c):=by
 unfold zBM at hz;exact zMZ m.vars (zAg m hm) (zEq m hm) vals hv cs hh (ptsM m) (zOb m hm vals hv hc) _ (by simpa using hz)
def zB7:Cla→Sto→Sto
 | [],s=>s
 | l :: r,s=>zB7 r (s.set l.var.toNat (s.getD l.var.toNat []++[l.n]))
def zAh (vs:List MVar) (p:Nat):Sto:=zB7 (zBj vs p) (List.replicate vs.length [])
def fewF (s:Sto):Nat→List (List Int)→Int→Int
 | _,[],b=>b
 | v,x :: r,b=>fewF s (v+1) r (if 1<x.length∧(b<0∨x.length<(s.getD b.toNat []).length) then (v:Int) else b)
def zBf (s:Sto):Int:=fewF s 0 s (-1)
def zP0 (x l:MLit):Bool:=decide (x.var=l.var)&&(decide (x.op=l.op)&&decide (x.n=l.n))
def idxL (l:MLit):Cla→Nat
 | []=>0
 | x :: r=>if zP0 l x then 0 else idxL l r+1
structure Sk where
 cs:List Nat
 fuel:Nat
 proof:List MStep
 path:Cla
def zAe (vs:List MVar):List MStep→List MStep→List MStep
 | [],p=>p
 | t :: r,p=>zAe vs r (if (p.map fun x=>zAH vs x.cla).contains (zAH vs t.cla) then p else p++[t])
def zK3 (c:Cla):MLit:=c.getD (c.length - 1) zUN
def zBV (vs:List MVar) (pt:List (List Nat)) (s:Sk):Int×Sk :=
 if s.fuel=0 then (3,s)
 else if 6000<(zAe vs (zFG vs s.cs pt (zCX vs s.cs pt s.path)) s.proof).length then (3,⟨s.cs,s.fuel - 1,zAe vs (zFG vs s.cs pt (zCX vs s.cs pt s.path)) s.proof,s.path⟩)
 else if (zCX vs s.cs pt s.path).length=0 then (2,⟨s.cs,s.fuel - 1,zAe vs (zFG vs s.cs pt (zCX vs s.cs pt s.path)) s.proof,s.path⟩)
 else (0,⟨s.cs++[zAH vs (zCX vs s.cs pt s.path)],s.fuel - 1,zAe vs (zFG vs s.cs pt (zCX vs s.cs pt s.path)) s.proof,s.path.take (idxL (zK3 (zCX vs s.cs pt s.path)) s.path)⟩)
def zAt (vs:List MVar) (pt:List (List Nat)) (s:Sk):Nat:=zBe vs s.cs pt (zAH vs s.path)
def zP1 (st:Sto):MLit:=⟨zBf st,4,(st.getD (zBf st).toNat []).getD 0 0⟩
def zFH (st:Sto) (s:Sk):Sk:=⟨s.cs,s.fuel,s.proof,s.path++[zP1 st]⟩
def zMb (vs:List MVar) (pt:List (List Nat)):Nat→Sk→Int×List Int×Sk
 | 0,s=>(0,[],s)
 | n+1,s =>
   if zAt vs pt s=0 then
    (if (zBV vs pt s).1=0 then zMb vs pt n (zBV vs pt s).2 else ((zBV vs pt s).1,[],(zBV vs pt s).2))
   else if zBf (zAh vs (zAt vs pt s))<0 then (1,(zAh vs (zAt vs pt s)).flatten,s)
   else zMb vs pt n (zFH (zAh vs (zAt vs pt s)) s)
def zMc (vs:List MVar) (c:Cla):Nat:=zF7 (zAL (zAD vs) (zAH vs c))
def zDF (vs:List MVar) (s:Sk):Nat:=s.fuel * 40+zMc vs s.path
def zAa (vs:List MVar) (pt:List (List Nat)) (s:Sk):Int×List Int×Sk:=zMb vs pt (zDF vs s+1) s
theorem zJV:∀(c:Cla) (s:Sto),(zB7 c s).length=s.length
 | [],s=>rfl
 | l :: r,s=>by unfold zB7;rw[zJV r];simp
theorem zFf (vs:List MVar) (p:Nat):(zAh vs p).length=vs.length:=by unfold zAh;rw[zJV];simp
theorem zJW (v:Nat):∀(c:Cla) (s:Sto),v<s.length→(zB7 c s).getD v []=s.getD v []++(c.filter fun l=>l.var.toNat==v).map (·.n)
 | [],s,_=>by simp[zB7]
 | l :: r,s,h=>by
   unfold zB7;rw[zJW v r _ (by simpa using h)]
   by_cases he:l.var.toNat=v
   ·subst he
    rw[List.filter_cons];simp[List.getD_eq_getElem?_getD,h]
   ·rw[List.filter_cons]
    simp[List.getD_eq_getElem?_getD,he]
theorem zJX (vs:List MVar) (p v:Nat) (h:v<vs.length):(zAh vs p).getD v []=((zEQ p).filter fun i=>i / 6==v).map fun i=>(zAK vs v).lo+((i % 6:Nat):Int):=by
 unfold zAh;rw[zJW v _ _ (by simpa using h)]
 unfold zBj;rw[List.filter_map,List.map_map];have:(List.replicate vs.length ([]:List Int)).getD v []=[]:=by simp[List.getD_eq_getElem?_getD,h]
 rw[this,List.nil_append];have e:((fun l:MLit=>l.var.toNat==v) ∘ fun i:Nat=>(⟨((i / 6:Nat):Int),3,(zAK vs (i / 6)).lo+((i % 6:Nat):Int)⟩:MLit))=fun i:Nat=>i / 6==v:=by
  funext i
  show ((((i / 6:Nat):Int)).toNat==v)=_;rw[Int.toNat_natCast]
 rw[e];apply List.map_congr_left;intro i hi;have:=(List.mem_filter.1 hi).2;have:i / 6=v:=by simpa using this
 simp[this]
theorem zMd (p:Nat):(zEQ p).Nodup:=by
 unfold zEQ;exact List.Pairwise.filter _ List.nodup_range
theorem zHJ (vs:List MVar) (p v:Nat) (h:v<vs.length):((zAh vs p).getD v []).Nodup:=by
 rw[zJX vs p v h];have hn:=List.Pairwise.filter (fun i=>i / 6==v) (zMd p)
 refine List.Pairwise.map _ (fun a b hab=>?_) (List.Pairwise.imp_of_mem ?_ hn (S:=fun a b:Nat=>a≠b∧a / 6=v∧b / 6=v))
 ·intro he
  have:a % 6=b % 6:=by omega
  have:=hab;omega
 ·intro a b ha hb hab
  exact⟨hab,by simpa using (List.mem_filter.1 ha).2,by simpa using (List.mem_filter.1 hb).2⟩
theorem zFg (vs:List MVar) (p v:Nat) (h:v<vs.length) (x:Int):x∈(zAh vs p).getD v []↔∃i,i<36∧p.testBit i=true∧i / 6=v∧x=(zAK vs v).lo+((i % 6:Nat):Int):=by
 rw[zJX vs p v h,List.mem_map]
 constructor
 ·rintro ⟨i,hi,rfl⟩
  obtain⟨h1,h2⟩:=List.mem_filter.1 hi;unfold zEQ at h1;obtain⟨h3,h4⟩:=List.mem_filter.1 h1;exact⟨i,List.mem_range.1 h3,h4,by simpa using h2,rfl⟩
 ·rintro ⟨i,h1,h2,h3,rfl⟩
  exact⟨i,List.mem_filter.2 ⟨(zKM p i h1).2 h2,by simpa using h3⟩,rfl⟩
theorem zGT (s:Sto):∀(r:List (List Int)) (v:Nat) (b:Int),v+r.length=s.length→(∀k,r[k]? = s[v+k]?)→(b<0∨(0≤b∧b<(s.length:Int)∧1<(s.getD b.toNat []).length)) →
 (fewF s v r b<0→b<0∧∀x∈r,x.length≤1)∧(¬fewF s v r b<0→fewF s v r b<(s.length:Int)∧1<(s.getD (fewF s v r b).toNat []).length)
 | [],v,b,hl,hr,hb=>by
   unfold fewF;refine⟨fun h=>⟨h,fun x hx=>by cases hx⟩,fun h=>?_⟩
   rcases hb with hb | hb
   ·exact absurd hb h
   ·exact⟨hb.2.1,hb.2.2⟩
 | x :: r,v,b,hl,hr,hb=>by
   unfold fewF;have hx:s[v]? = some x:=by have:=hr 0;simpa using this.symm
   have hg:s.getD v []=x:=by rw[List.getD_eq_getElem?_getD,hx];rfl
   have hl':v+1+r.length=s.length:=by rw[List.length_cons] at hl;omega
   have hr':∀k,r[k]? = s[v+1+k]? := fun k=>by
    have:=hr (k+1);rw[List.getElem?_cons_succ] at this;rw[this];congr 1;omega
   by_cases hc:1<x.length∧(b<0∨x.length<(s.getD b.toNat []).length)
   ·rw[if_pos hc]
    obtain⟨h1,h2⟩:=zGT s r (v+1) (v:Int) hl' hr' (Or.inr ⟨by omega,by rw[List.length_cons] at hl;omega,by rw[Int.toNat_natCast,hg];exact hc.1⟩)
    refine⟨fun h=>?_,h2⟩
    have:=(h1 h).1;omega
   ·rw[if_neg hc]
    obtain⟨h1,h2⟩:=zGT s r (v+1) b hl' hr' hb;refine⟨fun h=>?_,h2⟩
    obtain⟨h3,h4⟩:=h1 h;refine⟨h3,fun y hy=>?_⟩
    rcases List.mem_cons.1 hy with rfl | hy
    ·apply Classical.byContradiction
     intro hn;exact hc ⟨by omega,Or.inl h3⟩
    ·exact h4 y hy
theorem zMe (s:Sto) (h:zBf s<0):∀x∈s,x.length≤1 :=
 ((zGT s s 0 (-1) (by omega) (fun k=>by rw[Nat.zero_add]) (Or.inl (by omega))).1 h).2
theorem zF8 (s:Sto) (h:¬zBf s<0):zBf s<(s.length:Int)∧1<(s.getD (zBf s).toNat []).length :=
 (zGT s s 0 (-1) (by omega) (fun k=>by rw[Nat.zero_add]) (Or.inl (by omega))).2 h
theorem zFI (vs:List MVar) (hv:zAd vs) (a b:Cla) (i:Nat):(zAH vs (a++b)).testBit i=((zAH vs a).testBit i || (zAH vs b).testBit i):=by
 unfold zAH ofP;rw[zAc vs hv,zAc vs hv,zAc vs hv];unfold oneB;rw[List.any_append];cases decide (i / 6<vs.length) <;> cases decide (i % 6<zB8 (zAK vs (i / 6))) <;> simp
theorem zH8 (vs:List MVar) (cs:List Nat) (pt:List (List Nat)) (i:Nat):∀(f l:Nat),l<2 ^ 36→(zBW vs cs pt f l).testBit i=true→l.testBit i=true
 | 0,l,_,h=>h
 | f+1,l,hl,h=>by
   unfold zBW at h
   split at h
   ·exact h
   ·have h1:=zFE vs cs pt l hl
    have h2:=zH8 vs cs pt i f _ (by omega) h
    have h3:=zDq vs cs l;refine zDh vs cs l i ?_;have:∀(pt:List (List Nat)) (q:Nat),q<2 ^ 36→(zBC pt q).testBit i=true→q.testBit i=true:=by
     intro pt
     induction pt with
     | nil=>intro q _ h;exact h
     | cons pts r ih =>
       intro q hq h;unfold zBC at h
       split at h
       ·exact h
       ·have:=zF5 pts q hq
        exact zEt pts q i hq (ih _ (by omega) h)
    exact this pt _ (by omega) h2
theorem zEf (vs:List MVar) (hv:zAd vs) (cs:List Nat) (pt:List (List Nat)) (h i:Nat) (hi:(zBe vs cs pt h).testBit i=true):(zAD vs).testBit i=true∧h.testBit i=false:=by
 unfold zBe at hi
 split at hi
 ·simp at hi
 ·have:=zH8 vs cs pt i _ _ (zCe 36 _ _ (zB6 vs hv)) hi
  rw[zAR,Bool.and_eq_true,Bool.not_eq_true'] at this;exact this
theorem zP2 (vs:List MVar) (hv:zAd vs) (cs:List Nat) (pt:List (List Nat)) (h:Nat):zBe vs cs pt h<2 ^ 36:=by
 refine Nat.lt_of_le_of_lt (Nat.le_of_testBit fun i hi=>(zEf vs hv cs pt h i hi).1) (zB6 vs hv)
theorem zNl (vs:List MVar) (hv:zAd vs) (pt:List (List Nat)) (s:Sk) (h:¬zBf (zAh vs (zAt vs pt s))<0):zMc vs (zFH (zAh vs (zAt vs pt s)) s).path+1≤zMc vs s.path:=by
 obtain⟨h1,h2⟩:=zF8 _ h;obtain⟨f,hf⟩:∃f,zBf (zAh vs (zAt vs pt s))=f:=⟨_,rfl⟩;unfold zFH zP1;rw[hf] at h h1 h2 ⊢;rw[zFf] at h1;obtain⟨v,rfl⟩:∃v:Nat,f=(v:Int):=⟨f.toNat,by omega⟩
 rw[Int.toNat_natCast] at h2 ⊢;have hvl:v<vs.length:=by omega
 have hnd:=zHJ vs (zAt vs pt s) v hvl;obtain⟨x,y,t,ht⟩:∃x y t,(zAh vs (zAt vs pt s)).getD v []=x :: y :: t:=by
  match hr:(zAh vs (zAt vs pt s)).getD v [] with
  | []=>rw[hr] at h2;simp at h2
  | [x]=>rw[hr] at h2;simp at h2
  | x :: y :: t=>exact⟨x,y,t,rfl⟩
 have hy:y∈(zAh vs (zAt vs pt s)).getD v []:=by rw[ht];simp
 have hxy:x≠y:=by rw[ht] at hnd;simp at hnd;exact hnd.1.1
 obtain⟨i,hi36,hib,hiv,rfl⟩:=(zFg vs _ v hvl y).1 hy;rw[ht];obtain⟨hw,hn⟩:=zEf vs hv _ _ _ i hib;unfold zMc;refine zK2 _ _ (zCe 36 _ _ (zB6 vs hv)) (fun k hk=>?_) (fun he=>?_)
 ·rw[zAR,Bool.and_eq_true,Bool.not_eq_true',zFI vs hv,Bool.or_eq_false_iff] at hk
  rw[zAR,hk.1,hk.2.1];rfl
 ·have h3:=congrArg (fun z=>Nat.testBit z i) he
  simp only[zAR,zFI vs hv,hw,hn] at h3;have h4:(zAH vs [(⟨(v:Int),4,x⟩:MLit)]).testBit i=true:=by
   unfold zAD ofP at hw;rw[zAc vs hv] at hw;simp only[Bool.and_eq_true,decide_eq_true_eq] at hw;unfold zAH ofP;rw[zAc vs hv];simp only[Bool.and_eq_true,decide_eq_true_eq];refine⟨hw.1,hw.2.1,?_⟩;unfold oneB;simp only[List.any_cons,List.any_nil,Bool.or_false,Bool.and_eq_true,decide_eq_true_eq,hiv,true_and];unfold litV;simpa using fun h=>hxy h.symm
  simp[h4] at h3
theorem zK4 (vs:List MVar) (pt:List (List Nat)) (s:Sk) (h:(zBV vs pt s).1=0):(zBV vs pt s).2.fuel+1=s.fuel:=by
 unfold zBV at h ⊢
 split
 ·rename_i hc;rw[if_pos hc] at h;cases h
 ·rename_i h0
  rw[if_neg h0] at h
  split
  ·rename_i hc;rw[if_pos hc] at h;cases h
  ·rename_i h1
   rw[if_neg h1] at h
   split
   ·rename_i hc;rw[if_pos hc] at h;cases h
   ·show s.fuel - 1+1=s.fuel
    omega
theorem zEg (vs:List MVar) (pt:List (List Nat)) (s:Sk) (h:(zBV vs pt s).1=0):zDF vs (zBV vs pt s).2<zDF vs s:=by
 have h1:=zK4 vs pt s h;have h2:zMc vs (zBV vs pt s).2.path≤36:=zMa _;unfold zDF;omega
theorem zFh (vs:List MVar) (hv:zAd vs) (pt:List (List Nat)) (s:Sk) (h:¬zBf (zAh vs (zAt vs pt s))<0):zDF vs (zFH (zAh vs (zAt vs pt s)) s)<zDF vs s:=by
 have:=zNl vs hv pt s h;unfold zDF;show s.fuel * 40+_<_;omega
theorem zGU (vs:List MVar) (hv:zAd vs) (pt:List (List Nat)):∀(f g:Nat) (s:Sk),zDF vs s<f→zDF vs s<g→zMb vs pt f s=zMb vs pt g s
 | 0,g,s,hf,hg=>by omega
 | f+1,0,s,hf,hg=>by omega
 | f+1,g+1,s,hf,hg=>by
   unfold zMb
   split
   ·split
    ·rename_i h
     have:=zEg vs pt s h;exact zGU vs hv pt f g _ (by omega) (by omega)
    ·rfl
   ·split
    ·rfl
    ·rename_i h
     have:=zFh vs hv pt s h;exact zGU vs hv pt f g _ (by omega) (by omega)
theorem zGV (vs:List MVar) (hv:zAd vs) (pt:List (List Nat)) (s:Sk):zAa vs pt s =
 if zAt vs pt s=0 then (if (zBV vs pt s).1=0 then zAa vs pt (zBV vs pt s).2 else ((zBV vs pt s).1,[],(zBV vs pt s).2))
 else if zBf (zAh vs (zAt vs pt s))<0 then (1,(zAh vs (zAt vs pt s)).flatten,s)
 else zAa vs pt (zFH (zAh vs (zAt vs pt s)) s):=by
 conv=>lhs;unfold zAa zMb
 split
 ·split
  ·rename_i h
   have:=zEg vs pt s h;exact zGU vs hv pt _ _ _ (by omega) (by omega)
  ·rfl
 ·split
  ·rfl
  ·rename_i h
   have:=zFh vs hv pt s h;exact zGU vs hv pt _ _ _ (by omega) (by omega)
def zH9 (vs:List MVar) (c:Cla):Prop:=∀k,k≤c.length→k+zMc vs (c.take k)≤36
theorem zR3 (vs:List MVar):zH9 vs []:=fun k hk=>by
 have:k=0:=by simpa using hk
 subst this;have:=zMa (zAL (zAD vs) (zAH vs ([].take 0)));unfold zMc;omega
theorem zNm (vs:List MVar) (c:Cla) (h:zH9 vs c):c.length≤36:=by
 have:=h c.length (Nat.le_refl _);omega
theorem zP3 (vs:List MVar) (c:Cla) (h:zH9 vs c) (n:Nat):zH9 vs (c.take n):=fun k hk=>by
 rw[List.length_take] at hk;rw[List.take_take,Nat.min_eq_left (by omega)]
 exact h k (by omega)
theorem zR4 (vs:List MVar) (hv:zAd vs) (pt:List (List Nat)) (s:Sk) (hp:zH9 vs s.path) (h:¬zBf (zAh vs (zAt vs pt s))<0):zH9 vs (zFH (zAh vs (zAt vs pt s)) s).path:=fun k hk=>by
 have h1:=zNl vs hv pt s h;unfold zFH at *;simp only at *;rw[List.length_append,List.length_singleton] at hk;by_cases he:k≤s.path.length
 ·rw[List.take_append_of_le_length he]
  exact hp k he
 ·have:k=s.path.length+1:=by omega
  subst this;rw[List.take_of_length_le (by simp)]
  have:=hp s.path.length (Nat.le_refl _);rw[List.take_length] at this;omega
theorem zMf (x l:MLit):zP0 x l=true↔x=l:=by
 unfold zP0;rw[Bool.and_eq_true,Bool.and_eq_true,decide_eq_true_eq,decide_eq_true_eq,decide_eq_true_eq]
 constructor
 ·rintro ⟨h1,h2,h3⟩;cases x;cases l;simp_all
 ·rintro rfl;exact⟨rfl,rfl,rfl⟩
theorem zP4 (l:MLit):∀c:Cla,l∈c→idxL l c<c.length
 | [],h=>by cases h
 | x :: r,h=>by
   unfold idxL
   split
   ·simp
   ·rename_i hn
    rcases List.mem_cons.1 h with rfl | h
    ·exact absurd ((zMf l l).2 rfl) hn
    ·have:=zP4 l r h
     rw[List.length_cons];omega
theorem zJY (vs:List MVar) (cs:List Nat) (pt:List (List Nat)) (c:Cla) (x:MLit) (h:x∈zCX vs cs pt c):x∈c:=zGS _ x _ c h
theorem zJZ (vs:List MVar) (cs:List Nat) (pt:List (List Nat)) (c:Cla):(zCX vs cs pt c).length≤c.length:=zH7 _ _ c
theorem zK5 (c:Cla) (h:c.length≠0):zK3 c∈c:=by
 unfold zK3;rw[List.getD_eq_getElem?_getD,List.getElem?_eq_getElem (by omega)]
 exact List.getElem_mem _
end Go.Proofs.YtdjbejlbmaiocagGreatDoor
