/- What the proof leans on, part 16. -/
import Derived.Test.YtdjbejlbmaiocafGreatDoorPartAo
namespace Go.Proofs.YtdjbejlbmaiocafGreatDoor
def zBQ (p:Nat):List Nat→Nat×Nat×Bool→Nat×Nat×Bool
 | [],s=>s
 | q :: r,s=>zBQ p r (if zAM q p=0 then (q,s.2.1 ||| q,true) else s)
def clrN:Nat→Nat→Nat→Nat
 | 0,_,p=>p
 | f+1,s,p=>if s=0 then p else clrN f (zAM s (zAV s)) (zAM p (zAV s))
def zBb (pts:List Nat) (p:Nat):Nat :=
 if (zBQ p pts (0,0,false)).2.2 then clrN ((zBQ p pts (0,0,false)).1+1) (zBQ p pts (0,0,false)).1 p ||| (zBQ p pts (0,0,false)).2.1 else 0
theorem zCV (q p:Nat):zAM q p=0↔∀i,q.testBit i=true→p.testBit i=true:=by
 constructor
 ·intro h i hi
  have:=congrArg (fun z=>Nat.testBit z i) h
  simp only[zAK,hi,Nat.zero_testBit] at this
  simpa using this
 ·intro h
  apply Nat.eq_of_testBit_eq
  intro i
  rw[zAK,Nat.zero_testBit]
  cases hq:q.testBit i
  ·rfl
  ·rw[h i hq];rfl
theorem zC1 (p:Nat):∀(pts:List Nat) (s:Nat×Nat×Bool),(zBQ p pts s).2.2=true↔s.2.2=true∨∃q∈pts,zAM q p=0
 | [],s=>by simp[zBQ]
 | q :: r,s=>by
   unfold zBQ
   rw[zC1 p r]
   by_cases h:zAM q p=0
   ·rw[if_pos h]
    simp[h]
   ·rw[if_neg h]
    simp[h]
theorem zDZ (p:Nat) (i:Nat):∀(pts:List Nat) (s:Nat×Nat×Bool),(zBQ p pts s).2.1.testBit i=true↔s.2.1.testBit i=true∨∃q∈pts,zAM q p=0∧q.testBit i=true
 | [],s=>by simp[zBQ]
 | q :: r,s=>by
   unfold zBQ
   rw[zDZ p i r]
   by_cases h:zAM q p=0
   ·rw[if_pos h]
    simp only[Nat.testBit_or,Bool.or_eq_true,List.mem_cons,exists_eq_or_imp,h,true_and,or_assoc]
   ·rw[if_neg h]
    simp[h]
theorem zCG (p:Nat):∀(pts:List Nat) (s:Nat×Nat×Bool),(zBQ p pts s).1=s.1∨(zBQ p pts s).1∈pts∧zAM (zBQ p pts s).1 p=0
 | [],s=>Or.inl rfl
 | q :: r,s=>by
   unfold zBQ
   rcases zCG p r (if zAM q p=0 then (q,s.2.1 ||| q,true) else s) with h | h
   ·by_cases hq:zAM q p=0
    ·right
     rw[h,if_pos hq]
     exact⟨List.mem_cons_self ..,hq⟩
    ·left
     rw[h,if_neg hq]
   ·exact Or.inr ⟨List.mem_cons_of_mem _ h.1,h.2⟩
theorem zDF (s i:Nat):(zAV s).testBit i=decide (i / 6=Lib.ctz 64 s / 6):=zEK _ _
theorem zBg (s:Nat) (h0:s≠0) (h:s<2 ^ 36):zAM s (zAV s)<s:=by
 have hb:=(zDE s h0 (by omega) (Lib.ctz 64 s)).2.1 rfl
 have h1:=zGm s (zAV s)
 have h2:zAM s (zAV s)≠s:=fun he=>by
  have:=congrArg (fun z=>Nat.testBit z (Lib.ctz 64 s)) he
  simp only[zAK,zDF,hb] at this
  simp at this
 omega
theorem zHV:∀(f g s p:Nat),s<f→s<g→s<2 ^ 36→clrN f s p=clrN g s p
 | 0,g,s,p,hf,hg,_=>by omega
 | f+1,0,s,p,hf,hg,_=>by omega
 | f+1,g+1,s,p,hf,hg,h=>by
   unfold clrN
   split
   ·rfl
   ·rename_i h0
    have:=zBg s h0 h
    exact zHV f g _ _ (by omega) (by omega) (by omega)
theorem zKH (s p:Nat) (h0:s≠0) (h:s<2 ^ 36):clrN (s+1) s p=clrN (zAM s (zAV s)+1) (zAM s (zAV s)) (zAM p (zAV s)):=by
 conv=>lhs;unfold clrN
 rw[if_neg h0]
 have:=zBg s h0 h
 exact zHV _ _ _ _ (by omega) (by omega) (by omega)
theorem zGq (i:Nat):∀(f s p:Nat),s<f→s<2 ^ 36→((clrN f s p).testBit i=true↔p.testBit i=true∧∀j,s.testBit j=true→j / 6≠i / 6)
 | 0,s,p,hf,_=>by omega
 | f+1,s,p,hf,h=>by
   unfold clrN
   by_cases h0:s=0
   ·rw[if_pos h0,h0]
    simp
   ·rw[if_neg h0]
    have hlt:=zBg s h0 h
    have hb:=(zDE s h0 (by omega) (Lib.ctz 64 s)).2.1 rfl
    rw[zGq i f _ _ (by omega) (by omega)]
    simp only[zAK,zDF,Bool.and_eq_true,Bool.not_eq_true',decide_eq_false_iff_not]
    constructor
    ·rintro ⟨⟨h1,h2⟩,h3⟩
     refine⟨h1,fun j hj he=>?_⟩
     by_cases hk:j / 6=Lib.ctz 64 s / 6
     ·omega
     ·exact h3 j ⟨hj,hk⟩ he
    ·rintro ⟨h1,h2⟩
     refine⟨⟨h1,fun he=>h2 _ hb he.symm⟩,fun j hj he=>h2 j hj.1 he⟩
theorem zFZ (pts:List Nat) (p i:Nat) (hp:p<2 ^ 36) (h:(zBb pts p).testBit i=true):p.testBit i=true:=by
 unfold zBb at h
 split at h
 ·rw[Nat.testBit_or,Bool.or_eq_true] at h
  rcases h with h | h
  ·have hs:(zBQ p pts (0,0,false)).1<2 ^ 36:=by
    rcases zCG p pts (0,0,false) with h1 | h1
    ·rw[h1];decide
    ·exact Nat.lt_of_le_of_lt (Nat.le_of_testBit ((zCV _ _).1 h1.2)) hp
   exact ((zGq i _ _ p (Nat.lt_succ_self _) hs).1 h).1
  ·rcases (zDZ p i pts _).1 h with h1 | ⟨q,_,h1,h2⟩
   ·simp at h1
   ·exact (zCV _ _).1 h1 i h2
 ·simp at h
theorem zEP (pts:List Nat) (p:Nat) (hp:p<2 ^ 36):zBb pts p≤p:=Nat.le_of_testBit fun i h=>zFZ pts p i hp h
theorem zFa (pts:List Nat) (p:Nat) (hp:p<2 ^ 36):(zBQ p pts (0,0,false)).1<2 ^ 36:=by
 rcases zCG p pts (0,0,false) with h1 | h1
 ·rw[h1];decide
 ·exact Nat.lt_of_le_of_lt (Nat.le_of_testBit ((zCV _ _).1 h1.2)) hp
theorem zEQ (i:Nat):∀(cs:List Nat) (left l:Nat),zAX cs left=some l→l.testBit i=true→left.testBit i=true
 | [],left,l,h,hi=>by simp[zAX] at h;rw[h];exact hi
 | c :: r,left,l,h,hi=>by
   unfold zAX at h
   split at h
   ·cases h
   ·split at h
    ·have:=zEQ i r _ l h hi
     rw[zAK,Bool.and_eq_true] at this
     exact this.1
    ·exact zEQ i r _ l h hi
theorem zFD (cs:List Nat) (i:Nat):∀(f left:Nat),(zBE cs f left).testBit i=true→left.testBit i=true
 | 0,left,h=>h
 | f+1,left,h=>by
   unfold zBE at h
   cases hr:zAX cs left with
   | none=>rw[hr] at h;simp at h
   | some l =>
     rw[hr] at h
     simp only at h
     split at h
     ·exact h
     ·exact zEQ i cs left l hr (zFD cs i f l h)
theorem zER (vs:List MVar) (cs:List Nat) (p i:Nat) (h:(zAU vs cs p).testBit i=true):p.testBit i=true:=by
 unfold zAU at h
 split at h
 ·simp at h
 ·exact zFD cs i _ _ h
theorem zDl (vs:List MVar) (hv:zAW vs) (c:MCon):∀(r u:List Int) (a p:Nat),p∈zAS vs c r u a→∀i,p.testBit i=true→a.testBit i=true∨∃v∈r,i / 6=v.toNat
 | [],u,a,p,hp=>by
   intro i hi
   unfold zAS at hp
   split at hp
   ·rw[List.mem_singleton.1 hp] at hi;exact Or.inl hi
   ·cases hp
 | v :: r,u,a,p,hp=>by
   intro i hi
   unfold zAS at hp
   obtain⟨x,hx,hp⟩:=List.mem_flatMap.1 hp
   rcases zDl vs hv c r _ _ p hp i hi with h | ⟨w,hw,he⟩
   ·rw[Nat.testBit_or,Bool.or_eq_true,zBO] at h
    rcases h with h | h
    ·exact Or.inl h
    ·right
     refine⟨v,List.mem_cons_self ..,?_⟩
     have h1:6 * v.toNat+(x - (zAE vs v.toNat).lo).toNat=i:=by simpa using h
     obtain⟨b1,b2⟩:=(zCU _ _ _).1 hx
     have h6:=hv.2 v.toNat
     unfold zBH at h6
     omega
   ·exact Or.inr ⟨w,List.mem_cons_of_mem _ hw,he⟩
theorem zKI (vs:List MVar) (hv:zAW vs) (c:MCon) (hsc:∀v∈zAQ c,0≤v∧v<(vs.length:Int)) (hl:c.kind=10→c.lits≠[]) (vals:List Int) (hm:zCL vs vals) (hh:zAN c vals=true) :
 ∃p∈zAj vs c,(∀i,p.testBit i=true→∃v:Nat,v<vs.length∧i=posV vs vals v)∧∀v∈zAQ c,p.testBit (posV vs vals v.toNat)=true:=by
 obtain⟨p,hp,hb⟩:=zEM vs c vals hm (zAQ c) (zAn vs.length) 0 hsc (by simp[zAn]) (fun u' _ h2 _=>by rw[zCx c u' vals h2 hl];exact hh)
 have hb':∀i,p.testBit i=true→∃v:Nat,v<vs.length∧i=posV vs vals v:=fun i hi=>by
  rcases hb i hi with h | h
  ·simp at h
  ·exact h
 refine⟨p,hp,hb',fun v hvs=>?_⟩
 obtain⟨u,l1,l2,l3,l4,_,l6⟩:=zC0 vs c _ _ _ p hsc (by simp[zAn]) hp
 have h1:=l6 v hvs
 obtain⟨v',hv',he⟩:=hb' _ h1
 have h6:=hv.2 v.toNat
 have h3:=l3 v hvs
 have h7:=(zBk vs hv vals hm v' hv').1
 have h8:=hsc v hvs
 unfold zBH at h6
 have:v'=v.toNat:=by omega
 rw[he,this] at h1
 exact h1
theorem zH4 (vs:List MVar) (hv:zAW vs) (c:MCon) (hsc:∀v∈zAQ c,0≤v∧v<(vs.length:Int)) (hl:c.kind=10→c.lits≠[]) (vals:List Int) (hm:zCL vs vals) (hh:zAN c vals=true) (p:Nat) (hp36:p<2 ^ 36) (hw:zAy vs vals p) :
 zAy vs vals (zBb (zAj vs c) p):=by
 obtain⟨q,hq,h1,h2⟩:=zKI vs hv c hsc hl vals hm hh
 have hz:zAM q p=0:=(zCV _ _).2 fun i hi=>by
  obtain⟨v,hvl,rfl⟩:=h1 i hi
  exact hw v hvl
 have hf:=(zC1 p (zAj vs c) (0,0,false)).2 (Or.inr ⟨q,hq,hz⟩)
 intro v hvl
 unfold zBb
 rw[if_pos hf,Nat.testBit_or,Bool.or_eq_true]
 by_cases hs:(v:Int)∈zAQ c
 ·right
  refine (zDZ p _ _ _).2 (Or.inr ⟨q,hq,hz,?_⟩)
  have:=h2 _ hs
  rwa [Int.toNat_natCast] at this
 ·left
  refine (zGq _ _ _ _ (Nat.lt_succ_self _) (zFa _ _ hp36)).2 ⟨hw v hvl,fun j hj he=>?_⟩
  rw[(zBk vs hv vals hm v hvl).1] at he
  rcases zCG p (zAj vs c) (0,0,false) with h3 | h3
  ·rw[h3] at hj;simp at hj
  ·rcases zDl vs hv c _ _ _ _ h3.1 j hj with h4 | ⟨w,hw2,h4⟩
   ·simp at h4
   ·have:=hsc w hw2
    refine hs ?_
    rw[show (v:Int)=w by omega]
    exact hw2
def zAe:List (List Nat)→Nat→Nat
 | [],l=>l
 | pts :: r,l=>if l=0 then l else zAe r (zBb pts l)
def zCN:Nat→List (List Nat)→Nat→List (Nat×Nat×Nat)
 | _,[],_=>[]
 | k,pts :: r,l=>if l=0 then [] else (if zBb pts l=l then [] else [(k,l,zBb pts l)])++zCN (k+1) r (zBb pts l)
def zAo (vs:List MVar) (cs:List Nat) (pt:List (List Nat)):Nat→Nat→Nat
 | 0,l=>l
 | f+1,l=>if zAe pt (zAU vs cs l)=l then l else zAo vs cs pt f (zAe pt (zAU vs cs l))
def zBR (vs:List MVar) (cs:List Nat) (pt:List (List Nat)):Nat→Nat→List (Nat×Nat×Nat)
 | 0,_=>[]
 | f+1,l=>zCN 0 pt (zAU vs cs l)++if zAe pt (zAU vs cs l)=l then [] else zBR vs cs pt f (zAe pt (zAU vs cs l))
def zA1 (vs:List MVar) (cs:List Nat) (pt:List (List Nat)) (h:Nat):Nat :=
 if zAM (zAG vs) h=0 then 0 else zAo vs cs pt (zAM (zAG vs) h+1) (zAM (zAG vs) h)
def zHW (vs:List MVar) (cs:List Nat) (pt:List (List Nat)) (h:Nat):List (Nat×Nat×Nat) :=
 if zAM (zAG vs) h=0 then [] else zBR vs cs pt (zAM (zAG vs) h+1) (zAM (zAG vs) h)
theorem zDG:∀(pt:List (List Nat)) (l:Nat),l<2 ^ 36→zAe pt l≤l
 | [],l,_=>Nat.le_refl _
 | pts :: r,l,h=>by
   unfold zAe
   split
   ·exact Nat.le_refl _
   ·have h1:=zEP pts l h
    exact Nat.le_trans (zDG r _ (by omega)) h1
theorem zCW (vs:List MVar) (cs:List Nat) (pt:List (List Nat)) (l:Nat) (h:l<2 ^ 36):zAe pt (zAU vs cs l)≤l:=by
 have h1:=zDD vs cs l
 exact Nat.le_trans (zDG pt _ (by omega)) h1
theorem zES (vs:List MVar) (cs:List Nat) (pt:List (List Nat)):∀(f g l:Nat),l<f→l<g→l<2 ^ 36→zAo vs cs pt f l=zAo vs cs pt g l∧zBR vs cs pt f l=zBR vs cs pt g l
 | 0,g,l,hf,hg,_=>by omega
 | f+1,0,l,hf,hg,_=>by omega
 | f+1,g+1,l,hf,hg,h=>by
   unfold zAo zBR
   split
   ·exact⟨rfl,rfl⟩
   ·have:=zCW vs cs pt l h
    obtain⟨h1,h2⟩:=zES vs cs pt f g (zAe pt (zAU vs cs l)) (by omega) (by omega) (by omega)
    exact⟨h1,by rw[h2]⟩
theorem zGr (vs:List MVar) (cs:List Nat) (pt:List (List Nat)) (l:Nat) (h:l<2 ^ 36) :
 zAo vs cs pt (l+1) l=(if zAe pt (zAU vs cs l)=l then l else zAo vs cs pt (zAe pt (zAU vs cs l)+1) (zAe pt (zAU vs cs l))) ∧
 zBR vs cs pt (l+1) l=zCN 0 pt (zAU vs cs l)++if zAe pt (zAU vs cs l)=l then [] else zBR vs cs pt (zAe pt (zAU vs cs l)+1) (zAe pt (zAU vs cs l)):=by
 by_cases he:zAe pt (zAU vs cs l)=l
 ·constructor
  ·conv=>lhs;unfold zAo
   rw[if_pos he,if_pos he]
  ·conv=>lhs;unfold zBR
   rw[if_pos he,if_pos he]
 ·have:=zCW vs cs pt l h
  obtain⟨h1,h2⟩:=zES vs cs pt l (zAe pt (zAU vs cs l)+1) (zAe pt (zAU vs cs l)) (by omega) (by omega) (by omega)
  constructor
  ·conv=>lhs;unfold zAo
   rw[if_neg he,if_neg he,h1]
  ·conv=>lhs;unfold zBR
   rw[if_neg he,if_neg he,h2]
theorem zET (vs:List MVar) (hv:zAW vs) (h1:1≤vs.length) (vals:List Int) (hm:zCL vs vals):∀(pt:List (List Nat)) (l:Nat),l<2 ^ 36→(∀pts∈pt,∀p,p<2 ^ 36→zAy vs vals p→zAy vs vals (zBb pts p))→zAy vs vals l→zAy vs vals (zAe pt l)
 | [],l,_,_,hw=>hw
 | pts :: r,l,h,hk,hw=>by
   unfold zAe
   rw[if_neg (zEN vs h1 vals l hw)]
   have:=zEP pts l h
   exact zET vs hv h1 vals hm r _ (by omega) (fun q hq=>hk q (List.mem_cons_of_mem _ hq)) (hk pts (List.mem_cons_self ..) l h hw)
theorem zDH (vs:List MVar) (hv:zAW vs) (h1:1≤vs.length) (vals:List Int) (hm:zCL vs vals) (cs:List Nat) (hc:∀c∈cs,Hits vs vals c) (pt:List (List Nat)) (hk:∀pts∈pt,∀p,p<2 ^ 36→zAy vs vals p→zAy vs vals (zBb pts p)) :
 ∀(f l:Nat),l<2 ^ 36→zAy vs vals l→zAy vs vals (zAo vs cs pt f l)
 | 0,l,_,hw=>hw
 | f+1,l,h,hw=>by
   unfold zAo
   split
   ·exact hw
   ·have h2:=zDD vs cs l
    have h3:=zCW vs cs pt l h
    exact zDH vs hv h1 vals hm cs hc pt hk f _ (by omega) (zET vs hv h1 vals hm pt _ (by omega) hk (zGp vs hv vals hm cs hc l hw))
theorem zCi (vs:List MVar) (hv:zAW vs):zAG vs<2 ^ 36:=zDY vs hv _
theorem zGs (vs:List MVar) (hv:zAW vs) (h1:1≤vs.length) (vals:List Int) (hm:zCL vs vals) (cs:List Nat) (hc:∀c∈cs,Hits vs vals c) (pt:List (List Nat)) (hk:∀pts∈pt,∀p,p<2 ^ 36→zAy vs vals p→zAy vs vals (zBb pts p))
 (h:Nat) (hz:zA1 vs cs pt h=0):Hits vs vals h:=by
 apply Classical.byContradiction
 intro hn
 have hw:=zGo vs hv vals hm h hn
 unfold zA1 at hz
 rw[if_neg (zEN vs h1 vals _ hw)] at hz
 exact zEN vs h1 vals _ (zDH vs hv h1 vals hm cs hc pt hk _ _ (zBN 36 _ _ (zCi vs hv)) hw) hz
theorem zC2 (f g:Nat→Bool) (h:∀i,g i=true→f i=true):∀l:List Nat,(l.filter f).length=(l.filter g).length+(l.filter fun i=>f i&&!g i).length
 | []=>rfl
 | a :: r=>by
   have ih:=zC2 f g h r
   rw[List.filter_cons,List.filter_cons,List.filter_cons]
   cases hf:f a <;> cases hg:g a
   ·simpa using ih
   ·rw[h a hg] at hf;cases hf
   ·simp;omega
   ·simp;omega
def zC3 (p:Nat):Nat:=(zCM p).length
theorem zGt (p:Nat):zC3 p≤36:=by
 unfold zC3 zCM
 exact Nat.le_trans (List.length_filter_le _ _) (by simp)
theorem zHX (a b:Nat) (h:∀i,a.testBit i=true→b.testBit i=true):zC3 a≤zC3 b:=by
 unfold zC3 zCM
 rw[zC2 (fun i=>b.testBit i) (fun i=>a.testBit i) h]
 omega
theorem zF2 (a b:Nat) (hb:b<2 ^ 36) (h:∀i,a.testBit i=true→b.testBit i=true) (hne:a≠b):zC3 a+1≤zC3 b:=by
 unfold zC3 zCM
 rw[zC2 (fun i=>b.testBit i) (fun i=>a.testBit i) h]
 have:((List.range 36).filter fun i=>b.testBit i&&!a.testBit i)≠[]:=fun hn=>by
  refine hne (Nat.eq_of_testBit_eq fun i=>?_)
  by_cases hi:i<36
  ·have:=List.filter_eq_nil_iff.1 hn i (List.mem_range.2 hi)
   cases ha:a.testBit i <;> cases hbb:b.testBit i
   ·rfl
   ·rw[ha,hbb] at this;simp at this
   ·rw[h i ha] at hbb;cases hbb
   ·rfl
  ·have h1:b.testBit i=false:=Nat.testBit_lt_two_pow (Nat.lt_of_lt_of_le hb (Nat.pow_le_pow_right (by omega) (by omega)))
   cases ha:a.testBit i
   ·exact h1.symm
   ·rw[h i ha] at h1;cases h1
 have:=List.length_pos_iff.2 this
 omega
def zAd {α:Type} (enough:List α→Bool):Nat→List α→List α
 | 0,out=>out
 | k+1,out=>zAd enough k (if enough (out.eraseIdx k) then out.eraseIdx k else out)
theorem zDm {α:Type} (enough:List α→Bool):∀(k:Nat) (out:List α),enough out=true→enough (zAd enough k out)=true
 | 0,out,h=>h
 | k+1,out,h=>by
   unfold zAd
   apply zDm
   split
   ·assumption
   ·exact h
theorem zEU {α:Type} (enough:List α→Bool) (x:α):∀(k:Nat) (out:List α),x∈zAd enough k out→x∈out
 | 0,out,h=>h
 | k+1,out,h=>by
   unfold zAd at h
   have:=zEU enough x k _ h
   split at this
   ·exact List.mem_of_mem_eraseIdx this
   ·exact this
theorem zEV {α:Type} (enough:List α→Bool):∀(k:Nat) (out:List α),(zAd enough k out).length≤out.length
 | 0,out=>Nat.le_refl _
 | k+1,out=>by
   unfold zAd
   refine Nat.le_trans (zEV enough k _) ?_
   split
   ·exact List.length_eraseIdx_le ..
   ·exact Nat.le_refl _
def whyP (vs:List MVar) (pts:List Nat) (any:Cla) (gone:Nat):Cla:=any++zA8 vs (zBx (fun g=>zDw vs pts (zAR vs any ||| g)) (gone+1) gone gone)
def zBh (vs:List MVar) (con:Nat) (c:Cla):MStep×Nat:=(⟨1,(con:Int),c⟩,zAR vs c)
def zBA (vs:List MVar) (pt:List (List Nat)) (t:Nat×Nat×Nat):List (MStep×Nat) :=
 if t.2.2=0 then [zBh vs t.1 (whyP vs (pt.getD t.1 []) [] (zAM (zAG vs) t.2.1))]
 else (zA8 vs (zAM t.2.1 t.2.2)).map fun l=>zBh vs t.1 (whyP vs (pt.getD t.1 []) [⟨l.var,4,l.n⟩] (zAM (zAG vs) t.2.1))
def zBU (vs:List MVar) (cs:List Nat) (pt:List (List Nat)) (h:Nat):List (MStep×Nat):=(zHW vs cs pt h).flatMap (zBA vs pt)
def zCX (vs:List MVar) (cs:List Nat) (h:Nat) (some:List (MStep×Nat)):Bool:=zE9 vs (cs++some.map (·.2)) h
def zDI (vs:List MVar) (cs:List Nat) (pt:List (List Nat)) (c:Cla):List MStep :=
 (zAd (zCX vs cs (zAR vs c)) (zBU vs cs pt (zAR vs c)).length (zBU vs cs pt (zAR vs c))).map (·.1)++[⟨2,0,c⟩]
def zAs (vs:List MVar) (cs:List Nat) (pt:List (List Nat)) (c:Cla):Bool:=zA1 vs cs pt (zAR vs c)==0
def zBF (vs:List MVar) (cs:List Nat) (pt:List (List Nat)) (c:Cla):Cla:=zAd (zAs vs cs pt) c.length c
def ptsM (m:Mod):List (List Nat):=m.cons.map (zAj m.vars)
theorem zH5 (m:Mod) (hm:zAI m=0) (vals:List Int) (hv:zCL m.vars vals) (hc:∀c∈m.cons,zAN c vals=true):∀pts∈ptsM m,∀p,p<2 ^ 36→zAy m.vars vals p→zAy m.vars vals (zBb pts p):=by
 intro pts hp p h36 hw
 obtain⟨c,hcm,rfl⟩:=List.mem_map.1 hp
 obtain⟨j,hj,he⟩:=List.getElem_of_mem hcm
 obtain⟨k1,k2⟩:=zBu m hm j c (by rw[List.getElem?_eq_getElem hj,he])
 exact zH4 m.vars (zBw m hm) c k1 k2 vals hv (hc c hcm) p h36 hw
theorem zFb (m:Mod) (hm:zAI m=0) (vals:List Int) (hv:zCL m.vars vals) (hc:∀c∈m.cons,zAN c vals=true) (cs:List Nat) (hh:∀c∈cs,Hits m.vars vals c) (c:Cla) (hz:zAs m.vars cs (ptsM m) c=true):Hits m.vars vals (zAR m.vars c):=by
 unfold zAs at hz
 exact zGs m.vars (zBw m hm) (zHU m hm) vals hv cs hh (ptsM m) (zH5 m hm vals hv hc) _ (by simpa using hz)
end Go.Proofs.YtdjbejlbmaiocafGreatDoor
