/- What the proof leans on, part 17. -/
import Derived.Test.YtndcpnlaadikoaaGreatDoorPartAp
namespace Go.Proofs.YtndcpnlaadikoaaGreatDoor
def zBc (p:Nat):List Nat→Nat×Nat×Bool→Nat×Nat×Bool
 | [],s=>s
 | q :: r,s=>zBc p r (if zAJ q p=0 then (q,s.2.1 ||| q,true) else s)
def clrN:Nat→Nat→Nat→Nat
 | 0,_,p=>p
 | f+1,s,p=>if s=0 then p else clrN f (zAJ s (zAZ s)) (zAJ p (zAZ s))
def zBI (pts:List Nat) (p:Nat):Nat :=
 if (zBc p pts (0,0,false)).2.2 then clrN ((zBc p pts (0,0,false)).1+1) (zBc p pts (0,0,false)).1 p ||| (zBc p pts (0,0,false)).2.1 else 0
theorem zBA (q p:Nat):zAJ q p=0↔∀i,q.testBit i=true→p.testBit i=true:=by
 constructor
 ·intro h i hi
  have:=congrArg (fun z=>Nat.testBit z i) h
  simp only[zAW,hi,Nat.zero_testBit] at this
  simpa using this
 ·intro h
  apply Nat.eq_of_testBit_eq
  intro i
  rw[zAW,Nat.zero_testBit]
  cases hq:q.testBit i
  ·rfl
  ·rw[h i hq];rfl
theorem zDk (p:Nat):∀(pts:List Nat) (s:Nat×Nat×Bool),(zBc p pts s).2.2=true↔s.2.2=true∨∃q∈pts,zAJ q p=0
 | [],s=>by simp[zBc]
 | q :: r,s=>by
   unfold zBc
   rw[zDk p r]
   by_cases h:zAJ q p=0
   ·rw[if_pos h]
    simp[h]
   ·rw[if_neg h]
    simp[h]
theorem zDR (p:Nat) (i:Nat):∀(pts:List Nat) (s:Nat×Nat×Bool),(zBc p pts s).2.1.testBit i=true↔s.2.1.testBit i=true∨∃q∈pts,zAJ q p=0∧q.testBit i=true
 | [],s=>by simp[zBc]
 | q :: r,s=>by
   unfold zBc
   rw[zDR p i r]
   by_cases h:zAJ q p=0
   ·rw[if_pos h]
    simp only[Nat.testBit_or,Bool.or_eq_true,List.mem_cons,exists_eq_or_imp,h,true_and,or_assoc]
   ·rw[if_neg h]
    simp[h]
theorem zCL (p:Nat):∀(pts:List Nat) (s:Nat×Nat×Bool),(zBc p pts s).1=s.1∨(zBc p pts s).1∈pts∧zAJ (zBc p pts s).1 p=0
 | [],s=>Or.inl rfl
 | q :: r,s=>by
   unfold zBc
   rcases zCL p r (if zAJ q p=0 then (q,s.2.1 ||| q,true) else s) with h | h
   ·by_cases hq:zAJ q p=0
    ·right
     rw[h,if_pos hq]
     exact⟨List.mem_cons_self ..,hq⟩
    ·left
     rw[h,if_neg hq]
   ·exact Or.inr ⟨List.mem_cons_of_mem _ h.1,h.2⟩
theorem zAr (s i:Nat):(zAZ s).testBit i=decide (i / 6=Lib.ctz 64 s / 6):=zIj _ _
theorem zCB (s:Nat) (h0:s≠0) (h:s<2 ^ 36):zAJ s (zAZ s)<s:=by
 have hb:=(zCY s h0 (by omega) (Lib.ctz 64 s)).2.1 rfl
 have h1:=zGq s (zAZ s)
 have h2:zAJ s (zAZ s)≠s:=fun he=>by
  have:=congrArg (fun z=>Nat.testBit z (Lib.ctz 64 s)) he
  simp only[zAW,zAr,hb] at this
  simp at this
 omega
theorem zJa:∀(f g s p:Nat),s<f→s<g→s<2 ^ 36→clrN f s p=clrN g s p
 | 0,g,s,p,hf,hg,_=>by omega
 | f+1,0,s,p,hf,hg,_=>by omega
 | f+1,g+1,s,p,hf,hg,h=>by
   unfold clrN
   split
   ·rfl
   ·rename_i h0
    have:=zCB s h0 h
    exact zJa f g _ _ (by omega) (by omega) (by omega)
theorem zMe (s p:Nat) (h0:s≠0) (h:s<2 ^ 36):clrN (s+1) s p=clrN (zAJ s (zAZ s)+1) (zAJ s (zAZ s)) (zAJ p (zAZ s)):=by
 conv=>lhs;unfold clrN
 rw[if_neg h0]
 have:=zCB s h0 h
 exact zJa _ _ _ _ (by omega) (by omega) (by omega)
theorem zGu (i:Nat):∀(f s p:Nat),s<f→s<2 ^ 36→((clrN f s p).testBit i=true↔p.testBit i=true∧∀j,s.testBit j=true→j / 6≠i / 6)
 | 0,s,p,hf,_=>by omega
 | f+1,s,p,hf,h=>by
   unfold clrN
   by_cases h0:s=0
   ·rw[if_pos h0,h0]
    simp
   ·rw[if_neg h0]
    have hlt:=zCB s h0 h
    have hb:=(zCY s h0 (by omega) (Lib.ctz 64 s)).2.1 rfl
    rw[zGu i f _ _ (by omega) (by omega)]
    simp only[zAW,zAr,Bool.and_eq_true,Bool.not_eq_true',decide_eq_false_iff_not]
    constructor
    ·rintro ⟨⟨h1,h2⟩,h3⟩
     refine⟨h1,fun j hj he=>?_⟩
     by_cases hk:j / 6=Lib.ctz 64 s / 6
     ·omega
     ·exact h3 j ⟨hj,hk⟩ he
    ·rintro ⟨h1,h2⟩
     refine⟨⟨h1,fun he=>h2 _ hb he.symm⟩,fun j hj he=>h2 j hj.1 he⟩
theorem zDS (pts:List Nat) (p i:Nat) (hp:p<2 ^ 36) (h:(zBI pts p).testBit i=true):p.testBit i=true:=by
 unfold zBI at h
 split at h
 ·rw[Nat.testBit_or,Bool.or_eq_true] at h
  rcases h with h | h
  ·have hs:(zBc p pts (0,0,false)).1<2 ^ 36:=by
    rcases zCL p pts (0,0,false) with h1 | h1
    ·rw[h1];decide
    ·exact Nat.lt_of_le_of_lt (Nat.le_of_testBit ((zBA _ _).1 h1.2)) hp
   exact ((zGu i _ _ p (Nat.lt_succ_self _) hs).1 h).1
  ·rcases (zDR p i pts _).1 h with h1 | ⟨q,_,h1,h2⟩
   ·simp at h1
   ·exact (zBA _ _).1 h1 i h2
 ·simp at h
theorem zGv (pts:List Nat) (p:Nat) (hp:p<2 ^ 36):zBI pts p≤p:=Nat.le_of_testBit fun i h=>zDS pts p i hp h
theorem zGw (pts:List Nat) (p:Nat) (hp:p<2 ^ 36):(zBc p pts (0,0,false)).1<2 ^ 36:=by
 rcases zCL p pts (0,0,false) with h1 | h1
 ·rw[h1];decide
 ·exact Nat.lt_of_le_of_lt (Nat.le_of_testBit ((zBA _ _).1 h1.2)) hp
theorem zFP (i:Nat):∀(cs:List Nat) (left l:Nat),zAd cs left=some l→l.testBit i=true→left.testBit i=true
 | [],left,l,h,hi=>by simp[zAd] at h;rw[h];exact hi
 | c :: r,left,l,h,hi=>by
   unfold zAd at h
   split at h
   ·cases h
   ·split at h
    ·have:=zFP i r _ l h hi
     rw[zAW,Bool.and_eq_true] at this
     exact this.1
    ·exact zFP i r _ l h hi
theorem zGF (cs:List Nat) (i:Nat):∀(f left:Nat),(zAv cs f left).testBit i=true→left.testBit i=true
 | 0,left,h=>h
 | f+1,left,h=>by
   unfold zAv at h
   cases hr:zAd cs left with
   | none=>rw[hr] at h;simp at h
   | some l =>
     rw[hr] at h
     simp only at h
     split at h
     ·exact h
     ·exact zFP i cs left l hr (zGF cs i f l h)
theorem zCM (vs:List MVar) (cs:List Nat) (p i:Nat) (h:(zAc vs cs p).testBit i=true):p.testBit i=true:=by
 unfold zAc at h
 split at h
 ·simp at h
 ·exact zGF cs i _ _ h
theorem zEh (vs:List MVar) (hv:zAb vs) (c:MCon):∀(r u:List Int) (a p:Nat),p∈zAa vs c r u a→∀i,p.testBit i=true→a.testBit i=true∨∃v∈r,i / 6=v.toNat
 | [],u,a,p,hp=>by
   intro i hi
   unfold zAa at hp
   split at hp
   ·rw[List.mem_singleton.1 hp] at hi;exact Or.inl hi
   ·cases hp
 | v :: r,u,a,p,hp=>by
   intro i hi
   unfold zAa at hp
   obtain⟨x,hx,hp⟩:=List.mem_flatMap.1 hp
   rcases zEh vs hv c r _ _ p hp i hi with h | ⟨w,hw,he⟩
   ·rw[Nat.testBit_or,Bool.or_eq_true,zBO] at h
    rcases h with h | h
    ·exact Or.inl h
    ·right
     refine⟨v,List.mem_cons_self ..,?_⟩
     have h1:6 * v.toNat+(x - (zAH vs v.toNat).lo).toNat=i:=by simpa using h
     obtain⟨b1,b2⟩:=(zAx _ _ _).1 hx
     have h6:=hv.2 v.toNat
     unfold zAu at h6
     omega
   ·exact Or.inr ⟨w,List.mem_cons_of_mem _ hw,he⟩
theorem zMf (vs:List MVar) (hv:zAb vs) (c:MCon) (hsc:∀v∈zAO c,0≤v∧v<(vs.length:Int)) (hl:c.kind=10→c.lits≠[]) (vals:List Int) (hm:zMX vs vals) (hh:zAV c vals=true) :
 ∃p∈zAR vs c,(∀i,p.testBit i=true→∃v:Nat,v<vs.length∧i=posV vs vals v)∧∀v∈zAO c,p.testBit (posV vs vals v.toNat)=true:=by
 obtain⟨p,hp,hb⟩:=zFJ vs c vals hm (zAO c) (zAN vs.length) 0 hsc (by simp[zAN]) (fun u' _ h2 _=>by rw[zCI c u' vals h2 hl];exact hh)
 have hb':∀i,p.testBit i=true→∃v:Nat,v<vs.length∧i=posV vs vals v:=fun i hi=>by
  rcases hb i hi with h | h
  ·simp at h
  ·exact h
 refine⟨p,hp,hb',fun v hvs=>?_⟩
 obtain⟨u,l1,l2,l3,l4,_,l6⟩:=zCy vs c _ _ _ p hsc (by simp[zAN]) hp
 have h1:=l6 v hvs
 obtain⟨v',hv',he⟩:=hb' _ h1
 have h6:=hv.2 v.toNat
 have h3:=l3 v hvs
 have h7:=(zLJ vs hv vals hm v' hv').1
 have h8:=hsc v hvs
 unfold zAu at h6
 have:v'=v.toNat:=by omega
 rw[he,this] at h1
 exact h1
def zAs:List (List Nat)→Nat→Nat
 | [],l=>l
 | pts :: r,l=>if l=0 then l else zAs r (zBI pts l)
def zCS:Nat→List (List Nat)→Nat→List (Nat×Nat×Nat)
 | _,[],_=>[]
 | k,pts :: r,l=>if l=0 then [] else (if zBI pts l=l then [] else [(k,l,zBI pts l)])++zCS (k+1) r (zBI pts l)
def zBQ (vs:List MVar) (cs:List Nat) (pt:List (List Nat)):Nat→Nat→Nat
 | 0,l=>l
 | f+1,l=>if zAs pt (zAc vs cs l)=l then l else zBQ vs cs pt f (zAs pt (zAc vs cs l))
def zBB (vs:List MVar) (cs:List Nat) (pt:List (List Nat)):Nat→Nat→List (Nat×Nat×Nat)
 | 0,_=>[]
 | f+1,l=>zCS 0 pt (zAc vs cs l)++if zAs pt (zAc vs cs l)=l then [] else zBB vs cs pt f (zAs pt (zAc vs cs l))
def zCz (vs:List MVar) (cs:List Nat) (pt:List (List Nat)) (h:Nat):Nat :=
 if zAJ (zAC vs) h=0 then 0 else zBQ vs cs pt (zAJ (zAC vs) h+1) (zAJ (zAC vs) h)
def zFQ (vs:List MVar) (cs:List Nat) (pt:List (List Nat)) (h:Nat):List (Nat×Nat×Nat) :=
 if zAJ (zAC vs) h=0 then [] else zBB vs cs pt (zAJ (zAC vs) h+1) (zAJ (zAC vs) h)
theorem zGx:∀(pt:List (List Nat)) (l:Nat),l<2 ^ 36→zAs pt l≤l
 | [],l,_=>Nat.le_refl _
 | pts :: r,l,h=>by
   unfold zAs
   split
   ·exact Nat.le_refl _
   ·have h1:=zGv pts l h
    exact Nat.le_trans (zGx r _ (by omega)) h1
theorem zHi (vs:List MVar) (cs:List Nat) (pt:List (List Nat)) (l:Nat) (h:l<2 ^ 36):zAs pt (zAc vs cs l)≤l:=by
 have h1:=zD6 vs cs l
 exact Nat.le_trans (zGx pt _ (by omega)) h1
theorem zFR (vs:List MVar) (cs:List Nat) (pt:List (List Nat)):∀(f g l:Nat),l<f→l<g→l<2 ^ 36→zBQ vs cs pt f l=zBQ vs cs pt g l∧zBB vs cs pt f l=zBB vs cs pt g l
 | 0,g,l,hf,hg,_=>by omega
 | f+1,0,l,hf,hg,_=>by omega
 | f+1,g+1,l,hf,hg,h=>by
   unfold zBQ zBB
   split
   ·exact⟨rfl,rfl⟩
   ·have:=zHi vs cs pt l h
    obtain⟨h1,h2⟩:=zFR vs cs pt f g (zAs pt (zAc vs cs l)) (by omega) (by omega) (by omega)
    exact⟨h1,by rw[h2]⟩
theorem zIn (vs:List MVar) (cs:List Nat) (pt:List (List Nat)) (l:Nat) (h:l<2 ^ 36) :
 zBQ vs cs pt (l+1) l=(if zAs pt (zAc vs cs l)=l then l else zBQ vs cs pt (zAs pt (zAc vs cs l)+1) (zAs pt (zAc vs cs l))) ∧
 zBB vs cs pt (l+1) l=zCS 0 pt (zAc vs cs l)++if zAs pt (zAc vs cs l)=l then [] else zBB vs cs pt (zAs pt (zAc vs cs l)+1) (zAs pt (zAc vs cs l)):=by
 by_cases he:zAs pt (zAc vs cs l)=l
 ·constructor
  ·conv=>lhs;unfold zBQ
   rw[if_pos he,if_pos he]
  ·conv=>lhs;unfold zBB
   rw[if_pos he,if_pos he]
 ·have:=zHi vs cs pt l h
  obtain⟨h1,h2⟩:=zFR vs cs pt l (zAs pt (zAc vs cs l)+1) (zAs pt (zAc vs cs l)) (by omega) (by omega) (by omega)
  constructor
  ·conv=>lhs;unfold zBQ
   rw[if_neg he,if_neg he,h1]
  ·conv=>lhs;unfold zBB
   rw[if_neg he,if_neg he,h2]
theorem zBu (vs:List MVar) (hv:zAb vs):zAC vs<2 ^ 36:=zEV vs hv _
theorem zDl (f g:Nat→Bool) (h:∀i,g i=true→f i=true):∀l:List Nat,(l.filter f).length=(l.filter g).length+(l.filter fun i=>f i&&!g i).length
 | []=>rfl
 | a :: r=>by
   have ih:=zDl f g h r
   rw[List.filter_cons,List.filter_cons,List.filter_cons]
   cases hf:f a <;> cases hg:g a
   ·simpa using ih
   ·rw[h a hg] at hf;cases hf
   ·simp;omega
   ·simp;omega
def zEB (p:Nat):Nat:=(zDX p).length
theorem zNa (p:Nat):zEB p≤36:=by
 unfold zEB zDX
 exact Nat.le_trans (List.length_filter_le _ _) (by simp)
theorem zJb (a b:Nat) (h:∀i,a.testBit i=true→b.testBit i=true):zEB a≤zEB b:=by
 unfold zEB zDX
 rw[zDl (fun i=>b.testBit i) (fun i=>a.testBit i) h]
 omega
theorem zLR (a b:Nat) (hb:b<2 ^ 36) (h:∀i,a.testBit i=true→b.testBit i=true) (hne:a≠b):zEB a+1≤zEB b:=by
 unfold zEB zDX
 rw[zDl (fun i=>b.testBit i) (fun i=>a.testBit i) h]
 have:((List.range 36).filter fun i=>b.testBit i&&!a.testBit i)≠[]:=fun hn=>by
  refine hne (Nat.eq_of_testBit_eq fun i=>?_)
  by_cases hi:i<36
  ·have:=List.filter_eq_nil_iff.1 hn i (List.mem_range.2 hi)
   cases ha:a.testBit i <;> cases hbb:b.testBit i
   ·rfl
   ·rw[ha,hbb] at this;simp at this
   ·rw[h i ha] at hbb;cases hbb
   ·rfl
  ·have h1:b.testBit i=false:=Nat.testBit_lt_two_pow (Nat.lt_of_lt_of_le hb (Nat.pow_le_pow_right (by omega) (by omega)))
   cases ha:a.testBit i
   ·exact h1.symm
   ·rw[h i ha] at h1;cases h1
 have:=List.length_pos_iff.2 this
 omega
def zAq {α:Type} (enough:List α→Bool):Nat→List α→List α
 | 0,out=>out
 | k+1,out=>zAq enough k (if enough (out.eraseIdx k) then out.eraseIdx k else out)
theorem zDG {α:Type} (enough:List α→Bool):∀(k:Nat) (out:List α),enough out=true→enough (zAq enough k out)=true
 | 0,out,h=>h
 | k+1,out,h=>by
   unfold zAq
   apply zDG
   split
   ·assumption
   ·exact h
theorem zEC {α:Type} (enough:List α→Bool) (x:α):∀(k:Nat) (out:List α),x∈zAq enough k out→x∈out
 | 0,out,h=>h
 | k+1,out,h=>by
   unfold zAq at h
   have:=zEC enough x k _ h
   split at this
   ·exact List.mem_of_mem_eraseIdx this
   ·exact this
theorem zED {α:Type} (enough:List α→Bool):∀(k:Nat) (out:List α),(zAq enough k out).length≤out.length
 | 0,out=>Nat.le_refl _
 | k+1,out=>by
   unfold zAq
   refine Nat.le_trans (zED enough k _) ?_
   split
   ·exact List.length_eraseIdx_le ..
   ·exact Nat.le_refl _
def whyP (vs:List MVar) (pts:List Nat) (any:Cla) (gone:Nat):Cla:=any++zBP vs (zBU (fun g=>zBX vs pts (zAF vs any ||| g)) (gone+1) gone gone)
def zBd (vs:List MVar) (con:Nat) (c:Cla):MStep×Nat:=(⟨1,(con:Int),c⟩,zAF vs c)
def zAi (vs:List MVar) (pt:List (List Nat)) (t:Nat×Nat×Nat):List (MStep×Nat) :=
 if t.2.2=0 then [zBd vs t.1 (whyP vs (pt.getD t.1 []) [] (zAJ (zAC vs) t.2.1))]
 else (zBP vs (zAJ t.2.1 t.2.2)).map fun l=>zBd vs t.1 (whyP vs (pt.getD t.1 []) [⟨l.var,4,l.n⟩] (zAJ (zAC vs) t.2.1))
def zAf (vs:List MVar) (cs:List Nat) (pt:List (List Nat)) (h:Nat):List (MStep×Nat):=(zFQ vs cs pt h).flatMap (zAi vs pt)
def zB3 (vs:List MVar) (cs:List Nat) (h:Nat) (some:List (MStep×Nat)):Bool:=zDF vs (cs++some.map (·.2)) h
def zB7 (vs:List MVar) (cs:List Nat) (pt:List (List Nat)) (c:Cla):List MStep :=
 (zAq (zB3 vs cs (zAF vs c)) (zAf vs cs pt (zAF vs c)).length (zAf vs cs pt (zAF vs c))).map (·.1)++[⟨2,0,c⟩]
def zBL (vs:List MVar) (cs:List Nat) (pt:List (List Nat)) (c:Cla):Bool:=zCz vs cs pt (zAF vs c)==0
def zGG (vs:List MVar) (cs:List Nat) (pt:List (List Nat)) (c:Cla):Cla:=zAq (zBL vs cs pt) c.length c
def ptsM (m:Mod):List (List Nat):=m.cons.map (zAR m.vars)
open Go.RowKit
theorem zKL (p:Nat) (pts:List Nat) (k z:Nat) (s:Nat×Nat×Bool) (h:pts[k]? = some z):zBc p (pts.drop k) s=zBc p (pts.drop (k+1)) (if zAJ z p=0 then (z,s.2.1 ||| z,true) else s):=by
 have hk:k<pts.length:=(List.getElem?_eq_some_iff.1 h).1
 have hc:pts[k]=z:=by rw[List.getElem?_eq_getElem hk] at h;exact Option.some.inj h
 rw[List.drop_eq_getElem_cons hk,hc]
 rfl
set_option maxHeartbeats 1600000 in
set_option maxRecDepth 100000 in
theorem zLS (pts:List Nat) (p:Nat) (hp36:p<2 ^ 36) (pv:Value) (w:World) (hp:PArg w pv pts) (hT:TabT w) :
 Calls Tryz.prog 233 #[pv,.int .u64 p] w fun e w'=>e=.returned (.int .u64 ((zBI pts p:Nat):Int))∧w'=w:=by
 have HT:Hid (TabT w):=hT
 have HP36:Hid (p<2 ^ 36):=hp36
 obtain⟨R,hR⟩:∃R,zBI pts p=R:=⟨_,rfl⟩
 obtain⟨S,hS⟩:∃S,zBc p pts (0,0,false)=S:=⟨_,rfl⟩
 have HS:Hid (R=if S.2.2 then clrN (S.1+1) S.1 p ||| S.2.1 else 0):=by show _=_;rw[←hR,←hS];rfl
 have HS0:Hid (S=zBc p pts (0,0,false)):=hS.symm
 rw[hR]
 obtain⟨a2,c2,rfl,hm,hrp⟩:=hp
 have HP:Hid (∀(i z:Nat),pts[i]? = some z→z<2 ^ 36∧∃b off,a2=some ⟨b,off,none⟩∧b<w.heap.size∧w.cell? ⟨b,off+i,none⟩=some (.int .u64 z)):=hrp
 unfold maxLen at hm
 obtain⟨hm1,hm⟩:=hm
 clear hT hR hS hrp hp36
 go_enter Tryz.func233,Tryz.ntmps233
 go_wp2_with fail
 go_loopw [5,6,7,12] (fun s t f i wr=>∃(k ss tt:Nat) (ff:Bool),k≤pts.length∧s=.int .u64 (ss:Int)∧t=.int .u64 (tt:Int)∧f=.bool ff∧i=.int .i64 k∧Hid (ss<2 ^ 36)∧Hid (tt<2 ^ 36)∧Hid (S=zBc p (pts.drop k) (ss,tt,ff))∧wr=w) (fun _ _ _ i _=>pts.length - (intOf i).toNat)
 case atStart=>exact⟨0,0,0,false,by omega,rfl,rfl,rfl,rfl,by show _<_;decide,by show _<_;decide,HS0,rfl⟩
 case round =>
  obtain⟨k,ss,tt,ff,hk,rfl,rfl,rfl,rfl,hs36,ht36,hst,rfl⟩:=hrel
  by_cases hlt:k<pts.length
  ·obtain⟨z,hz⟩:∃z,pts[k]? = some z:=⟨pts[k],by simp[hlt]⟩
   obtain⟨hz36,b,off,ha,hb,hc⟩:=HP.out k z hz
   subst ha
   have HZ36:Hid (z<2 ^ 36):=hz36
   have HN:Hid (S=zBc p (pts.drop (k+1)) (if zAJ z p=0 then (z,tt ||| z,true) else (ss,tt,ff))):=by show _=_;rw[hst.out];exact zKL p pts k z _ hz
   have hnt:=zAY z p (by omega) (by have:=HP36.out;omega)
   obtain⟨o,ho⟩:∃o,zAJ z p=o:=⟨_,rfl⟩
   rw[ho] at hnt HN
   clear hz hst ho
   by_cases ho0:o=0
   ·have HN2:Hid (S=zBc p (pts.drop (k+1)) (z,tt ||| z,true)):=by show _=_;rw[HN.out,if_pos ho0]
    have hor:=bits_or_u64_nat tt z (by have:=ht36.out;omega) (by omega)
    have HT36:Hid (tt ||| z<2 ^ 36):=zFK ht36.out hz36
    obtain⟨t2,ht2⟩:∃t2,tt ||| z=t2:=⟨_,rfl⟩
    rw[ht2] at hor HT36 HN2
    subst ho0
    clear ht2 HN hz36
    go_wp2
    go_roundw
    case rel=>exact⟨k+1,z,t2,true,by omega,rfl,rfl,rfl,by go_num,HZ36,HT36,HN2,trivial⟩
    case measure=>simp[intOf];omega
   ·have HN2:Hid (S=zBc p (pts.drop (k+1)) (ss,tt,ff)):=by show _=_;rw[HN.out,if_neg ho0]
    have ho1:((o:Int)==0)=false:=by simpa using ho0
    clear HN ho0 hz36
    go_wp2
    go_roundw
    case rel=>exact⟨k+1,ss,tt,ff,by omega,rfl,rfl,rfl,by go_num,hs36,ht36,HN2,trivial⟩
    case measure=>simp[intOf];omega
  ·have hke:k=pts.length:=by omega
   have HE:Hid (S=(ss,tt,ff)):=by show _=_;rw[hst.out,hke,List.drop_length];rfl
   have HR:Hid (R=if ff then clrN (ss+1) ss p ||| tt else 0):=by show _=_;rw[HS.out,HE.out]
   clear hst hke
   cases ff
   ·have HR0:Hid (R=0):=HR.out
    go_wp2
    go_ret
    exact⟨zEW HR0.out.symm,rfl⟩
   ·have HR1:Hid (R=clrN (ss+1) ss p ||| tt):=HR.out
    clear HR
    go_wp2_with fail
    go_loopw [1,5] (fun q s wx=>∃qq s2:Nat,q=.int .u64 (qq:Int)∧s=.int .u64 (s2:Int)∧Hid (qq<2 ^ 36)∧Hid (s2<2 ^ 36)∧Hid (R=clrN (s2+1) s2 qq ||| tt)∧wx=wr) (fun _ s _=>(intOf s).toNat)
    case atStart=>exact⟨p,ss,rfl,rfl,HP36,hs36,HR1,rfl⟩
    case round =>
     obtain⟨qq,s2,rfl,rfl,hq36,hs2,hr2,rfl⟩:=hrel
     by_cases hs0:s2=0
     ·have HRF:Hid (R=qq ||| tt):=by show _=_;rw[hr2.out,hs0];rfl
      have hor:=bits_or_u64_nat qq tt (by have:=hq36.out;omega) (by have:=ht36.out;omega)
      obtain⟨r,hr⟩:∃r,qq ||| tt=r:=⟨_,rfl⟩
      rw[hr] at hor HRF
      subst hs0
      clear hr hr2
      go_wp2
      go_ret
      exact⟨zEW HRF.out.symm,rfl⟩
     ·have HST:Hid (R=clrN (zAJ s2 (zAZ s2)+1) (zAJ s2 (zAZ s2)) (zAJ qq (zAZ s2)) ||| tt):=by show _=_;rw[hr2.out,zMe s2 qq hs0 hs2.out]
      have HLT:Hid (zAJ s2 (zAZ s2)<s2):=zCB s2 hs0 hs2.out
      have HF36:Hid (zAZ s2<2 ^ 36):=zJZ s2 hs0 hs2.out
      have HN0:Hid (s2≠0):=hs0
      have hne:((s2:Int) != 0)=true:=by simpa using hs0
      obtain⟨f,hf⟩:∃f,zAZ s2=f:=⟨_,rfl⟩
      have HF:Hid (zAZ s2=f):=hf
      rw[hf] at HST HLT HF36
      have hn1:=zAY qq f (by have:=hq36.out;omega) (by have:=HF36.out;omega)
      have hn2:=zAY s2 f (by have:=hs2.out;omega) (by have:=HF36.out;omega)
      obtain⟨q3,hq3⟩:∃q3,zAJ qq f=q3:=⟨_,rfl⟩
      obtain⟨s3,hs3⟩:∃s3,zAJ s2 f=s3:=⟨_,rfl⟩
      have HQ3:Hid (q3<2 ^ 36):=by rw[←hq3];exact zCK 36 _ _ hq36.out
      have HS3:Hid (s3<2 ^ 36):=by rw[←hs3];exact zCK 36 _ _ hs2.out
      rw[hq3] at hn1 HST
      rw[hs3] at hn2 HST HLT
      clear hf hq3 hs3 hs0 hr2
      go_wp2_with fail
      refine (zEA s2 HN0.out hs2.out _ HT.out).mono ?_
      rintro e w ⟨rfl,rfl⟩
      rw[HF.out]
      go_wp2_with fail
      refine (zEA s2 HN0.out hs2.out _ HT.out).mono ?_
      rintro e w ⟨rfl,rfl⟩
      rw[HF.out]
      go_wp2
      go_roundw
      case rel=>exact⟨q3,s3,rfl,rfl,HQ3,HS3,HST,trivial⟩
      case measure=>simp[intOf];exact HLT.out
end Go.Proofs.YtndcpnlaadikoaaGreatDoor
