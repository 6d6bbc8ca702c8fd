/- What the proof leans on, part 41. -/
import Derived.Test.YtndcpnlaadikoaaGreatDoorPartBn
import Derived.Test.YtndcpnlaadikoaaGreatDoorPartBl
namespace Go.Proofs.YtndcpnlaadikoaaGreatDoor
theorem zLw (vs:List MVar) (hv:zAb vs) (f:Nat→Int→Bool) (i:Nat):(ofP vs f).testBit i=true↔i / 6<vs.length∧i % 6<zAu (zAH vs (i / 6))∧f (i / 6) ((zAH vs (i / 6)).lo+((i % 6:Nat):Int))=true:=by
 unfold ofP
 rw[zAg vs hv]
 simp only[Bool.and_eq_true,decide_eq_true_eq]
theorem zBG (vs:List MVar) (hv:zAb vs) (s:Sto) (i:Nat):(zAy vs s).testBit i=true↔i / 6<vs.length∧i % 6<zAu (zAH vs (i / 6))∧(zAH vs (i / 6)).lo+((i % 6:Nat):Int)∈s.getD (i / 6) []:=by
 unfold zAy
 rw[zLw vs hv,zDy]
theorem zCc (vs:List MVar) (hv:zAb vs) (c:Cla) (i:Nat):(zAF vs c).testBit i=true↔i / 6<vs.length∧i % 6<zAu (zAH vs (i / 6))∧oneB c (i / 6) ((zAH vs (i / 6)).lo+((i % 6:Nat):Int))=true:=by
 unfold zAF
 rw[zLw vs hv]
theorem zDK (vs:List MVar) (hv:zAb vs) (i:Nat):(zAC vs).testBit i=true↔i / 6<vs.length∧i % 6<zAu (zAH vs (i / 6)):=by
 unfold zAC
 rw[zLw vs hv]
 simp
def bitV (vs:List MVar) (v:Nat) (x:Int):Nat:=6 * v+(x - (zAH vs v).lo).toNat
theorem zCG (vs:List MVar) (hv:zAb vs) (v:Nat) (x:Int) (h1:(zAH vs v).lo≤x) (h2:x≤(zAH vs v).hi):bitV vs v x / 6=v∧bitV vs v x % 6<zAu (zAH vs v)∧(zAH vs v).lo+((bitV vs v x % 6:Nat):Int)=x:=by
 have h6:=hv.2 v
 unfold zAu at h6 ⊢
 unfold bitV
 omega
theorem zFj (vs:List MVar) (i:Nat):bitV vs (i / 6) ((zAH vs (i / 6)).lo+((i % 6:Nat):Int))=i:=by
 unfold bitV
 omega
theorem zG6 (vs:List MVar) (v k:Nat) (h:k<zAu (zAH vs v)):(zAH vs v).lo≤(zAH vs v).lo+(k:Int)∧(zAH vs v).lo+(k:Int)≤(zAH vs v).hi:=by
 unfold zAu at h
 omega
def InS (vs:List MVar) (s:Sto):Prop:=s.length=vs.length∧∀v x,v<vs.length→x∈s.getD v []→(zAH vs v).lo≤x∧x≤(zAH vs v).hi
theorem zEN (vs:List MVar) (v:Nat) (h:v<vs.length):(zAK vs).getD v []=zDh (zAH vs v).lo (zAH vs v).hi:=by
 unfold zAK zAH
 rw[List.getD_eq_getElem?_getD,List.getElem?_map,List.getD_eq_getElem?_getD,List.getElem?_eq_getElem h]
 rfl
theorem zBj (s:Sto) (p:Nat→Int→Bool) (v:Nat) (x:Int):x∈(zA6 s p).getD v []↔x∈s.getD v []∧p v x=true:=by
 rw[List.getD_eq_getElem?_getD,List.getD_eq_getElem?_getD]
 cases h:s[v]? with
 | none =>
   have:(zA6 s p)[v]? = none:=by
    rw[List.getElem?_eq_none_iff] at h ⊢
    rw[zAQ];exact h
   rw[this]
   simp
 | some r =>
   rw[zBY s p v r h]
   simp[List.mem_filter]
theorem zDL (vs:List MVar):InS vs (zAK vs):=⟨zCJ vs,fun v x hv hx=>by rw[zEN vs v hv] at hx;exact (zAx _ _ _).1 hx⟩
theorem zE3 {vs:List MVar} {s:Sto} (h:InS vs s) (p:Nat→Int→Bool):InS vs (zA6 s p):=⟨(zAQ s p).trans h.1,fun v x hv hx=>h.2 v x hv ((zBj s p v x).1 hx).1⟩
theorem zG7 {t s:Sto} (h:SubS t s) (v:Nat) (x:Int) (hx:x∈t.getD v []):x∈s.getD v []:=by
 rw[List.getD_eq_getElem?_getD] at hx ⊢
 cases ht:t[v]? with
 | none=>rw[ht] at hx;cases hx
 | some r =>
   have hl:v<s.length:=by rw[←h.1];exact (List.getElem?_eq_some_iff.1 ht).1
   rw[ht] at hx
   rw[List.getElem?_eq_getElem hl]
   exact h.2 v r s[v] ht (List.getElem?_eq_getElem hl) x hx
theorem zM4 {t s:Sto} (hl:t.length=s.length) (h:∀v x,x∈t.getD v []→x∈s.getD v []):SubS t s:=⟨hl,fun k r q hr hq x hx=>by
 have:=h k x (by rw[List.getD_eq_getElem?_getD,hr];exact hx)
 rw[List.getD_eq_getElem?_getD,hq] at this
 exact this⟩
theorem zNq {vs:List MVar} {t s:Sto} (h:InS vs s) (hs:SubS t s):InS vs t:=⟨hs.1.trans h.1,fun v x hv hx=>h.2 v x hv (zG7 hs v x hx)⟩
theorem zA3 (s:Sto):zAG s=false↔∀v,v<s.length→∃x,x∈s.getD v []:=by
 constructor
 ·intro h v hv
  cases hr:s[v]? with
  | none=>rw[List.getElem?_eq_none_iff] at hr;omega
  | some r =>
    cases r with
    | nil =>
      have:=(zF8 s).2 ⟨v,hr⟩
      rw[h] at this;cases this
    | cons a q=>exact⟨a,by rw[List.getD_eq_getElem?_getD,hr];exact List.mem_cons_self ..⟩
 ·intro h
  cases hf:zAG s with
  | false=>rfl
  | true =>
    obtain⟨k,hk⟩:=(zF8 s).1 hf
    obtain⟨x,hx⟩:=h k (List.getElem?_eq_some_iff.1 hk).1
    rw[List.getD_eq_getElem?_getD,hk] at hx
    cases hx
theorem zE4 (s:Sto) (h:zAG s=false):nrmS s=s:=by unfold nrmS;rw[h];rfl
theorem zDV (vs:List MVar) (hv:zAb vs) {s:Sto} (h:InS vs s) (v:Nat) (x:Int) (hn:v<vs.length) (hx:x∈s.getD v []):(zAy vs s).testBit (bitV vs v x)=true:=by
 obtain⟨h1,h2⟩:=h.2 v x hn hx
 obtain⟨e1,e2,e3⟩:=zCG vs hv v x h1 h2
 rw[zBG vs hv,e1,e3]
 exact⟨hn,e2,hx⟩
theorem zFk (vs:List MVar) (hv:zAb vs) {s:Sto} (h:InS vs s) (hf:zAG s=false):zA7 vs.length (zAy vs s)=false:=by
 refine zEz _ _ fun v hn=>?_
 obtain⟨x,hx⟩:=(zA3 s).1 hf v (by rw[h.1];exact hn)
 have hb:=zDV vs hv h v x hn hx
 obtain⟨h1,h2⟩:=h.2 v x hn hx
 have h6:=hv.2 v
 unfold zAu at h6
 refine⟨(x - (zAH vs v).lo).toNat,by omega,?_⟩
 exact hb
theorem zJu (vs:List MVar) (hv:zAb vs) {s:Sto} (h:InS vs s) (d:Cla) (hd:zKB s d) (l:MLit) (hl:l∈d) (hlv:zBE s l=true):∃i,(zAy vs s &&& zAF vs d).testBit i=true∧((i / 6:Nat):Int)=l.var:=by
 obtain⟨h0,h1⟩:=hd l hl
 obtain⟨x,hx,hlx⟩:=List.any_eq_true.1 hlv
 have hn:l.var.toNat<vs.length:=by rw[←h.1];omega
 obtain⟨b1,b2⟩:=h.2 _ x hn hx
 obtain⟨e1,e2,e3⟩:=zCG vs hv l.var.toNat x b1 b2
 refine⟨bitV vs l.var.toNat x,(zA4 _ _ _).2 ⟨zDV vs hv h _ x hn hx,?_⟩,by rw[e1];omega⟩
 rw[zCc vs hv,e1,e3]
 exact⟨hn,e2,(zJP _ _ _).2 ⟨l,hl,by omega,hlx⟩⟩
theorem zE5 (vs:List MVar) (hv:zAb vs) (s:Sto) (d:Cla) (i:Nat) (h:(zAy vs s &&& zAF vs d).testBit i=true):∃l∈d,l.var=((i / 6:Nat):Int)∧zBE s l=true:=by
 obtain⟨h1,h2⟩:=(zA4 _ _ _).1 h
 obtain⟨_,_,g1⟩:=(zBG vs hv s i).1 h1
 obtain⟨_,_,g2⟩:=(zCc vs hv d i).1 h2
 obtain⟨l,hl,he,hx⟩:=(zJP _ _ _).1 g2
 refine⟨l,hl,he,List.any_eq_true.2 ⟨_,?_,hx⟩⟩
 unfold zHQ
 rw[he,Int.toNat_natCast]
 exact g1
theorem zKh (p:Nat) (h:zAJ p (zAZ p)=0) (i j:Nat) (hi:p.testBit i=true) (hj:p.testBit j=true):i / 6=j / 6:=by
 have h1:=zLK p j h hj
 exact ((zBV p i h hi j).1 h1).symm
theorem zIE (vs:List MVar) (hv:zAb vs) (h1:1≤vs.length) {T:Sto} (hT:InS vs T) (hf:zAG T=false) (d:Cla) (hd:zKB T d) (hs:SubS T (nrmS (zA0 T d))):zBi [zAF vs d] (zAy vs T):=by
 intro c hc
 rw[List.mem_singleton.1 hc]
 have hnf:zAG (zA0 T d)=false:=by
  cases hq:zAG (zA0 T d) with
  | false=>rfl
  | true =>
    have:zAG (nrmS (zA0 T d))=true:=by rw[zKD];exact hq
    rw[zBp hs this] at hf
    cases hf
 rw[zE4 _ hnf] at hs
 have hne:zAy vs T &&& zAF vs d≠0:=by
  intro h0
  have hno:d.any (zBE T)=false:=by
   rw[List.any_eq_false]
   intro l hl hlv
   obtain⟨i,hi,_⟩:=zJu vs hv hT d hd l hl hlv
   rw[h0] at hi
   simp at hi
  rw[zHS T d hf hno] at hnf
  obtain⟨x,hx⟩:=(zA3 _).1 hnf 0 (by rw[zAQ,hT.1];omega)
  have:=((zBj _ _ _ _).1 hx).2
  cases this
 refine⟨hne,fun hz i hi hfi=>?_⟩
 obtain⟨j,hj⟩:=zB2 hne
 obtain⟨t,ht,htv,htl⟩:=zE5 vs hv T d j hj
 have hij:i / 6=j / 6:=(zBV _ j hz hj i).1 hfi
 have hno:d.any (fun l=>!decide (l.var=t.var)&&zBE T l)=false:=by
  rw[List.any_eq_false]
  intro l hl hx
  simp only[Bool.and_eq_true,Bool.not_eq_true',decide_eq_false_iff_not] at hx
  obtain⟨k,hk,hkv⟩:=zJu vs hv hT d hd l hl hx.2
  have:=zKh _ hz j k hj hk
  apply hx.1
  rw[←hkv,htv,this]
 rw[zGi T d hf t ht htl hno] at hs
 obtain⟨g1,g2,g3⟩:=(zBG vs hv T i).1 hi
 have:=((zBj _ _ _ _).1 (zG7 hs (i / 6) _ g3)).2
 rw[htv,←hij] at this
 simp only[ne_eq,not_true_eq_false,decide_false,Bool.false_or] at this
 exact (zCc vs hv d i).2 ⟨g1,g2,this⟩
def zC8 (vs:List MVar) (r:Nat):Sto:=zA6 (zAK vs) fun k z=>r.testBit (bitV vs k z)
theorem zEO (vs:List MVar) (r v:Nat) (x:Int) (h:v<vs.length):x∈(zC8 vs r).getD v []↔((zAH vs v).lo≤x∧x≤(zAH vs v).hi)∧r.testBit (bitV vs v x)=true:=by
 unfold zC8
 rw[zBj,zEN vs v h,zAx]
theorem zG8 (vs:List MVar) (r:Nat):InS vs (zC8 vs r):=zE3 (zDL vs) _
theorem zFl (vs:List MVar) (hv:zAb vs) (r:Nat) (hr:SubP r (zAC vs)) (hl:zA7 vs.length r=false):zAG (zC8 vs r)=false:=by
 rw[zA3]
 intro v hn
 rw[(zG8 vs r).1] at hn
 obtain⟨k,hk,hb⟩:=zEK _ _ hl v hn
 obtain⟨_,h2⟩:=(zDK vs hv _).1 (hr _ hb)
 have e1:(6 * v+k) / 6=v:=by omega
 have e2:(6 * v+k) % 6=k:=by omega
 rw[e1,e2] at h2
 refine⟨(zAH vs v).lo+(k:Int),(zEO vs r v _ hn).2 ⟨zG6 vs v k h2,?_⟩⟩
 have e3:bitV vs v ((zAH vs v).lo+(k:Int))=6 * v+k:=by unfold bitV;omega
 rw[e3]
 exact hb
theorem zFm (vs:List MVar) (hv:zAb vs) (r:Nat) (hr:SubP r (zAC vs)) (i:Nat):(zAy vs (zC8 vs r)).testBit i=true↔r.testBit i=true:=by
 rw[zBG vs hv]
 constructor
 ·rintro ⟨h1,h2,h3⟩
  have:=((zEO vs r _ _ h1).1 h3).2
  rwa [zFj] at this
 ·intro h
  obtain⟨h1,h2⟩:=(zDK vs hv i).1 (hr i h)
  exact⟨h1,h2,(zEO vs r _ _ h1).2 ⟨zG6 vs _ _ h2,by rw[zFj];exact h⟩⟩
theorem zIF (vs:List MVar) (hv:zAb vs) (r:Nat) (hr:SubP r (zAC vs)) (hl:zA7 vs.length r=false) (d:Cla) (hc:zBi [zAF vs d] r):zA0 (zC8 vs r) d=zC8 vs r:=by
 have hf:=zFl vs hv r hr hl
 have heq:zAy vs (zC8 vs r)=r:=Nat.eq_of_testBit_eq fun i=>by
  have:=zFm vs hv r hr i
  cases h1:(zAy vs (zC8 vs r)).testBit i <;> cases h2:r.testBit i <;> simp_all
 obtain⟨hne,hcl⟩:=hc _ (List.mem_singleton.2 rfl)
 obtain⟨j,hj⟩:=zB2 hne
 have hj':(zAy vs (zC8 vs r) &&& zAF vs d).testBit j=true:=by rw[heq];exact hj
 obtain⟨t,ht,htv,htl⟩:=zE5 vs hv _ d j hj'
 cases hm:d.any (fun l=>!decide (l.var=t.var)&&zBE (zC8 vs r) l) with
 | true=>exact zHT _ d hf t ht htl hm
 | false =>
   rw[zGi _ d hf t ht htl hm]
   refine zHR _ _ fun k q z hq hz=>?_
   by_cases e:(k:Int)=t.var
   ·have hkj:k=j / 6:=by rw[htv] at e;omega
    have hzero:zAJ (r &&& zAF vs d) (zAZ (r &&& zAF vs d))=0:=by
     rw[zBA]
     intro i hi
     have hi':(zAy vs (zC8 vs r) &&& zAF vs d).testBit i=true:=by rw[heq];exact hi
     obtain⟨l,hl1,hlv,hll⟩:=zE5 vs hv _ d i hi'
     have h2:¬(l.var≠t.var):=fun hne2=>by
      have:=List.any_eq_false.1 hm l hl1
      simp[hne2,hll] at this
     have hij:i / 6=j / 6:=by
      have:l.var=t.var:=Classical.byContradiction h2
      rw[hlv,htv] at this
      omega
     have hjf:(zAZ (r &&& zAF vs d)).testBit j=true∨True:=Or.inr trivial
     rw[zAr]
     have hlow:=(zCY (r &&& zAF vs d) hne (by
      have h36:=zBu vs hv
      have:r &&& zAF vs d≤zAC vs:=Nat.le_trans Nat.and_le_left (Nat.le_of_testBit hr)
      omega) (Lib.ctz 64 (r &&& zAF vs d))).2.1 rfl
     have hlow':(zAy vs (zC8 vs r) &&& zAF vs d).testBit (Lib.ctz 64 (r &&& zAF vs d))=true:=by rw[heq];exact hlow
     obtain⟨l2,hl2,hlv2,hll2⟩:=zE5 vs hv _ d _ hlow'
     have h3:¬(l2.var≠t.var):=fun hne2=>by
      have:=List.any_eq_false.1 hm l2 hl2
      simp[hne2,hll2] at this
     have:l2.var=t.var:=Classical.byContradiction h3
     rw[hlv2,htv] at this
     simp only[decide_eq_true_eq]
     omega
    have hzr:z∈(zC8 vs r).getD k []:=by rw[List.getD_eq_getElem?_getD,hq];exact hz
    have hkn:k<vs.length:=by rw[←(zG8 vs r).1];exact (List.getElem?_eq_some_iff.1 hq).1
    obtain⟨⟨b1,b2⟩,hb⟩:=(zEO vs r k z hkn).1 hzr
    obtain⟨e1,e2,e3⟩:=zCG vs hv k z b1 b2
    have hfield:(zAZ (r &&& zAF vs d)).testBit (bitV vs k z)=true:=by
     rw[zBV _ j hzero hj,e1,hkj]
    have:=hcl hzero _ hb hfield
    obtain⟨_,_,g⟩:=(zCc vs hv d _).1 this
    rw[e1,e3] at g
    rw[g,Bool.or_true]
   ·simp[e]
theorem zI6 (vs:List MVar) (hv:zAb vs) (h1:1≤vs.length) (l:List Cla) (hl:∀d∈l,∀x∈d,0≤x.var∧x.var<(vs.length:Int)) (c:Cla) (T:Sto) (hT:zD2 (zBa l) (zBW (zAK vs) c) T):zAG T=zDF vs (l.map (zAF vs)) (zAF vs c):=by
 have hins:InS vs (zBW (zAK vs) c):=zE3 (zDL vs) _
 obtain⟨⟨hsub,hnrm,hcl⟩,hgr⟩:=hT
 have hTi:InS vs T:=zNq hins (hsub.trans (zGj _))
 have hcin:∀s,InS vs s→∀d∈l,zKB s d:=fun s hs d hd x hx=>by rw[hs.1];exact hl d hd x hx
 have h36:zAJ (zAC vs) (zAF vs c)<2 ^ 36:=zCK 36 _ _ (zBu vs hv)
 have hrest:∀i,(zAJ (zAC vs) (zAF vs c)).testBit i=true↔(zAy vs (zBW (zAK vs) c)).testBit i=true:=fun i=>by
  rw[zAh,zBG vs hv,zDK vs hv]
  constructor
  ·rintro ⟨⟨g1,g2⟩,g3⟩
   refine⟨g1,g2,(zBj _ _ _ _).2 ⟨by rw[zEN vs _ g1];exact (zAx _ _ _).2 (zG6 vs _ _ g2),?_⟩⟩
   cases ho:oneB c (i / 6) ((zAH vs (i / 6)).lo+((i % 6:Nat):Int)) with
   | false=>rfl
   | true=>rw[(zCc vs hv c i).2 ⟨g1,g2,ho⟩] at g3;cases g3
  ·rintro ⟨g1,g2,g3⟩
   refine⟨⟨g1,g2⟩,?_⟩
   have:=((zBj _ _ _ _).1 g3).2
   cases hb:(zAF vs c).testBit i with
   | false=>rfl
   | true =>
     rw[((zCc vs hv c i).1 hb).2.2] at this
     cases this
 unfold zDF
 cases hf:zAG T with
 | false =>
   have hclo:zBi (l.map (zAF vs)) (zAy vs T):=fun p hp=>by
    obtain⟨d,hd,rfl⟩:=List.mem_map.1 hp
    exact zIE vs hv h1 hTi hf d (hcin T hTi d hd) (hcl _ (List.mem_map.2 ⟨d,hd,rfl⟩)) _ (List.mem_singleton.2 rfl)
   have hsubp:SubP (zAy vs T) (zAJ (zAC vs) (zAF vs c)):=fun i hi=>by
    rw[hrest]
    obtain⟨g1,g2,g3⟩:=(zBG vs hv T i).1 hi
    exact (zBG vs hv _ i).2 ⟨g1,g2,zG7 (hsub.trans (zGj _)) _ _ g3⟩
   have hlt:zAy vs T<2 ^ 36:=zEV vs hv _
   have hk:=zEp vs (zAy vs T) hlt (zFk vs hv hTi hf) _ hclo _ hsubp
   obtain⟨x,hx⟩:=(zA3 T).1 hf 0 (by rw[hTi.1];omega)
   have hb:=hk _ (zDV vs hv hTi 0 x (by omega) hx)
   symm
   rw[beq_eq_false_iff_ne]
   intro h0
   rw[h0] at hb
   simp at hb
 | true =>
   symm
   rw[beq_iff_eq]
   apply Classical.byContradiction
   intro hn
   obtain⟨k1,k2,k3⟩:=zGZ vs (l.map (zAF vs)) _ h36 hn
   obtain⟨r,hr⟩:∃r,zAc vs (l.map (zAF vs)) (zAJ (zAC vs) (zAF vs c))=r:=⟨_,rfl⟩
   rw[hr] at k1 k2 k3
   have hrw:SubP r (zAC vs):=fun i hi=>((zAh _ _ _).1 (k3 i hi)).1
   have hpf:=zFl vs hv r hrw k1
   have hpi:=zG8 vs r
   have hps:SubS (zC8 vs r) (zBW (zAK vs) c):=zM4 (hpi.1.trans hins.1.symm) fun v x hx=>by
    have hvn:v<vs.length:=by
     rw[←hpi.1]
     apply Classical.byContradiction
     intro hge
     rw[List.getD_eq_getElem?_getD,List.getElem?_eq_none (by omega)] at hx
     cases hx
    have hb:=zDV vs hv hpi v x hvn hx
    rw[zFm vs hv r hrw] at hb
    have h3:=(hrest _).1 (k3 _ hb)
    obtain⟨⟨b1,b2⟩,_⟩:=(zEO vs r v x hvn).1 hx
    obtain⟨e1,e2,e3⟩:=zCG vs hv v x b1 b2
    have h4:=((zBG vs hv _ _).1 h3).2.2
    rw[e1,e3] at h4
    exact h4
   have hdf:zAG (zBW (zAK vs) c)=false:=by
    cases hq:zAG (zBW (zAK vs) c) with
    | false=>rfl
    | true=>rw[zBp hps hq] at hpf;cases hpf
   have hhold:zGl (zBa l) (zBW (zAK vs) c) (zC8 vs r):=by
    refine⟨by rw[zE4 _ hdf];exact hps,zE4 _ hpf,fun f hfm=>?_⟩
    obtain⟨d,hd,rfl⟩:=List.mem_map.1 hfm
    have hc1:zBi [zAF vs d] r:=fun p hp=>by
     rw[List.mem_singleton.1 hp]
     exact k2 _ (List.mem_map.2 ⟨d,hd,rfl⟩)
    have:=zIF vs hv r hrw k1 d hc1
    show SubS (zC8 vs r) (nrmS (zA0 (zC8 vs r) d))
    rw[this,zE4 _ hpf]
    exact SubS.refl _
   have:=zBp (hgr _ hhold) hf
   rw[hpf] at this
   cases this
open Go.RowKit
theorem zDW {w2 Y:World} {A:Prop} {vs cs:Value} {m:Mod} (h:Below w2.heap.size w2 Y∧A) (hl:MArg w2 vs cs m):MArg Y vs cs m:=MArg.below h.1 hl
theorem zFn {w2 Y:World} {A:Prop} {v:Value} {l:List MLit} (h:Below w2.heap.size w2 Y∧A) (hl:LArg w2 v l):LArg Y v l:=LArg.below h.1 hl
theorem zI7 {w2 Y:World} {A:Prop} {v:Value} {l:List Cla} (h:Below w2.heap.size w2 Y∧A) (hl:zA8 w2 v l):zA8 Y v l:=zA8.below h.1 hl
theorem zEP {w2 Y w3:World} {A:Prop} (h:Below w2.heap.size w2 Y∧A) (hw:w3=Y):Below w2.heap.size w2 w3:=hw▸h.1
theorem zFo (s:Sto) (f:Nat→Int→Bool) (h:∀r∈s,r.length≤6):∀r∈zA6 s f,r.length≤6:=by
 intro r hr
 obtain⟨i,hi,rfl⟩:=List.getElem_of_mem hr
 have hs:i<s.length:=by have:=zAQ s f;omega
 have h1:s[i]? = some s[i]:=List.getElem?_eq_getElem hs
 have h2:=zBY s f i s[i] h1
 rw[List.getElem?_eq_getElem hi] at h2
 rw[Option.some.inj h2]
 exact Nat.le_trans (List.length_filter_le _ _) (h _ (List.getElem_mem hs))
set_option maxHeartbeats 3200000 in
set_option maxRecDepth 100000 in
theorem zIG (m:Mod) (hm:zAP m=0) (l:List Cla) (hl40:∀d∈l,d.length≤40) (hin:∀d∈l,∀x∈d,0≤x.var∧x.var<(m.vars.length:Int)) (c:Cla) (vs cs u v:Value) (w:World)
 (hs6:(zAK m.vars).length≤6) (hrow:∀r∈zAK m.vars,r.length≤6) (hma:MArg w vs cs m) (hu:zA8 w u l) (hv:LArg w v c) :
 Calls Tryz.prog 42 #[modV vs cs m,u,v] w fun e w'=>∃T,e=.returned (.bool (zAG T))∧zD2 (zBa l) (zBW (zAK m.vars) c) T∧Below w.heap.size w w':=by
 have h6d:(zBk (zAK m.vars) c).length≤6:=by rw[zCD];unfold zBW;rw[zAQ];exact hs6
 have hrd:∀r∈zBk (zAK m.vars) c,r.length≤6:=by rw[zCD];exact zFo _ _ hrow
 have hid:∀d∈l,∀x∈d,0≤x.var∧x.var<((zBk (zAK m.vars) c).length:Int):=by
  have:(zBk (zAK m.vars) c).length=m.vars.length:=by rw[zCD];unfold zBW;rw[zAQ,zCJ]
  rw[this];exact hin
 have H6:Hid ((zAK m.vars).length≤6):=hs6
 have HRW:Hid (∀r∈zAK m.vars,r.length≤6):=hrow
 have H6D:Hid ((zBk (zAK m.vars) c).length≤6):=h6d
 have HRD:Hid (∀r∈zBk (zAK m.vars) c,r.length≤6):=hrd
 have HID:Hid (∀d∈l,∀x∈d,0≤x.var∧x.var<((zBk (zAK m.vars) c).length:Int)):=hid
 have H40:Hid (∀d∈l,d.length≤40):=hl40
 have HM0:Hid (zAP m=0):=hm
 have HMA:Hid (MArg w vs cs m):=hma
 have HU:Hid (zA8 w u l):=hu
 have HV:Hid (LArg w v c):=hv
 obtain⟨⟨a,cap,rfl,_,_⟩,⟨a0,c0,rfl,_,_⟩⟩:=hma
 unfold modV
 clear hs6 hrow h6d hrd hid hin hl40 hm hu hv
 go_enter Tryz.func42,Tryz.ntmps42
 go_wp2_with fail
 have HB0:Hid (Below w.heap.size w (w.alloc (.cells #[.slice a m.vars.length cap,.slice a0 m.cons.length c0,.int .i64 m.goal,.int .i64 m.var] 25))):=zAA _ _
 have hN:(w.alloc (.cells #[.slice a m.vars.length cap,.slice a0 m.cons.length c0,.int .i64 m.goal,.int .i64 m.var] 25)).heap[w.heap.size]? = some (.cells #[.slice a m.vars.length cap,.slice a0 m.cons.length c0,.int .i64 m.goal,.int .i64 m.var] 25):=heap_alloc_new _ _
 obtain⟨W,hW⟩:∃W,w.alloc (.cells #[.slice a m.vars.length cap,.slice a0 m.cons.length c0,.int .i64 m.goal,.int .i64 m.var] 25)=W:=⟨_,rfl⟩
 rw[hW] at HB0 hN ⊢
 clear hW
 have l0:=(Array.getElem?_eq_some_iff.1 hN).1
 have q0:=blk9 hN 0 _ rfl
 have q1:=blk9 hN 1 _ rfl
 have q2:=blk9 hN 2 _ rfl
 have q3:=blk9 hN 3 _ rfl
 replace HMA:Hid (MArg W (.slice a m.vars.length cap) (.slice a0 m.cons.length c0) m):=MArg.below HB0.out HMA.out
 replace HU:Hid (zA8 W u l):=zA8.below HB0.out HU.out
 replace HV:Hid (LArg W v c):=LArg.below HB0.out HV.out
 clear hN
 go_region_held3 (fun w'=>Below W.heap.size W w'∧w'.cell? ⟨w.heap.size,0,none⟩=some (.slice a m.vars.length cap)∧w'.cell? ⟨w.heap.size,1,none⟩=some (.slice a0 m.cons.length c0)∧w'.cell? ⟨w.heap.size,2,none⟩=some (.int .i64 m.goal)∧w'.cell? ⟨w.heap.size,3,none⟩=some (.int .i64 m.var))
  ((refine (fun (hB:Below W.heap.size W _)=>⟨hB,(hB.cell (p:=⟨w.heap.size,0,none⟩) l0).trans q0,(hB.cell (p:=⟨w.heap.size,1,none⟩) l0).trans q1,(hB.cell (p:=⟨w.heap.size,2,none⟩) l0).trans q2,(hB.cell (p:=⟨w.heap.size,3,none⟩) l0).trans q3⟩:Below W.heap.size W _→_) ?_;first | exact (Below.refl _ _).drew | exact zAS (by assumption) hbq | exact hB6 | exact hB5 | exact hB4 | exact hB3))
  (first
    | (go_at_call 96;refine (zGS m HM0.out _ _ _ (zDW (by assumption) HMA.out)).mono ?_;rintro e w3 ⟨x3,rfl,hx3,hbq3⟩;have hB3:=zAS (by assumption) hbq3)
    | (go_at_call 95;refine (zH3 (zAK m.vars) H6.out HRW.out c _ _ _ hx3 (zFn (by assumption) HV.out)).mono ?_;rintro e w4 ⟨x4,rfl,hx4,hbq4⟩;have hB4:=zAS (by assumption) hbq4)
    | (go_at_call 97;refine (zM1 m _ _ (zBk (zAK m.vars) c) H6D.out HRD.out l H40.out HID.out _ _ _ (zDW (by assumption) HMA.out) hx4 (zI7 (by assumption) HU.out)).mono ?_;rintro e w5 ⟨x5,T,rfl,hx5,hT,hbq5⟩;have hB5:=zAS (by assumption) hbq5)
    | (go_at_call 93;refine (zAk T _ _ hx5).mono ?_;rintro e w6 ⟨rfl,hw6⟩;have hB6:=zEP (by assumption) hw6))
 go_wp2
 go_ret
 exact⟨T,rfl,by rw[←zCD];exact hT,HB0.out.trans (hB5.mono HB0.out.size)⟩
end Go.Proofs.YtndcpnlaadikoaaGreatDoor
