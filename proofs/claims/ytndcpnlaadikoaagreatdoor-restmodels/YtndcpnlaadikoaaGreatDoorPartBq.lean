/- What the proof leans on, part 43. -/
import Derived.Test.YtndcpnlaadikoaaGreatDoorPartAo
import Derived.Test.YtndcpnlaadikoaaGreatDoorPartBp
import Derived.Test.YtndcpnlaadikoaaGreatDoorPartAm
import Derived.Test.YtndcpnlaadikoaaGreatDoorPartBg
import Derived.Test.YtndcpnlaadikoaaGreatDoorPartAu
import Derived.Test.YtndcpnlaadikoaaGreatDoorPartBj
set_option maxRecDepth 100000
set_option maxHeartbeats 1600000
namespace Go.Proofs.YtndcpnlaadikoaaGreatDoor
open Go.RowKit
theorem zQH:zMs twoM 0 [0,1]=(true,0):=by kernel_rfl
theorem zSx:allA twoM [2,1]=(false,0):=by kernel_rfl
theorem zTN:zD4 [0,1]=[0,1]:=by
 unfold zD4;exact List.mergeSort_of_pairwise (by decide)
theorem zQI:zCr twoM 0=([0,1],0):=by
 have h0:zAw twoM 0=0:=by kernel_rfl
 unfold zCr;rw[if_pos h0];have h1:zBm (twoM.cons.getD (0:Int).toNat zGD)=[0,1]:=by rfl
 unfold zAk;rw[h1,zTN]
 decide
theorem zSy {w:World} (a b:Int) (B:Nat) (h:B=w.heap.size):IArg (w.alloc (.cells #[.int .i64 a,.int .i64 b] 3)) (.slice (some ⟨B,0,none⟩) 2 2) [a,b]:=by
 subst h;refine⟨_,2,rfl,⟨by simp,by unfold maxLen;omega⟩,fun i z hz=>?_⟩
 match i,hz with
 | 0,hz=>cases hz;exact⟨_,0,rfl,by simp,by simp⟩
 | 1,hz=>cases hz;exact⟨_,0,rfl,by simp,by simp⟩
theorem zMN (w:World) :
 Calls Tryz.prog 19 #[] w fun e w'=>e=.returned (.bool true)∧Below w.heap.size w w':=by
 go_enter Tryz.func19,Tryz.ntmps19
 go_wp2_with fail
 refine (zCN _).mono ?_;rintro e w1 ⟨vs,cs,rfl,hm,hb1⟩;have HM:Hid (MArg w1 vs cs twoM):=hm;clear hm;go_wp2_with fail
 refine (zOU twoM 0 [0,1] vs cs _ _ (MArg.below (zAA _ _) HM.out) (zSy 0 1 _ rfl)).mono ?_;rintro e w2 ⟨rfl,hb2⟩;rw[zQH];have hs1:=hb1.size;have hB2:Below w.heap.size w w2:=(hb1.alloc hs1 _).trans (hb2.mono (by simp;omega))
 clear hb1 hb2 HM hs1;go_wp2_with fail
 refine (zCN _).mono ?_;rintro e w3 ⟨vs,cs,rfl,hm,hb3⟩;have HM:Hid (MArg w3 vs cs twoM):=hm;clear hm;go_wp2_with fail
 refine (zRu twoM [2,1] vs cs _ _ (MArg.below (zAA _ _) HM.out) (zSy 2 1 _ rfl)).mono ?_;rintro e w4 ⟨rfl,hb4⟩;rw[zSx];have hs2:=hB2.size;have hs3:=hb3.size;have hB4:Below w.heap.size w w4:=hB2.trans ((((hb3.alloc hs3 _).trans (hb4.mono (by simp;omega)))).mono hs2)
 clear hb3 hb4 HM hs2 hs3 hB2;go_wp2_with fail
 refine (zCN _).mono ?_;rintro e w5 ⟨vs,cs,rfl,hm,hb5⟩;go_wp2_with fail
 refine (zEt twoM 0 vs cs _ hm).mono ?_;rintro e w6 ⟨x,rfl,hx,hb6⟩;rw[zQI] at hx ⊢;have HX:Hid (∀w':World,Below w6.heap.size w6 w'→IArg w' x [0,1]):=fun w' h=>IArg.below h hx
 obtain⟨a6,c6,rfl,_,_⟩:=hx;have hs4:=hB4.size;have hs5:=hb5.size;have hB6:Below w.heap.size w w6:=hB4.trans ((hb5.trans (hb6.mono hs5)).mono hs4);clear hb5 hb6 hm hs4 hs5 hB4;go_wp2_with fail
 refine (zCN _).mono ?_;rintro e w7 ⟨vs,cs,rfl,hm,hb7⟩;go_wp2_with fail
 refine (zA9 twoM vs cs _ hm).mono ?_;rintro e w8 ⟨rfl,hb8⟩;rw[zBD];have hs7:=hb7.size;have hB8:Below w6.heap.size w6 w8:=hb7.trans (hb8.mono hs7);have hs8:=hB8.size;clear hb7 hb8 hm hs7;go_wp2_with fail
 refine (zCG [0,1] [0,1] _ _ _ (HX.out _ (hB8.alloc hs8 _)) (zSy 0 1 _ rfl)).mono ?_;rintro e w9 ⟨rfl,n,h9⟩;rw[show decide (([0,1]:List Int)=[0,1])=true from by decide]
 have hB9:Below w.heap.size w w9:=hB6.trans (((hB8.alloc hs8 _).trans ((zR3 h9).mono (by simp;omega))).mono hB6.size)
 clear h9;go_wp2
 go_ret
 exact⟨rfl,hB9⟩
def zCy (A:List Nat) (r:Nat):Prop:=∀c∈A,r &&& c≠0∧(zAL (r &&& c) (zAh (r &&& c))=0→∀i,r.testBit i=true→(zAh (r &&& c)).testBit i=true→c.testBit i=true)
def SubP (a b:Nat):Prop:=∀i,a.testBit i=true→b.testBit i=true
theorem zCV (a b i:Nat):(a &&& b).testBit i=true↔a.testBit i=true∧b.testBit i=true:=by rw[Nat.testBit_and,Bool.and_eq_true]
theorem zBK (a b i:Nat):(zAL a b).testBit i=true↔a.testBit i=true∧b.testBit i=false:=by rw[zAO,Bool.and_eq_true,Bool.not_eq_true']
theorem zEo (p i:Nat) (h:zAL p (zAh p)=0) (hi:p.testBit i=true):∀j,(zAh p).testBit j=true↔j / 6=i / 6:=by
 intro j;have h1:=(zBb _ _).1 h i hi;rw[zBa,decide_eq_true_eq] at h1;rw[zBa,decide_eq_true_eq,h1]
theorem zEp (r:Nat) (hr:r<2 ^ 36):∀(cs:List Nat) (l:Nat),zCy cs r→SubP r l→∃l',zAl cs l=some l'∧SubP r l'
 | [],l,_,hs=>⟨l,rfl,hs⟩
 | c :: t,l,hc,hs=>by
   obtain⟨h1,h2⟩:=hc c (List.mem_cons_self ..);obtain⟨i,hi⟩:=zCt h1;have hi2:=(zCV _ _ _).1 hi;have hne:l &&& c≠0:=fun h=>by
    have:=(zCV l c i).2 ⟨hs i hi2.1,hi2.2⟩;rw[h] at this;simp at this
   unfold zAl;rw[if_neg hne]
   split
   ·rename_i hf
    refine zEp r hr t _ (fun d hd=>hc d (List.mem_cons_of_mem _ hd)) fun j hj=>?_
    have hli:(l &&& c).testBit i=true:=(zCV _ _ _).2 ⟨hs i hi2.1,hi2.2⟩;have hfl:=zEo _ i hf hli;have hrf:zAL (r &&& c) (zAh (r &&& c))=0:=by
     refine (zBb _ _).2 fun k hk=>?_
     have hk2:=(zCV _ _ _).1 hk;have hkl:(l &&& c).testBit k=true:=(zCV _ _ _).2 ⟨hs k hk2.1,hk2.2⟩;have hk3:=(hfl k).1 ((zBb _ _).1 hf k hkl);have hct:(r &&& c).testBit (Lib.ctz 64 (r &&& c))=true:=by
      have hle:r &&& c≤r:=Nat.and_le_left;exact (zD6 _ h1 (by omega) _).2.1 rfl
     have hc2:=(zCV _ _ _).1 hct;have hcl:(l &&& c).testBit (Lib.ctz 64 (r &&& c))=true:=(zCV _ _ _).2 ⟨hs _ hc2.1,hc2.2⟩;have hc3:=(hfl _).1 ((zBb _ _).1 hf _ hcl);rw[zBa,decide_eq_true_eq];omega
    rw[zBK];refine⟨hs j hj,?_⟩;cases hb:(zAL (zAh (l &&& c)) (l &&& c)).testBit j
    ·rfl
    ·exfalso
     obtain⟨b1,b2⟩:=(zBK _ _ _).1 hb;have hj6:=(hfl j).1 b1;have hrj:=zEo _ i hrf hi;have:=h2 hrf j hj ((hrj j).2 hj6);rw[(zCV _ _ _).2 ⟨hs j hj,this⟩] at b2;cases b2
   ·exact zEp r hr t l (fun d hd=>hc d (List.mem_cons_of_mem _ hd)) hs
theorem zF8 (r:Nat) (hr:r<2 ^ 36) (cs:List Nat) (hc:zCy cs r):∀(f l:Nat),SubP r l→SubP r (zBH cs f l)
 | 0,l,hs=>hs
 | f+1,l,hs=>by
   obtain⟨l',h1,h2⟩:=zEp r hr cs l hc hs;unfold zBH;rw[h1];simp only
   split
   ·exact hs
   ·exact zF8 r hr cs hc f l' h2
theorem zRv (n a b:Nat) (h:SubP a b) (ha:zBt n a=false):zBt n b=false:=by
 refine zG5 n b fun v hv=>?_
 obtain⟨k,h1,h2⟩:=zHs n a ha v hv;exact⟨k,h1,h _ h2⟩
theorem zGu (vs:List MVar) (r:Nat) (hr:r<2 ^ 36) (hl:zBt vs.length r=false) (cs:List Nat) (hc:zCy cs r) (l:Nat) (hs:SubP r l):SubP r (zAa vs cs l):=by
 unfold zAa;rw[if_neg (by rw[zRv _ _ _ hs hl];decide)]
 exact zF8 r hr cs hc _ l hs
theorem zGX (n:Nat):∀(cs:List Nat) (l l':Nat),l<2 ^ 36→zAl cs l=some l'→zBt n l=false→zBt n l'=false
 | [],l,l',_,h,hl=>by simp[zAl] at h;rw[←h];exact hl
 | c :: t,l,l',h36,h,hl=>by
   unfold zAl at h
   split at h
   ·cases h
   ·rename_i h0
    split at h
    ·rename_i hf
     have h36':=zHW l (zAL (zAh (l &&& c)) (l &&& c));refine zGX n t _ l' (by omega) h (zG5 n _ fun v hv=>?_)
     obtain⟨k,k1,k2⟩:=zHs n l hl v hv;obtain⟨i,hi⟩:=zCt h0;have hfl:=zEo _ i hf hi;by_cases hv6:v=i / 6
     ·subst hv6
      refine⟨i % 6,by omega,?_⟩
      rw[show 6 * (i / 6)+i % 6=i by omega,zBK]
      refine⟨((zCV _ _ _).1 hi).1,?_⟩;rw[zAO,hi];simp
     ·refine⟨k,k1,?_⟩
      rw[zBK];refine⟨k2,?_⟩;cases hb:(zAL (zAh (l &&& c)) (l &&& c)).testBit (6 * v+k)
      ·rfl
      ·have:=(hfl _).1 ((zBK _ _ _).1 hb).1
       omega
    ·exact zGX n t l l' h36 h hl
theorem zH9 (n:Nat) (cs:List Nat):∀(f l:Nat),l<2 ^ 36→zBt n l=false→zBH cs f l≠0→zBt n (zBH cs f l)=false
 | 0,l,_,hl,_=>hl
 | f+1,l,h,hl,hn=>by
   unfold zBH at hn ⊢;cases hr:zAl cs l with
   | none=>rw[hr] at hn;exact absurd rfl hn
   | some l' =>
     rw[hr] at hn;simp only at hn ⊢;by_cases he:l'=l
     ·rw[if_pos he];exact hl
     ·rw[if_neg he] at hn ⊢
      have:=zCP cs l l' hr;exact zH9 n cs f l' (by omega) (zGX n cs l l' h hr hl) hn
theorem zJH (cs:List Nat):∀(f l:Nat),l<f→zBH cs f l≠0→zAl cs (zBH cs f l)=some (zBH cs f l)
 | 0,l,h,_=>by omega
 | f+1,l,h,hn=>by
   unfold zBH at hn ⊢;cases hr:zAl cs l with
   | none=>rw[hr] at hn;exact absurd rfl hn
   | some l' =>
     rw[hr] at hn;simp only at hn ⊢;by_cases he:l'=l
     ·rw[if_pos he];rw[he] at hr;exact hr
     ·rw[if_neg he] at hn ⊢
      have:=zCP cs l l' hr;exact zJH cs f l' (by omega) hn
theorem zGY:∀(cs:List Nat) (l:Nat),zAl cs l=some l→zCy cs l
 | [],l,_=>fun c hc=>by cases hc
 | c :: t,l,h=>by
   unfold zAl at h
   split at h
   ·cases h
   ·rename_i h0
    split at h
    ·rename_i hf
     have h1:=zCP t _ l h;have h2:=zHW l (zAL (zAh (l &&& c)) (l &&& c));have h3:zAL l (zAL (zAh (l &&& c)) (l &&& c))=l:=by omega
     rw[h3] at h;intro d hd;rcases List.mem_cons.1 hd with rfl | hd
     ·refine⟨h0,fun _ i hi hfi=>?_⟩
      have h4:=congrArg (fun z=>Nat.testBit z i) h3
      simp only[zAO,hi,hfi] at h4;have h5:(l &&& d).testBit i=true:=by
       cases hb:(l &&& d).testBit i
       ·rw[hb] at h4;simp at h4
       ·rfl
      exact ((zCV _ _ _).1 h5).2
     ·exact zGY t l h d hd
    ·rename_i hf
     intro d hd;rcases List.mem_cons.1 hd with rfl | hd
     ·exact⟨h0,fun h5=>absurd h5 hf⟩
     ·exact zGY t l h d hd
theorem zJI (vs:List MVar) (A:List Nat) (l:Nat) (h36:l<2 ^ 36) (hn:zAa vs A l≠0):zBt vs.length (zAa vs A l)=false∧zCy A (zAa vs A l)∧SubP (zAa vs A l) l:=by
 refine⟨?_,?_,fun i hi=>zCs vs A l i hi⟩
 ·unfold zAa at hn ⊢
  split
  ·rename_i hc;rw[if_pos hc] at hn;exact absurd rfl hn
  ·rename_i hc
   rw[if_neg hc] at hn;exact zH9 _ A _ l h36 (by simpa using hc) hn
 ·unfold zAa at hn ⊢
  split
  ·rename_i hc;rw[if_pos hc] at hn;exact absurd rfl hn
  ·rename_i hc
   rw[if_neg hc] at hn;exact zGY A _ (zJH A _ l (Nat.lt_succ_self _) hn)
theorem zIA {A B:List Nat} {r:Nat} (h:zCy B r) (hs:∀c∈A,c∈B):zCy A r:=fun c hc=>h c (hs c hc)
theorem zQJ (vs:List MVar) (hv:zAc vs) (g:Nat) (hg:SubP g (zAE vs)) (i:Nat):(zAH vs (zBY vs g)).testBit i=g.testBit i:=by
 unfold zAH ofP;rw[zAd vs hv];rw[Bool.eq_iff_iff];simp only[Bool.and_eq_true,decide_eq_true_eq]
 constructor
 ·rintro ⟨h1,h2,h3⟩
  unfold oneB at h3;obtain⟨l,hl,hc⟩:=List.any_eq_true.1 h3;unfold zBY at hl;obtain⟨j,hj,rfl⟩:=List.mem_map.1 hl;unfold zDg at hj;have hj2:=(List.mem_filter.1 hj).2;simp only[Bool.and_eq_true,decide_eq_true_eq] at hc;obtain⟨c1,c2⟩:=hc;have c1':j / 6=i / 6:=by omega
  rw[c1'] at c2;unfold litV at c2;simp at c2;have:j=i:=by omega
  rw[←this];exact hj2
 ·intro h
  have hw:=hg i h;unfold zAE ofP at hw;rw[zAd vs hv] at hw;simp only[Bool.and_eq_true,decide_eq_true_eq] at hw;refine⟨hw.1,hw.2.1,?_⟩;unfold oneB;refine List.any_eq_true.2 ⟨⟨((i / 6:Nat):Int),3,(zAJ vs (i / 6)).lo+((i % 6:Nat):Int)⟩,?_,?_⟩
  ·unfold zBY
   refine List.mem_map.2 ⟨i,(zJg g i (by have:=hv.1;omega)).2 h,rfl⟩
  ·simp only[decide_true,Bool.true_and]
   unfold litV;simp
theorem zMO (vs:List MVar) (hv:zAc vs) (b i:Nat) (hb:(zAE vs).testBit b=true):(zAH vs [(⟨((b / 6:Nat):Int),4,(zAJ vs (b / 6)).lo+((b % 6:Nat):Int)⟩:MLit)]).testBit i=true↔(zAE vs).testBit i=true∧i / 6=b / 6∧i≠b:=by
 unfold zAH zAE ofP at *;rw[zAd vs hv,zAd vs hv];simp only[Bool.and_eq_true,decide_eq_true_eq];unfold oneB;simp only[List.any_cons,List.any_nil,Bool.or_false,Bool.and_eq_true,decide_eq_true_eq]
 constructor
 ·rintro ⟨h1,h2,h3,h4⟩
  have h5:i / 6=b / 6:=by omega
  refine⟨⟨h1,h2,trivial⟩,h5,fun he=>?_⟩
  subst he;unfold litV at h4;simp at h4
 ·rintro ⟨⟨h1,h2,_⟩,h3,h4⟩
  refine⟨h1,h2,by omega,?_⟩
  unfold litV;rw[h3];simp;omega
theorem zF9 (vs:List MVar) (hv:zAc vs):zAH vs []=0:=by
 apply Nat.eq_of_testBit_eq;intro i;rw[zM4 vs hv,Nat.zero_testBit]
def zLD (vs:List MVar) (pts:List Nat) (any:Cla) (gone:Nat):Nat:=zCF (fun g=>zBv vs pts (zAH vs any ||| g)) (gone+1) gone gone
theorem zHA (vs:List MVar) (hv:zAc vs) (pts:List Nat) (any:Cla) (gone:Nat) (hg:SubP gone (zAE vs)):zAH vs (whyP vs pts any gone)=zAH vs any ||| zLD vs pts any gone∧SubP (zLD vs pts any gone) gone:=by
 have hs:SubP (zLD vs pts any gone) gone:=fun i hi=>zHe _ _ _ _ i hi
 refine⟨?_,hs⟩;apply Nat.eq_of_testBit_eq;intro i;unfold whyP;rw[zEg vs hv,Nat.testBit_or]
 congr 1
 exact zQJ vs hv _ (fun j hj=>hg j (hs j hj)) i
theorem zRw (vs:List MVar) (hv:zAc vs) (pt:List (List Nat)) (A:List Nat) (r:Nat) (hA:zCy A r) (k:Nat) (pts:List Nat) (hk:pt.getD k []=pts) (l:Nat) (hlw:SubP l (zAE vs)) (hrl:SubP r l)
 (hr:∀x∈zA3 vs pt (k,l,zBT pts l),x.2∈A):SubP r (zBT pts l):=by
 have hgw:SubP (zAL (zAE vs) l) (zAE vs):=fun i hi=>((zBK _ _ _).1 hi).1
 by_cases h0:zBT pts l=0
 ·exfalso
  have hm:=hr (zCR vs k (whyP vs pts [] (zAL (zAE vs) l))) (by unfold zA3;simp only;rw[if_pos h0,hk];exact List.mem_singleton.2 rfl)
  obtain⟨h1,_⟩:=hA _ hm;obtain⟨i,hi⟩:=zCt h1;obtain⟨i1,i2⟩:=(zCV _ _ _).1 hi;obtain⟨w1,w2⟩:=zHA vs hv pts [] (zAL (zAE vs) l) hgw;have i3:(zAH vs (whyP vs pts [] (zAL (zAE vs) l))).testBit i=true:=i2;rw[w1,zF9 vs hv,Nat.zero_or] at i3;have:=((zBK _ _ _).1 (w2 i i3)).2;rw[hrl i i1] at this;cases this
 ·intro b hb
  cases hab:(zBT pts l).testBit b
  ·exfalso
   have hbl:=hrl b hb;have hbw:=hlw b hbl;have hb36:b<36:=by
    have:=hbw;unfold zAE ofP at this;rw[zAd vs hv] at this;simp only[Bool.and_eq_true,decide_eq_true_eq] at this;have:=hv.1;omega
   have hlit:(⟨((b / 6:Nat):Int),3,(zAJ vs (b / 6)).lo+((b % 6:Nat):Int)⟩:MLit)∈zBY vs (zAL l (zBT pts l)):=by
    unfold zBY;exact List.mem_map.2 ⟨b,(zJg _ b hb36).2 ((zBK _ _ _).2 ⟨hbl,hab⟩),rfl⟩
   have hm:=hr (zCR vs k (whyP vs pts [⟨((b / 6:Nat):Int),4,(zAJ vs (b / 6)).lo+((b % 6:Nat):Int)⟩] (zAL (zAE vs) l))) (by
    unfold zA3;simp only;rw[if_neg h0,hk];exact List.mem_map.2 ⟨_,hlit,rfl⟩)
   obtain⟨w1,w2⟩:=zHA vs hv pts [⟨((b / 6:Nat):Int),4,(zAJ vs (b / 6)).lo+((b % 6:Nat):Int)⟩] (zAL (zAE vs) l) hgw;obtain⟨h1,h2⟩:=hA _ hm
   change r &&& zAH vs (whyP vs pts [⟨((b / 6:Nat):Int),4,(zAJ vs (b / 6)).lo+((b % 6:Nat):Int)⟩] (zAL (zAE vs) l))≠0 at h1
   change zAL (r &&& zAH vs (whyP vs pts [⟨((b / 6:Nat):Int),4,(zAJ vs (b / 6)).lo+((b % 6:Nat):Int)⟩] (zAL (zAE vs) l))) (zAh (r &&& zAH vs (whyP vs pts [⟨((b / 6:Nat):Int),4,(zAJ vs (b / 6)).lo+((b % 6:Nat):Int)⟩] (zAL (zAE vs) l))))=0→∀i,r.testBit i=true→(zAh (r &&& zAH vs (whyP vs pts [⟨((b / 6:Nat):Int),4,(zAJ vs (b / 6)).lo+((b % 6:Nat):Int)⟩] (zAL (zAE vs) l)))).testBit i=true→(zAH vs (whyP vs pts [⟨((b / 6:Nat):Int),4,(zAJ vs (b / 6)).lo+((b % 6:Nat):Int)⟩] (zAL (zAE vs) l))).testBit i=true at h2
   rw[w1] at h1 h2;generalize zLD vs pts [⟨((b / 6:Nat):Int),4,(zAJ vs (b / 6)).lo+((b % 6:Nat):Int)⟩] (zAL (zAE vs) l)=g at *;have hin:∀i,(r &&& (zAH vs [⟨((b / 6:Nat):Int),4,(zAJ vs (b / 6)).lo+((b % 6:Nat):Int)⟩] ||| g)).testBit i=true→i / 6=b / 6∧i≠b:=fun i hi=>by
    obtain⟨i1,i2⟩:=(zCV _ _ _).1 hi;rw[Nat.testBit_or,Bool.or_eq_true] at i2;rcases i2 with i2 | i2
    ·exact ((zMO vs hv b i hbw).1 i2).2
    ·have:=((zBK _ _ _).1 (w2 i i2)).2
     rw[hrl i i1] at this;cases this
   obtain⟨i,hi⟩:=zCt h1;have hct:(r &&& (zAH vs [⟨((b / 6:Nat):Int),4,(zAJ vs (b / 6)).lo+((b % 6:Nat):Int)⟩] ||| g)).testBit (Lib.ctz 64 (r &&& (zAH vs [⟨((b / 6:Nat):Int),4,(zAJ vs (b / 6)).lo+((b % 6:Nat):Int)⟩] ||| g)))=true:=by
    refine (zD6 _ h1 ?_ _).2.1 rfl;refine Nat.lt_of_le_of_lt (Nat.le_of_testBit fun j hj=>hlw j (hrl j ((zCV _ _ _).1 hj).1)) ?_
    have:=zBh vs hv;omega
   have hc6:=(hin _ hct).1;have hz:zAL (r &&& (zAH vs [⟨((b / 6:Nat):Int),4,(zAJ vs (b / 6)).lo+((b % 6:Nat):Int)⟩] ||| g)) (zAh (r &&& (zAH vs [⟨((b / 6:Nat):Int),4,(zAJ vs (b / 6)).lo+((b % 6:Nat):Int)⟩] ||| g)))=0:=by
    refine (zBb _ _).2 fun j hj=>?_
    rw[zBa,decide_eq_true_eq,(hin j hj).1,hc6]
   have hbb:=h2 hz b hb (by rw[zBa,decide_eq_true_eq,hc6])
   rw[Nat.testBit_or,Bool.or_eq_true] at hbb;rcases hbb with h | h
   ·exact ((zMO vs hv b b hbw).1 h).2.2 rfl
   ·have:=((zBK _ _ _).1 (w2 b h)).2
    rw[hbl] at this;cases this
  ·rfl
theorem zNN (vs:List MVar) (hv:zAc vs) (pt:List (List Nat)) (A:List Nat) (r:Nat) (hA:zCy A r):∀(ptl:List (List Nat)) (k l:Nat),(∀(j:Nat) pts,ptl[j]? = some pts→pt.getD (k+j) []=pts)→SubP l (zAE vs)→SubP r l →
 (∀t∈zDT k ptl l,∀x∈zA3 vs pt t,x.2∈A)→SubP r (zA2 ptl l)
 | [],k,l,_,_,hrl,_=>hrl
 | pts :: rest,k,l,hk,hlw,hrl,hr=>by
   unfold zA2;unfold zDT at hr;by_cases h0:l=0
   ·rw[if_pos h0];exact hrl
   ·rw[if_neg h0] at hr ⊢
    have h36:l<2 ^ 36:=Nat.lt_of_le_of_lt (Nat.le_of_testBit hlw) (zBh vs hv);refine zNN vs hv pt A r hA rest (k+1) (zBT pts l) (fun j q hq=>by have:=hk (j+1) q (by simpa using hq);rw[←this];congr 1;omega) (fun i hi=>hlw i (zD9 pts l i h36 hi)) ?_ (fun t ht=>hr t (List.mem_append_right _ ht))
    by_cases he:zBT pts l=l
    ·rw[he];exact hrl
    ·exact zRw vs hv pt A r hA k pts (by have:=hk 0 pts rfl;simpa using this) l hlw hrl (fun x hx=>hr (k,l,zBT pts l) (List.mem_append_left _ (by rw[if_neg he];exact List.mem_singleton.2 rfl)) x hx)
theorem zIB (vs:List MVar) (hv:zAc vs) (pt:List (List Nat)) (cs A:List Nat) (hcs:∀c∈cs,c∈A) (r:Nat) (hr36:r<2 ^ 36) (hlk:zBt vs.length r=false) (hA:zCy A r):∀(f l:Nat),SubP l (zAE vs)→SubP r l →
 (∀t∈zBn vs cs pt f l,∀x∈zA3 vs pt t,x.2∈A)→SubP r (zBN vs cs pt f l)
 | 0,l,_,hrl,_=>hrl
 | f+1,l,hlw,hrl,hr=>by
   unfold zBN;unfold zBn at hr;have hu:=zGu vs r hr36 hlk cs (zIA hA hcs) l hrl;have hc:=zNN vs hv pt A r hA pt 0 (zAa vs cs l) (fun j pts hj=>by rw[Nat.zero_add,List.getD_eq_getElem?_getD,hj];rfl) (fun i hi=>hlw i (zCs vs cs l i hi)) hu (fun t ht=>hr t (List.mem_append_left _ ht))
   split
   ·exact hrl
   ·rename_i hne
    rw[if_neg hne] at hr;have h36:l<2 ^ 36:=Nat.lt_of_le_of_lt (Nat.le_of_testBit hlw) (zBh vs hv);refine zIB vs hv pt cs A hcs r hr36 hlk hA f _ (fun i hi=>?_) hc (fun t ht=>hr t (List.mem_append_right _ ht))
    have:∀(ptl:List (List Nat)) (q:Nat),q<2 ^ 36→(zA2 ptl q).testBit i=true→q.testBit i=true:=by
     intro ptl
     induction ptl with
     | nil=>intro q _ h;exact h
     | cons pts rest ih =>
       intro q hq h;unfold zA2 at h
       split at h
       ·exact h
       ·have:=zFM pts q hq
        exact zD9 pts q i hq (ih _ (by omega) h)
    have h3:=zDA vs cs l;exact hlw i (zCs vs cs l i (this pt _ (by omega) hi))
theorem zIV (vs:List MVar) (hv:zAc vs) (cs:List Nat) (pt:List (List Nat)) (h:Nat) (hz:zBU vs cs pt h=0):zBw vs cs h (zAu vs cs pt h)=true:=by
 unfold zBw zCE;cases hb:(zAa vs (cs++(zAu vs cs pt h).map (·.2)) (zAL (zAE vs) h)==0)
 ·exfalso
  have hn:zAa vs (cs++(zAu vs cs pt h).map (·.2)) (zAL (zAE vs) h)≠0:=by simpa using hb
  have h36:zAL (zAE vs) h<2 ^ 36:=zB9 36 _ _ (zBh vs hv);obtain⟨k1,k2,k3⟩:=zJI vs _ _ h36 hn;have hle:=zDA vs (cs++(zAu vs cs pt h).map (·.2)) (zAL (zAE vs) h)
  have hL0:zAL (zAE vs) h≠0:=fun he=>hn (by omega)
  unfold zBU at hz;rw[if_neg hL0] at hz;have hs:=zIB vs hv pt cs (cs++(zAu vs cs pt h).map (·.2)) (fun c hc=>List.mem_append_left _ hc) _ (by omega) k1 k2 (zAL (zAE vs) h+1) (zAL (zAE vs) h) (fun i hi=>((zBK _ _ _).1 hi).1) k3 (fun t ht x hx=>by
   refine List.mem_append_right _ (List.mem_map.2 ⟨x,?_,rfl⟩);unfold zAu zHk;rw[if_neg hL0];exact List.mem_flatMap.2 ⟨t,ht,hx⟩)
  rw[hz] at hs;obtain⟨i,hi⟩:=zCt hn;have:=hs i hi;simp at this
 ·rfl
structure TellOk (vs:List MVar) (pt:List (List Nat)) (t:Nat×Nat×Nat):Prop where
 pts:∃pts,pt[t.1]? = some pts∧t.2.2=zBT pts t.2.1
 sub:SubP t.2.1 (zAE vs)
 ne:t.2.1≠0
 dif:t.2.2≠t.2.1
theorem zNO (vs:List MVar) (hv:zAc vs) (pt:List (List Nat)):∀(ptl:List (List Nat)) (k l:Nat),(∀(j:Nat) pts,ptl[j]? = some pts→pt[k+j]? = some pts)→SubP l (zAE vs)→∀t∈zDT k ptl l,TellOk vs pt t
 | [],k,l,_,_=>fun t ht=>by cases ht
 | pts :: rest,k,l,hk,hlw=>by
   intro t ht;unfold zDT at ht;by_cases h0:l=0
   ·rw[if_pos h0] at ht;cases ht
   ·rw[if_neg h0] at ht
    have h36:l<2 ^ 36:=Nat.lt_of_le_of_lt (Nat.le_of_testBit hlw) (zBh vs hv);rcases List.mem_append.1 ht with ht | ht
    ·by_cases he:zBT pts l=l
     ·rw[if_pos he] at ht;cases ht
     ·rw[if_neg he] at ht
      rw[List.mem_singleton.1 ht];exact⟨⟨pts,hk 0 pts rfl,rfl⟩,hlw,h0,he⟩
    ·exact zNO vs hv pt rest (k+1) (zBT pts l) (fun j q hq=>by have:=hk (j+1) q (by simpa using hq);rw[←this];congr 1;omega) (fun i hi=>hlw i (zD9 pts l i h36 hi)) t ht
theorem zJJ (vs:List MVar) (hv:zAc vs) (cs:List Nat) (pt:List (List Nat)):∀(f l:Nat),SubP l (zAE vs)→∀t∈zBn vs cs pt f l,TellOk vs pt t
 | 0,l,_=>fun t ht=>by cases ht
 | f+1,l,hlw=>by
   intro t ht;unfold zBn at ht;have h36:l<2 ^ 36:=Nat.lt_of_le_of_lt (Nat.le_of_testBit hlw) (zBh vs hv);rcases List.mem_append.1 ht with ht | ht
   ·exact zNO vs hv pt pt 0 _ (fun j pts hj=>by rw[Nat.zero_add];exact hj) (fun i hi=>hlw i (zCs vs cs l i hi)) t ht
   ·split at ht
    ·cases ht
    ·refine zJJ vs hv cs pt f _ (fun i hi=>?_) t ht
     have:∀(ptl:List (List Nat)) (q:Nat),q<2 ^ 36→(zA2 ptl q).testBit i=true→q.testBit i=true:=by
      intro ptl
      induction ptl with
      | nil=>intro q _ h;exact h
      | cons pts rest ih =>
        intro q hq h;unfold zA2 at h
        split at h
        ·exact h
        ·have:=zFM pts q hq
         exact zD9 pts q i hq (ih _ (by omega) h)
     have h3:=zDA vs cs l;exact hlw i (zCs vs cs l i (this pt _ (by omega) hi))
theorem zNP (vs:List MVar) (hv:zAc vs) (cs:List Nat) (pt:List (List Nat)) (h:Nat):∀t∈zHk vs cs pt h,TellOk vs pt t:=by
 intro t ht;unfold zHk at ht
 split at ht
 ·cases ht
 ·exact zJJ vs hv cs pt _ _ (fun i hi=>((zBK _ _ _).1 hi).1) t ht
theorem zGv (vs:List MVar) (hv:zAc vs) (c:MCon) (hsc:∀v∈zAk c,0≤v∧v<(vs.length:Int)):∀(r u:List Int) (a p:Nat),(∀v∈r,0≤v∧v<(vs.length:Int))→SubP a (zAE vs)→p∈zAm vs c r u a→SubP p (zAE vs)
 | [],u,a,p,_,ha,hp=>by
   unfold zAm at hp
   split at hp
   ·rw[List.mem_singleton.1 hp];exact ha
   ·cases hp
 | v :: r,u,a,p,hr,ha,hp=>by
   unfold zAm at hp;obtain⟨x,hx,hp⟩:=List.mem_flatMap.1 hp;refine zGv vs hv c hsc r _ _ p (fun y hy=>hr y (List.mem_cons_of_mem _ hy)) (fun i hi=>?_) hp
   rw[Nat.testBit_or,Bool.or_eq_true,zCA] at hi;rcases hi with hi | hi
   ·exact ha i hi
   ·have h1:6 * v.toNat+(x - (zAJ vs v.toNat).lo).toNat=i:=by simpa using hi
    obtain⟨b1,b2⟩:=(zDb _ _ _).1 hx;obtain⟨v0,v1⟩:=hr v (List.mem_cons_self ..);have h6:=hv.2 v.toNat;unfold zBj at h6;unfold zAE ofP;rw[zAd vs hv];simp only[Bool.and_eq_true,decide_eq_true_eq];have e1:i / 6=v.toNat:=by omega
    rw[e1];refine⟨by omega,?_,trivial⟩
    unfold zBj;omega
theorem zQK (m:Mod) (hm:zAG m=0) (j:Nat) (c:MCon) (hc:m.cons[j]? = some c) (l:Nat) (hlw:SubP l (zAE m.vars)) (hl0:l≠0) :
 (zBT (zAK m.vars c) l=0→zBv m.vars (zAK m.vars c) (zAH m.vars [] ||| zAL (zAE m.vars) l)=true) ∧
 (∀b,l.testBit b=true→(zBT (zAK m.vars c) l).testBit b=false→zBT (zAK m.vars c) l≠0→zBv m.vars (zAK m.vars c) (zAH m.vars [(⟨((b / 6:Nat):Int),4,(zAJ m.vars (b / 6)).lo+((b % 6:Nat):Int)⟩:MLit)] ||| zAL (zAE m.vars) l)=true):=by
 have hv:=zAy m hm;obtain⟨k1,k2⟩:=zC9 m hm j c hc;have hpw:∀q∈zAK m.vars c,SubP q (zAE m.vars):=fun q hq=>zGv m.vars hv c k1 _ _ _ q k1 (fun i hi=>by simp at hi) hq
 have h36:l<2 ^ 36:=Nat.lt_of_le_of_lt (Nat.le_of_testBit hlw) (zBh m.vars hv)
 constructor
 ·intro h0
  rw[zF9 m.vars hv,Nat.zero_or];unfold zBv;rw[Bool.or_eq_true]
  right
  rw[Bool.not_eq_true',List.any_eq_false];intro q hq hst;unfold zEL at hst;have hz:q &&& zAL (zAE m.vars) l=0:=by simpa using hst
  have hql:zAL q l=0:=(zBb _ _).2 fun i hi=>by
   cases hb:l.testBit i
   ·have:=(zCV q (zAL (zAE m.vars) l) i).2 ⟨hi,(zBK _ _ _).2 ⟨hpw q hq i hi,hb⟩⟩
    rw[hz] at this;simp at this
   ·rfl
  have hfd:=(zDM l (zAK m.vars c) (0,0,false)).2 (Or.inr ⟨q,hq,hql⟩);unfold zBT at h0;rw[if_pos hfd] at h0;have hst0:∀i,(zCB l (zAK m.vars c) (0,0,false)).2.1.testBit i=false:=fun i=>by
   have:=congrArg (fun z=>Nat.testBit z i) h0
   simp only[Nat.testBit_or,Nat.zero_testBit,Bool.or_eq_false_iff] at this;exact this.2
  have hsc0:(zCB l (zAK m.vars c) (0,0,false)).1=0:=by
   rcases zCf l (zAK m.vars c) (0,0,false) with h1 | ⟨h1,h2⟩
   ·exact h1
   ·apply Nat.eq_of_testBit_eq
    intro i;rw[Nat.zero_testBit];cases hb:(zCB l (zAK m.vars c) (0,0,false)).1.testBit i
    ·rfl
    ·have:=(zDr l i (zAK m.vars c) (0,0,false)).2 (Or.inr ⟨_,h1,h2,hb⟩)
     rw[hst0 i] at this;cases this
  rw[hsc0] at h0;obtain⟨i,hi⟩:=zCt hl0;have:=congrArg (fun z=>Nat.testBit z i) h0
  simp only[Nat.testBit_or,Nat.zero_testBit,Bool.or_eq_false_iff] at this;have h3:=(zHi i (0+1) 0 l (by omega) (by decide)).2 ⟨hi,fun j hj=>by simp at hj⟩
  rw[h3] at this;cases this.1
 ·intro b hbl hba hne
  unfold zBv;rw[Bool.or_eq_true]
  right
  rw[Bool.not_eq_true',List.any_eq_false];intro q hq hst;unfold zEL at hst;have hz:q &&& (zAH m.vars [(⟨((b / 6:Nat):Int),4,(zAJ m.vars (b / 6)).lo+((b % 6:Nat):Int)⟩:MLit)] ||| zAL (zAE m.vars) l)=0:=by simpa using hst
  have hno:∀i,q.testBit i=true→(zAH m.vars [(⟨((b / 6:Nat):Int),4,(zAJ m.vars (b / 6)).lo+((b % 6:Nat):Int)⟩:MLit)]).testBit i=false∧(zAL (zAE m.vars) l).testBit i=false:=fun i hi=>by
   have:=congrArg (fun z=>Nat.testBit z i) hz
   simp only[Nat.testBit_and,Nat.testBit_or,hi,Bool.true_and,Nat.zero_testBit,Bool.or_eq_false_iff] at this;exact this
  have hql:zAL q l=0:=(zBb _ _).2 fun i hi=>by
   cases hb:l.testBit i
   ·have:=(hno i hi).2
    rw[(zBK _ _ _).2 ⟨hpw q hq i hi,hb⟩] at this;cases this
   ·rfl
  have hfd:=(zDM l (zAK m.vars c) (0,0,false)).2 (Or.inr ⟨q,hq,hql⟩);unfold zBT at hba;rw[if_pos hfd,Nat.testBit_or,Bool.or_eq_false_iff] at hba;have hbq:q.testBit b=false:=by
   cases hb:q.testBit b
   ·rfl
   ·have:=(zDr l b (zAK m.vars c) (0,0,false)).2 (Or.inr ⟨q,hq,hql,hb⟩)
    rw[hba.2] at this;cases this
  have hin:∃s∈zAK m.vars c,∃j,s.testBit j=true∧j / 6=b / 6:=by
   apply Classical.byContradiction;intro hn;have:=(zHi b _ _ l (Nat.lt_succ_self _) (zFn (zAK m.vars c) l h36)).2 ⟨hbl,fun j hj he=>by
    rcases zCf l (zAK m.vars c) (0,0,false) with h1 | ⟨h1,_⟩
    ·rw[h1] at hj;simp at hj
    ·exact hn ⟨_,h1,j,hj,he⟩⟩
   rw[hba.1] at this;cases this
  obtain⟨s,hs,j2,hj,hj6⟩:=hin;rcases zEb m.vars hv c _ _ _ s hs j2 hj with h4 | ⟨v,hv1,h4⟩
  ·simp at h4
  ·obtain⟨u,_,_,l3,_,_,l6⟩:=zD8 m.vars c _ _ _ q k1 (by simp[zBS]) hq
   have hbit:=l6 v hv1;have h3:=l3 v hv1;have h6:=hv.2 v.toNat;unfold zBj at h6;have hw:=hpw q hq _ hbit;have h5:=(hno _ hbit).1;have hdiv:(6 * v.toNat+(zAf u v - (zAJ m.vars v.toNat).lo).toNat) / 6=b / 6:=by omega
   have hneb:6 * v.toNat+(zAf u v - (zAJ m.vars v.toNat).lo).toNat≠b:=fun he=>by
    rw[he,hbq] at hbit;cases hbit
   rw[(zMO m.vars hv b _ (hlw b hbl)).2 ⟨hw,hdiv,hneb⟩] at h5;cases h5
theorem zBR (m:Mod) (hm:zAG m=0) (cs:List Nat) (h:Nat):∀x∈zAu m.vars cs (ptsM m) h,∃(k:Nat) (c:MCon),m.cons[k]? = some c∧x.1.kind=1∧x.1.con=(k:Int)∧x.2=zAH m.vars x.1.cla∧zBv m.vars (zAK m.vars c) x.2=true:=by
 intro x hx;have hv:=zAy m hm;obtain⟨t,ht,hx⟩:=List.mem_flatMap.1 hx;obtain⟨⟨pts,hp,ha⟩,hsub,hne,hdif⟩:=zNP m.vars hv cs (ptsM m) h t ht;obtain⟨c,hc,hpc⟩:∃c,m.cons[t.1]? = some c∧zAK m.vars c=pts:=by
  unfold ptsM at hp;rw[List.getElem?_map] at hp;obtain⟨c,h1,h2⟩:=Option.map_eq_some_iff.1 hp;exact⟨c,h1,h2⟩
 have hgd:(ptsM m).getD t.1 []=pts:=by rw[List.getD_eq_getElem?_getD,hp];rfl
 have hgw:SubP (zAL (zAE m.vars) t.2.1) (zAE m.vars):=fun i hi=>((zBK _ _ _).1 hi).1
 obtain⟨s1,s2⟩:=zQK m hm t.1 c hc t.2.1 hsub hne;rw[hpc] at s1 s2;have say:∀(any:Cla),zBv m.vars pts (zAH m.vars any ||| zAL (zAE m.vars) t.2.1)=true→zBv m.vars pts (zAH m.vars (whyP m.vars pts any (zAL (zAE m.vars) t.2.1)))=true:=fun any hs=>by
  rw[(zHA m.vars hv pts any _ hgw).1];exact zIo (fun g=>zBv m.vars pts (zAH m.vars any ||| g)) _ _ _ hs
 unfold zA3 at hx;rw[hgd] at hx;by_cases h0:t.2.2=0
 ·rw[if_pos h0] at hx
  rw[List.mem_singleton.1 hx];refine⟨t.1,c,hc,rfl,rfl,rfl,?_⟩;rw[hpc];exact say [] (s1 (by rw[←ha];exact h0))
 ·rw[if_neg h0] at hx
  obtain⟨lt,hlt,rfl⟩:=List.mem_map.1 hx;unfold zBY at hlt;obtain⟨b,hb,rfl⟩:=List.mem_map.1 hlt;unfold zDg at hb;obtain⟨b1,b2⟩:=(zBK _ _ _).1 (List.mem_filter.1 hb).2;refine⟨t.1,c,hc,rfl,rfl,rfl,?_⟩;rw[hpc];exact say _ (s2 b b1 (by rw[←ha];exact b2) (by rw[←ha];exact h0))
def Impl (G:List Nat) (c:Nat):Prop:=∀r,r<2 ^ 36→zCy G r→zCy [c] r
theorem zNQ {G:List Nat} {c:Nat} (h:c∈G):Impl G c:=fun _ _ hg d hd=>by rw[List.mem_singleton.1 hd];exact hg c h
theorem zLE {G H:List Nat} {c:Nat} (h:Impl G c) (hs:∀d∈G,d∈H):Impl H c:=fun r hr hg=>h r hr (zIA hg hs)
theorem zOV (vs:List MVar) (hv:zAc vs) (A B:List Nat) (h:Nat) (hs:∀c∈A,Impl B c) (hf:zCE vs A h=true):zCE vs B h=true:=by
 unfold zCE at *;have h0:zAa vs A (zAL (zAE vs) h)=0:=by simpa using hf
 have h36:zAL (zAE vs) h<2 ^ 36:=zB9 36 _ _ (zBh vs hv);cases hb:(zAa vs B (zAL (zAE vs) h)==0)
 ·exfalso
  have hn:zAa vs B (zAL (zAE vs) h)≠0:=by simpa using hb
  obtain⟨k1,k2,k3⟩:=zJI vs B _ h36 hn;have hle:=zDA vs B (zAL (zAE vs) h);have:=zGu vs _ (by omega) k1 A (fun c hc=>hs c hc _ (by omega) k2 c (List.mem_singleton.2 rfl)) _ k3
  obtain⟨i,hi⟩:=zCt hn;have:=this i hi;rw[h0] at this;simp at this
 ·rfl
theorem zJK (m:Mod) (s:MStep):∀(l:List MStep) (A:List Nat),zBf m A (l++[s])=(zBf m A l&&zDK m (A++l.map fun t=>zAH m.vars t.cla) s)
 | [],A=>by simp[zBf]
 | t :: r,A=>by
   rw[List.cons_append];unfold zBf;rw[zJK m s r,Bool.and_assoc];simp
structure PrOk (m:Mod) (G:List Nat) (S:Sk):Prop where
 stp:zBf m G S.proof=true
 imp:∀c∈S.cs,Impl (G++S.proof.map fun t=>zAH m.vars t.cla) c
 cla:∀s∈S.proof,claE m.vars s.cla=0
 thr:∀s∈S.proof,zBo m.cons.length s=true
 non:∀s∈S.proof,zAH m.vars s.cla≠0
 pth:∀l∈S.path,litE m.vars l=0∧∀c:Cla,l∈c→zAH m.vars c≠0
theorem zLF (m:Mod) (G:List Nat) (P:List MStep) (t:MStep) (h1:zBf m G P=true) (ht:zDK m (G++P.map fun t=>zAH m.vars t.cla) t=true):zBf m G (zAZ m.vars [t] P)=true∧zAH m.vars t.cla∈(zAZ m.vars [t] P).map (fun t=>zAH m.vars t.cla)∧(∀s∈P,s∈zAZ m.vars [t] P)∧∀s∈zAZ m.vars [t] P,s∈P∨s=t:=by
 unfold zAZ zAZ
 split
 ·rename_i hc
  refine⟨h1,?_,fun s hs=>hs,fun s hs=>Or.inl hs⟩
  simpa using hc
 ·refine⟨by rw[zJK,h1,ht];rfl,?_,fun s hs=>List.mem_append_left _ hs,fun s hs=>?_⟩
  ·rw[List.map_append]
   exact List.mem_append_right _ (List.mem_singleton.2 rfl)
  ·rcases List.mem_append.1 hs with hs | hs
   ·exact Or.inl hs
   ·exact Or.inr (List.mem_singleton.1 hs)
theorem zFU (vs:List MVar) (t:MStep) (r P:List MStep):zAZ vs (t :: r) P=zAZ vs r (zAZ vs [t] P):=rfl
theorem zJL (vs:List MVar):∀(a b P:List MStep),zAZ vs (a++b) P=zAZ vs b (zAZ vs a P)
 | [],b,P=>rfl
 | t :: r,b,P=>by rw[List.cons_append,zFU,zJL vs r b,←zFU]
theorem zJM (m:Mod) (G:List Nat):∀(l P:List MStep),(∀t∈l,∀A,zDK m A t=true)→zBf m G P=true→zBf m G (zAZ m.vars l P)=true∧(∀t∈l,zAH m.vars t.cla∈(zAZ m.vars l P).map (fun t=>zAH m.vars t.cla))∧(∀s∈P,s∈zAZ m.vars l P)∧∀s∈zAZ m.vars l P,s∈P∨s∈l
 | [],P,_,h=>⟨h,fun t ht=>(by cases ht),fun s hs=>hs,fun s hs=>Or.inl hs⟩
 | t :: r,P,hr,h=>by
   rw[zFU];obtain⟨a1,a2,a3,a4⟩:=zLF m G P t h (hr t (List.mem_cons_self ..) _);obtain⟨b1,b2,b3,b4⟩:=zJM m G r (zAZ m.vars [t] P) (fun x hx=>hr x (List.mem_cons_of_mem _ hx)) a1
   refine⟨b1,fun x hx=>?_,fun s hs=>b3 s (a3 s hs),fun s hs=>?_⟩
   ·rcases List.mem_cons.1 hx with rfl | hx
    ·obtain⟨y,hy,he⟩:=List.mem_map.1 a2
     exact List.mem_map.2 ⟨y,b3 y hy,he⟩
    ·exact b2 x hx
   ·rcases b4 s hs with h1 | h1
    ·rcases a4 s h1 with h2 | h2
     ·exact Or.inl h2
     ·exact Or.inr (h2▸List.mem_cons_self ..)
    ·exact Or.inr (List.mem_cons_of_mem _ h1)
end Go.Proofs.YtndcpnlaadikoaaGreatDoor
