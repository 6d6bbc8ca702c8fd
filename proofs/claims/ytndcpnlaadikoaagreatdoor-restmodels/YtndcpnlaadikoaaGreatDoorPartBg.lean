/- What the proof leans on, part 33. -/
import Derived.Test.YtndcpnlaadikoaaGreatDoorPartBd
import Derived.Test.YtndcpnlaadikoaaGreatDoorPartBf
import Derived.Test.YtndcpnlaadikoaaGreatDoorPartAb
import Derived.Deep.QuietTactic
import Derived.BigQuiet
import Derived.Deep.RegionHeld3
import Derived.Test.YtndcpnlaadikoaaGreatDoorPartAo
import Derived.Test.YtndcpnlaadikoaaGreatDoorPartAm
import Derived.KernelRfl
set_option maxRecDepth 100000
set_option maxHeartbeats 3200000
namespace Go.Proofs.YtndcpnlaadikoaaGreatDoor
open Go.RowKit Go.Maps
structure Ans where
 verdict:Int
 values:List Int
 proof:List MStep
def zH4:Ans:=⟨0,[],[]⟩
def zED (fuel:Int):Sk:=⟨[],fuel.toNat,[],[]⟩
def zCT (m:Mod) (fuel:Int):Int×List Int×Sk:=zAt m.vars (ptsM m) (zED fuel)
def zC2 (m:Mod) (fuel:Int):Ans×Int :=
 if zAG m=0 then
  (if fuel<0∨300<fuel then (zH4,3)
   else if (zCT m fuel).1=2 then (⟨2,[],(zCT m fuel).2.2.proof⟩,0) else (⟨(zCT m fuel).1,(zCT m fuel).2.1,[]⟩,0))
 else (zH4,zAG m)
structure AnsQ (base:Nat) (w:World) (vv pp:Value) (a:Ans):Prop where
 val:w.ownsRow base 3 1 vv a.values.length (a.values.map (Value.int .i64))
 prf:∃L:List SV,zB0 base w pp L∧L.map (·.1)=a.proof
theorem zGP (base:Nat) (w:World) (v:Int):AnsQ base w (.slice none 0 0) (.slice none 0 0) ⟨v,[],[]⟩:=⟨World.ownsRow_nil _ _ _ _,[],⟨World.ownsRow_nil _ _ _ _,fun x hx=>by cases hx⟩,rfl⟩
theorem AnsQ.below {base:Nat} {w w':World} {vv pp:Value} {a:Ans} (h:AnsQ base w vv pp a) (hb:Below w.heap.size w w'):AnsQ base w' vv pp a:=by
 obtain⟨L,h1,h2⟩:=h.prf;exact⟨zAB h.val hb,L,h1.below hb,h2⟩
theorem AnsQ.set {base:Nat} {w:World} {vv pp:Value} {a:Ans} {C:Nat} {cs:Array Value} (h:AnsQ base w vv pp a) (hC:w.heap[C]? = some (.cells cs 53)) (i:Nat) (u:Value):AnsQ base (w.setCell ⟨C,i,none⟩ u) vv pp a:=by
 obtain⟨L,h1,h2⟩:=h.prf;exact⟨zAX h.val hC (by decide) i u,L,h1.set hC (by decide) (by decide) i u,h2⟩
theorem AnsQ.set3 {base:Nat} {w:World} {vv pp:Value} {a:Ans} {C:Nat} {x y z:Value} (h:AnsQ base w vv pp a) (hC:w.heap[C]? = some (.cells #[x,y,z] 53)) (u0 u1 u2:Value):AnsQ base (((w.setCell ⟨C,0,none⟩ u0).setCell ⟨C,1,none⟩ u1).setCell ⟨C,2,none⟩ u2) vv pp a:=by
 have h1:=h.set hC 0 u0;have e1:(w.setCell ⟨C,0,none⟩ u0).heap[C]? = some (.cells #[u0,y,z] 53):=by rw[heap_setCell_same w C 0 _ _ u0 hC];rfl
 have h2:=h1.set e1 1 u1;have e2:((w.setCell ⟨C,0,none⟩ u0).setCell ⟨C,1,none⟩ u1).heap[C]? = some (.cells #[u0,u1,z] 53):=by rw[heap_setCell_same _ C 1 _ _ u1 e1];rfl
 exact h2.set e2 2 u2
theorem zGQ (w:World) (a b:Obj):((w.alloc a).alloc b).heap[w.heap.size]? = some a∧((w.alloc a).alloc b).heap[w.heap.size+1]? = some b:=by
 refine⟨(Below.heap_alloc _ _ _ (by simp)).trans (heap_alloc_new w a),?_⟩
 have h:=heap_alloc_new (w.alloc a) b;rw[World.size_alloc] at h;exact h
theorem zG9 (vs:List MVar) (fuel:Int) (h:fuel≤300):SkO vs (zED fuel):=⟨by simp[zED],by simp[zED];omega,zQ8 vs⟩
theorem zFx (m:Mod) (fuel:Int) (vs cs:Value) (w:World) (hma:MArg w vs cs m) (hT:TabT w) :
 Calls Tryz.prog 25 #[modV vs cs m,.int .i64 fuel] w fun e w'=>∃vv pp,e=.returned (.tuple #[.agg #[.int .i64 (zC2 m fuel).1.verdict,vv,pp],.int .i64 (zC2 m fuel).2])∧AnsQ w.heap.size w' vv pp (zC2 m fuel).1∧Below w.heap.size w w':=by
 have HMA:Hid (∀w',Below w.heap.size w w'→MArg w' vs cs m):=fun w' h=>MArg.below h hma
 have HT:Hid (∀w',Below w.heap.size w w'→TabT w'):=fun w' h=>hT.below h
 obtain⟨⟨a1,c1,rfl,_,_⟩,⟨a2,c2,rfl,_,_⟩⟩:=hma;obtain⟨R,hR⟩:∃R,zC2 m fuel=R:=⟨_,rfl⟩;rw[hR];obtain⟨er,her⟩:∃er,zAG m=er:=⟨_,rfl⟩;have HER:Hid (zAG m=er):=her;unfold zC2 at hR;rw[her] at hR;have HR:=(show Hid _ from hR)
 clear hR her hT;unfold modV;go_enter Tryz.func25,Tryz.ntmps25
 go_wp2_with fail
 obtain⟨HA,HB⟩:=zGQ w (.cells #[.slice a1 m.vars.length c1,.slice a2 m.cons.length c2,.int .i64 m.goal,.int .i64 m.var] 25) (.cells #[.int .i64 0,.slice none 0 0,.slice none 0 0] 53);have hbY:Below w.heap.size w ((w.alloc (.cells #[.slice a1 m.vars.length c1,.slice a2 m.cons.length c2,.int .i64 m.goal,.int .i64 m.var] 25)).alloc (.cells #[.int .i64 0,.slice none 0 0,.slice none 0 0] 53)):=(zAA _ _).alloc (by simp) _
 refine (zA9 m (.slice a1 m.vars.length c1) (.slice a2 m.cons.length c2) _ (HMA.out _ hbY)).mono ?_;rintro e w1 ⟨rfl,hb1⟩;rw[HER.out];have HA1:Hid (w1.heap[w.heap.size]? = some (.cells #[.slice a1 m.vars.length c1,.slice a2 m.cons.length c2,.int .i64 m.goal,.int .i64 m.var] 25)):=(hb1.block _ (by simp;omega)).trans HA
 have HB1:Hid (w1.heap[w.heap.size+1]? = some (.cells #[.int .i64 0,.slice none 0 0,.slice none 0 0] 53)):=(hb1.block _ (by simp)).trans HB
 have HBL:Hid (Below w.heap.size w w1):=hbY.trans (hb1.mono (by simp;omega))
 have hs1:w.heap.size+2≤w1.heap.size:=by simpa using hb1.size
 clear hb1 HA HB hbY;have g0:=blk9 HA1.out 0 _ rfl;have g1:=blk9 HA1.out 1 _ rfl;have g2:=blk9 HA1.out 2 _ rfl;have g3:=blk9 HA1.out 3 _ rfl;have r0:=blk9 HB1.out 0 _ rfl;have r1:=blk9 HB1.out 1 _ rfl;have r2:=blk9 HB1.out 2 _ rfl;have z0:=frz9 HB1.out 0;have z1:=frz9 HB1.out 1;have z2:=frz9 HB1.out 2;have lq:w.heap.size<w1.heap.size:=by omega
 have lr:w.heap.size+1<w1.heap.size:=by omega
 by_cases he:er=0
 ·subst he
  have hR:=HR.out;rw[if_pos rfl] at hR;by_cases hf:fuel<0∨300<fuel
  ·rw[if_pos hf] at hR
   have HN:Hid ((zH4,(3:Int))=R):=hR;have HQ:Hid (AnsQ w.heap.size (((w1.setCell ⟨w.heap.size+1,0,none⟩ (.int .i64 0)).setCell ⟨w.heap.size+1,1,none⟩ (.slice none 0 0)).setCell ⟨w.heap.size+1,2,none⟩ (.slice none 0 0)) (.slice none 0 0) (.slice none 0 0) zH4):=zGP _ _ _;have HBE:Hid (Below w.heap.size w (((w1.setCell ⟨w.heap.size+1,0,none⟩ (.int .i64 0)).setCell ⟨w.heap.size+1,1,none⟩ (.slice none 0 0)).setCell ⟨w.heap.size+1,2,none⟩ (.slice none 0 0))):=((HBL.out.setCell (by simp only;omega) _).setCell (by simp only;omega) _).setCell (by simp only;omega) _
   clear hR HR;by_cases hf0:fuel<0
   ·clear hf
    go_wp2
    refine bodyPost_ret (by simp[results,Tryz.results25,go_sem, *];try rfl) rfl ?_
    rw[←HN.out];exact⟨_,_,rfl,HQ.out,HBE.out⟩
   ·have hf1:300<fuel:=by rcases hf with h | h;exact absurd h hf0;exact h
    clear hf;go_wp2
    refine bodyPost_ret (by simp[results,Tryz.results25,go_sem, *];try rfl) rfl ?_
    rw[←HN.out];exact⟨_,_,rfl,HQ.out,HBE.out⟩
  ·rw[if_neg hf] at hR
   have hf0:¬fuel<0:=fun h=>hf (Or.inl h)
   have hf1:¬300<fuel:=fun h=>hf (Or.inr h)
   obtain⟨fn,rfl⟩:∃fn:Nat,fuel=(fn:Int):=⟨fuel.toNat,by omega⟩
   have HR2:=(show Hid _ from hR)
   clear hR HR hf;go_wp2_with fail
   refine (zPw m HER.out fn (.slice a1 m.vars.length c1) (.slice a2 m.cons.length c2) w1 (HMA.out _ HBL.out) (HT.out _ HBL.out)).mono ?_;rintro e W ⟨s,rfl,r,mb,pv,hB,hD,hbW,hr,hs,hmb⟩;have HSB:Hid (SkB W s r mb (.slice a1 m.vars.length c1) pv m.vars (ptsM m)):=hB;have HSD:=(show Hid _ from hD)
   have HBW:Hid (Below w1.heap.size w1 W):=hbW;clear hB hD hbW;go_wp2_with fail
   refine (zKw m.vars (zBg m HER.out) (zJe m HER.out) (ptsM m) W s r mb _ pv _ _ _ HSB.out [] ⟨[],fn,[],[]⟩ (zG9 m.vars (fn:Int) (by omega)) W HSD.out).mono ?_
   rintro e w2 ⟨x,rfl,hox,htf,cv',prv',pav',L',hd2⟩;obtain⟨X,hX⟩:∃X,zAt m.vars (ptsM m) ⟨[],fn,[],[]⟩=X:=⟨_,rfl⟩;rw[hX] at hox hd2 ⊢;have HXE:Hid (zCT m (fn:Int)=X):=hX;rw[HXE.out] at HR2;have HO2:Hid (w2.ownsRow W.heap.size 3 1 x X.2.1.length (X.2.1.map (Value.int .i64))):=hox;have HD2:=(show Hid _ from hd2)
   have HB2:Hid (w2.heap[w.heap.size+1]? = some (.cells #[.int .i64 0,.slice none 0 0,.slice none 0 0] 53)):=by
    have h1:=(HBW.out.block _ lr).trans HB1.out;exact (htf.block _ _ _ _ h1 (by unfold TNo;decide)).trans h1
   have HBL2:Hid (Below w.heap.size w w2):=by
    have hfr:=hd2.fr;have h1:=HBL.out.trans (HBW.out.mono HBL.out.size);refine⟨hfr.os.trans h1.os,hfr.tape.trans h1.tape,hfr.output.trans h1.output,Nat.le_trans h1.size hfr.size,fun k hk=>(hfr.block k (Nat.lt_of_lt_of_le hk h1.size) (by unfold XS;have:=HBL.out.size;omega)).trans (h1.block k hk)⟩
   have HWS:Hid (w.heap.size≤W.heap.size):=Nat.le_trans HBL.out.size HBW.out.size;obtain⟨s0,s1,s2,s3,s4,s5,s6⟩:=hd2.cells;obtain⟨apr,cpr,rfl⟩:=zAC hd2.prf.1;obtain⟨ax,cx,rfl⟩:=zAC hox;have hsq:w.heap.size+1<w2.heap.size:=(Array.getElem?_eq_some_iff.1 HB2.out).1;clear hox htf hd2 hX r0 r1 r2 z0 z1 z2 g0 g1 g2 g3 hf0 hf1;have r0:=blk9 HB2.out 0 _ rfl;have r1:=blk9 HB2.out 1 _ rfl;have r2:=blk9 HB2.out 2 _ rfl;have z0:=frz9 HB2.out 0;have z1:=frz9 HB2.out 1;have z2:=frz9 HB2.out 2;obtain⟨x1,x2,x3⟩:=X;simp only at HO2 HD2 s3 HR2;by_cases hv:x1=2
   ·have hR:=HR2.out
    rw[if_pos hv] at hR;subst hv;have HN:Hid ((⟨2,[],x3.proof⟩,0)=R):=hR;have HQ:Hid (AnsQ w.heap.size (((w2.setCell ⟨w.heap.size+1,0,none⟩ (.int .i64 2)).setCell ⟨w.heap.size+1,1,none⟩ (.slice none 0 0)).setCell ⟨w.heap.size+1,2,none⟩ (.slice apr L'.length cpr)) (.slice none 0 0) (.slice apr L'.length cpr) ⟨2,[],x3.proof⟩) :=
     AnsQ.set3 (w:=w2) ⟨World.ownsRow_nil _ _ _ _,L',HD2.out.prf.mono HWS.out,HD2.out.prfE⟩ HB2.out _ _ _
    have HBE:Hid (Below w.heap.size w (((w2.setCell ⟨w.heap.size+1,0,none⟩ (.int .i64 2)).setCell ⟨w.heap.size+1,1,none⟩ (.slice none 0 0)).setCell ⟨w.heap.size+1,2,none⟩ (.slice apr L'.length cpr))):=((HBL2.out.setCell (by simp only;omega) _).setCell (by simp only;omega) _).setCell (by simp only;omega) _
    clear hR HR2 HO2;go_wp2
    refine bodyPost_ret (by simp[results,Tryz.results25,go_sem, *];try rfl) rfl ?_
    rw[←HN.out];exact⟨_,_,rfl,HQ.out,HBE.out⟩
   ·have hR:=HR2.out
    rw[if_neg hv] at hR;have hv':(x1==2)=false:=by simpa using hv
    have HN:Hid ((⟨x1,x2,[]⟩,0)=R):=hR;have HQ:Hid (AnsQ w.heap.size (((w2.setCell ⟨w.heap.size+1,0,none⟩ (.int .i64 x1)).setCell ⟨w.heap.size+1,1,none⟩ (.slice ax x2.length cx)).setCell ⟨w.heap.size+1,2,none⟩ (.slice none 0 0)) (.slice ax x2.length cx) (.slice none 0 0) ⟨x1,x2,[]⟩) :=
     AnsQ.set3 (w:=w2) ⟨World.ownsRow.mono HO2.out HWS.out,[],⟨World.ownsRow_nil _ _ _ _,fun x hx=>by cases hx⟩,rfl⟩ HB2.out _ _ _
    have HBE:Hid (Below w.heap.size w (((w2.setCell ⟨w.heap.size+1,0,none⟩ (.int .i64 x1)).setCell ⟨w.heap.size+1,1,none⟩ (.slice ax x2.length cx)).setCell ⟨w.heap.size+1,2,none⟩ (.slice none 0 0))):=((HBL2.out.setCell (by simp only;omega) _).setCell (by simp only;omega) _).setCell (by simp only;omega) _
    clear hR HR2 HO2;go_wp2
    refine bodyPost_ret (by simp[results,Tryz.results25,go_sem, *];try rfl) rfl ?_
    rw[←HN.out];exact⟨_,_,rfl,HQ.out,HBE.out⟩
 ·have hR:=HR.out
  rw[if_neg he] at hR;have HN:Hid ((zH4,er)=R):=hR;have he':(er != 0)=true:=by simpa using he
  have HQ:Hid (AnsQ w.heap.size (((w1.setCell ⟨w.heap.size+1,0,none⟩ (.int .i64 0)).setCell ⟨w.heap.size+1,1,none⟩ (.slice none 0 0)).setCell ⟨w.heap.size+1,2,none⟩ (.slice none 0 0)) (.slice none 0 0) (.slice none 0 0) zH4):=zGP _ _ _;have HBE:Hid (Below w.heap.size w (((w1.setCell ⟨w.heap.size+1,0,none⟩ (.int .i64 0)).setCell ⟨w.heap.size+1,1,none⟩ (.slice none 0 0)).setCell ⟨w.heap.size+1,2,none⟩ (.slice none 0 0))):=((HBL.out.setCell (by simp only;omega) _).setCell (by simp only;omega) _).setCell (by simp only;omega) _
  clear hR HR;go_wp2
  refine bodyPost_ret (by simp[results,Tryz.results25,go_sem, *];try rfl) rfl ?_
  rw[←HN.out];exact⟨_,_,rfl,HQ.out,HBE.out⟩
open Go.RowKit
theorem zPx {α:Type} (a b:List α) (m:Nat) (x:α) (h:a.take m=b.take m) (ha:a[m]? = some x) (hb:b[m]? = some x):a.take (m+1)=b.take (m+1):=by
 rw[List.take_add_one,List.take_add_one,h,ha,hb]
theorem zRZ {α:Type} (a b:List α) (m:Nat) (h:a.take m=b.take m) (ha:¬m<a.length) (hl:a.length=b.length):a=b:=by
 rwa [List.take_of_length_le (by omega),List.take_of_length_le (by omega)] at h
theorem zRa {α:Type} (a b:List α) (m:Nat) (x y:α) (ha:a[m]? = some x) (hb:b[m]? = some y) (h:x≠y):a≠b:=by
 intro e;subst e;rw[ha] at hb;cases hb;exact h rfl
theorem zCG (l k:List Int) (v u:Value) (w:World) (hv:IArg w v l) (hu:IArg w u k) :
 Calls Tryz.prog 32 #[v,u] w fun e w'=>e=.returned (.bool (decide (l=k)))∧∃n,w'=w.drewN n:=by
 obtain⟨a,c,rfl,hm,hr⟩:=hv;obtain⟨a',c',rfl,hm',hr'⟩:=hu;have HV:Hid (∀(i:Nat) (z:Int),l[i]? = some z→∃b off,a=some ⟨b,off,none⟩∧b<w.heap.size∧w.cell? ⟨b,off+i,none⟩=some (.int .i64 z)):=hr;have HV':Hid (∀(i:Nat) (z:Int),k[i]? = some z→∃b off,a'=some ⟨b,off,none⟩∧b<w.heap.size∧w.cell? ⟨b,off+i,none⟩=some (.int .i64 z)):=hr';obtain⟨R,hR⟩:∃R,decide (l=k)=R:=⟨_,rfl⟩;rw[hR];have HR:Hid (decide (l=k)=R):=hR;unfold maxLen at hm hm';obtain⟨hm1,hm⟩:=hm;obtain⟨hm1',hm'⟩:=hm';clear hr hr' hR;by_cases hl:l.length=k.length
 ·have HL:Hid (l.length=k.length):=hl
  have g0:((l.length:Int) != (k.length:Int))=false:=by simp[hl]
  clear hl;go_enter Tryz.func32,Tryz.ntmps32
  go_wp2_with fail
  go_loopw [5] (fun i wr=>∃m:Nat,m≤l.length∧i=.int .i64 m∧Hid (l.take m=k.take m)∧∃n,wr=w.drewN n) (fun i _=>l.length - (intOf i).toNat)
  case atStart=>exact⟨0,by omega,rfl,rfl,0,rfl⟩
  case round =>
   obtain⟨m,hml,rfl,hall,nq,rfl⟩:=hrel;by_cases hlt:m<l.length
   ·have hlt':m<k.length:=by rw[←HL.out];exact hlt
    obtain⟨x,hx⟩:∃x,l[m]? = some x:=⟨l[m],by simp[hlt]⟩
    obtain⟨y,hy⟩:∃y,k[m]? = some y:=⟨k[m],by simp[hlt']⟩
    obtain⟨b,off,ha,hb,hc⟩:=HV.out m x hx;obtain⟨b',off',ha',hb',hd⟩:=HV'.out m y hy;have HX:Hid (l[m]? = some x):=hx;have HY:Hid (k[m]? = some y):=hy;subst ha;subst ha';clear hx hy;by_cases hq:x=y
    ·subst hq
     have HN:Hid (l.take (m+1)=k.take (m+1)):=zPx l k m x hall.out HX.out HY.out;go_wp2
     go_quiet (fail)
     go_wp2
     go_roundw
     case rel=>exact⟨m+1,by omega,by go_num,HN,_,rfl⟩
     case measure=>simp[intOf];omega
    ·have HN:Hid (R=false):=by rw[←HR.out];exact decide_eq_false (zRa l k m x y HX.out HY.out hq)
     have hq2:(x != y)=true:=by simpa using hq
     clear hq;go_wp2
     go_quiet (fail)
     go_wp2
     go_ret
     exact⟨zAD HN.out.symm,_,zB4 _ _ _⟩
   ·have HN:Hid (R=true):=by rw[←HR.out];exact decide_eq_true (zRZ l k m hall.out hlt HL.out)
    go_wp2
    go_ret
    exact⟨zAD HN.out.symm,_,rfl⟩
 ·have HN:Hid (R=false):=by rw[←HR.out];exact decide_eq_false (fun h=>hl (by rw[h]))
  have g0:((l.length:Int) != (k.length:Int))=true:=by simp;omega
  clear hl;go_enter Tryz.func32,Tryz.ntmps32
  go_wp2
  go_ret
  exact⟨zAD HN.out.symm,0,rfl⟩
theorem RArg.at {w:World} {a:Option Addr} {n c:Nat} {l:List (List Int)} (h:RArg w (.slice a n c) l) (i:Nat) (r:List Int) (hr:l[i]? = some r):∃b off x,a=some ⟨b,off,none⟩∧b<w.heap.size∧w.cell? ⟨b,off+i,none⟩=some x∧IArg w x r:=by
 obtain⟨a',c',hv,_,hh⟩:=h;cases hv
 exact hh i r hr
theorem zGo (s:List (List Int)) (v u:Value) (w:World) (hv:RArg w v s) (hu:RArg w u s) :
 Calls Tryz.prog 61 #[v,u] w fun e w'=>e=.returned (.bool true)∧∃n,w'=w.drewN n:=by
 have HA:Hid (RArg w v s):=hv;have HA':Hid (RArg w u s):=hu;obtain⟨a,c,rfl,hm,_⟩:=hv;obtain⟨a',c',rfl,hm',_⟩:=hu;unfold maxLen at hm hm';obtain⟨hm1,hm⟩:=hm;obtain⟨hm1',hm'⟩:=hm';have g0:((s.length:Int) != (s.length:Int))=false:=by simp
 go_enter Tryz.func61,Tryz.ntmps61
 go_wp2_with fail
 go_loopw [5] (fun i wr=>∃m:Nat,m≤s.length∧i=.int .i64 m∧∃n,wr=w.drewN n) (fun i _=>s.length - (intOf i).toNat)
 case atStart=>exact⟨0,by omega,rfl,0,rfl⟩
 case round =>
  obtain⟨m,hml,rfl,nq,rfl⟩:=hrel;by_cases hlt:m<s.length
  ·obtain⟨x,hx⟩:∃x,s[m]? = some x:=⟨s[m],by simp[hlt]⟩
   obtain⟨b,off,vx,rfl,hb,hc,hix⟩:=RArg.at HA.out m x hx;obtain⟨b',off',vy,rfl,hb',hd,hiy⟩:=RArg.at HA'.out m x hx;have HIX:Hid (IArg w vx x):=hix;have HIY:Hid (IArg w vy x):=hiy;obtain⟨a5,c5,rfl,_,_⟩:=hix;obtain⟨a6,c6,rfl,_,_⟩:=hiy;clear hx;have HS:Hid (∀p q,Calls Tryz.prog 32 #[.slice a5 x.length c5,.slice a6 x.length c6] (w.drewN (p+q)) fun e w'=>e=.returned (.bool true)∧∃n,w'=w.drewN (p+n)):=by
    intro p q;refine (zCG x x _ _ (w.drewN (p+q)) HIX.out HIY.out).mono ?_;rintro e w' ⟨rfl,n,rfl⟩;exact⟨by simp,q+n,by rw[zB4,Nat.add_assoc]⟩
   go_wp2
   go_quiet ((go_at_call 32;exact HS.out _ _))
   go_wp2
   go_roundw
   case rel=>exact⟨m+1,by omega,by go_num,_,rfl⟩
   case measure=>simp[intOf];omega
  ·go_wp2
   go_ret
   exact⟨rfl,_,rfl⟩
theorem LArg.nth {w:World} {a:Option Addr} {n c:Nat} {l:List MLit} (h:LArg w (.slice a n c) l) (i:Nat) (t:MLit) (hr:l[i]? = some t):∃b off,a=some ⟨b,off,none⟩∧b<w.heap.size ∧
 w.cell? ⟨b,off+i * 3,none⟩=some (.int .i64 t.var)∧w.cell? ⟨b,off+i * 3+1,none⟩=some (.int .i64 t.op)∧w.cell? ⟨b,off+i * 3+2,none⟩=some (.int .i64 t.n):=by
 obtain⟨a',c',hv,_,hh⟩:=h;cases hv
 exact hh i t hr
theorem zFy (s:List MLit) (v u:Value) (w:World) (hv:LArg w v s) (hu:LArg w u s) :
 Calls Tryz.prog 10 #[v,u] w fun e w'=>e=.returned (.bool true)∧∃n,w'=w.drewN n:=by
 have HA:Hid (LArg w v s):=hv;have HA':Hid (LArg w u s):=hu;obtain⟨a,c,rfl,hm,_⟩:=hv;obtain⟨a',c',rfl,hm',_⟩:=hu;unfold maxLen at hm hm';obtain⟨hm1,hm⟩:=hm;obtain⟨hm1',hm'⟩:=hm';have g0:((s.length:Int) != (s.length:Int))=false:=by simp
 go_enter Tryz.func10,Tryz.ntmps10
 go_wp2_with fail
 go_loopw [5] (fun i wr=>∃m:Nat,m≤s.length∧i=.int .i64 m∧∃n,wr=w.drewN n) (fun i _=>s.length - (intOf i).toNat)
 case atStart=>exact⟨0,by omega,rfl,0,rfl⟩
 case round =>
  obtain⟨m,hml,rfl,nq,rfl⟩:=hrel;by_cases hlt:m<s.length
  ·obtain⟨x,hx⟩:∃x,s[m]? = some x:=⟨s[m],by simp[hlt]⟩
   obtain⟨b,off,rfl,hb,h0,h1,h2⟩:=LArg.nth HA.out m x hx;obtain⟨b',off',rfl,hb',h0',h1',h2'⟩:=LArg.nth HA'.out m x hx;clear hx;go_wp2
   go_quiet (fail)
   go_wp2
   go_roundw
   case rel=>exact⟨m+1,by omega,by go_num,_,rfl⟩
   case measure=>simp[intOf];omega
  ·go_wp2
   go_ret
   exact⟨rfl,_,rfl⟩
def twoC:MCon:=⟨1,[0,1],[1,-1],-1,[],[]⟩
theorem zSf:zD4 [0,1]=[0,1]:=by
 unfold zD4;exact List.mergeSort_of_pairwise (by decide)
theorem zI7:zAk twoC=[0,1]:=by
 have h1:zBm twoC=[0,1]:=by rfl
 unfold zAk;rw[h1,zSf]
 decide
def twoP:List Nat:=[129,257,258]
theorem zEy:zAK twoM.vars twoC=twoP:=by
 unfold zAK;rw[zI7]
 decide +kernel
theorem zRb:twoM.cons.getD (0:Int).toNat zGD=twoC:=rfl
def zSg (vs:List MVar) (ok:Nat→List Int→Bool):Nat→List Int→List (List Int)
 | 0,pre=>[pre]
 | k+1,pre=>(zEM (zAJ vs pre.length).lo (zAJ vs pre.length).hi).flatMap fun x=>if ok pre.length (pre++[x]) then zSg vs ok k (pre++[x]) else []
theorem zSA (vs:List MVar) (cons:List MCon) (ok:Nat→List Int→Bool) (h:∀v u,okD cons v u=ok v u):∀(k:Nat) (pre:List Int),zEA vs cons k pre=zSg vs ok k pre
 | 0,pre=>rfl
 | k+1,pre=>by
   unfold zEA zSg
   congr 1
   funext x
   rw[h,zSA vs cons ok h k]
def zSh (v:Nat) (u:List Int):Bool:=if v=1 then zAR twoC u else true
theorem zTH (v:Nat) (u:List Int):okD twoM.cons v u=zSh v u:=by
 have hl:zCW twoC=1:=by unfold zCW;rw[zI7];rfl
 have hc:twoM.cons=[twoC]:=rfl;unfold okD zSh dueP;rw[hc,List.filter_cons,hl];by_cases h:v=1
 ·subst h
  simp
 ·have:((1:Nat)==v)=false:=by simp;omega
  rw[this,if_neg h];rfl
theorem zRc:allL twoM=[[0,1],[0,2],[1,2]]:=by
 unfold allL;rw[zSA _ _ zSh zTH]
 kernel_rfl
theorem zRd:zHu twoM=([[0,1],[0,2],[1,2]],true,0):=by
 unfold zHu;rw[if_pos zBD,zRc];rfl
theorem zPy:ptsM twoM=[twoP]:=by
 show [zAK twoM.vars twoC]=_;rw[zEy]
theorem zRe:zAt twoM.vars [twoP] (zED 9)=(1,[0,1],⟨[],9,[],[⟨0,4,0⟩,⟨1,4,1⟩]⟩):=by kernel_rfl
theorem zPz:zC2 twoM 9=(⟨1,[0,1],[]⟩,0):=by
 unfold zC2;rw[if_pos zBD,if_neg (by decide)]
 unfold zCT;rw[zPy,zRe];rfl
theorem LLr.arg {B:Nat} {w:World} {v:Value} {acc:List (List Int)} (h:LLr B w v acc):RArg w v acc:=by
 obtain⟨cells,h1,h2⟩:=h;obtain⟨a,c,rfl⟩:=zAC h1;rcases h1.2 with ⟨he,h0⟩ | ⟨g,cap,cur,he,hg,hh,hc1,hc2,hc3,hc4⟩
 ·injection he with e1 e2 e3
  have:acc=[]:=List.eq_nil_of_length_eq_zero (by omega)
  subst this e1 e3;exact⟨Option.none,0,rfl,⟨Nat.le_refl _,by unfold maxLen;omega⟩,fun i t h=>by simp at h⟩
 ·cases he
  refine⟨_,_,rfl,⟨hc1,hc2⟩,fun i r hr=>?_⟩
  obtain⟨x,hx,ho⟩:=h2 i r hr;have hi:i<acc.length:=(List.getElem?_eq_some_iff.1 hr).1;have hcl:=h1.1;refine⟨g,0,x,rfl,(h1.lt g rfl).2,?_,zDa ho⟩;rw[Nat.zero_add,h1.cellAt i (by omega)]
  exact hx
theorem zGR (w:World) (a b:Int) (B:Nat) (hB:B=w.heap.size):IArg (w.alloc (.cells #[.int .i64 a,.int .i64 b] 3)) (.slice (some ⟨B,0,none⟩) 2 2) [a,b]:=by
 subst hB;refine⟨_,2,rfl,⟨by simp,by unfold maxLen;omega⟩,fun i z hz=>?_⟩
 match i,hz with
 | 0,hz=>cases hz;exact⟨_,0,rfl,by simp,World.cell?_alloc_at _ _ _ 0 (by simp)⟩
 | 1,hz=>cases hz;exact⟨_,0,rfl,by simp,World.cell?_alloc_at _ _ _ 1 (by simp)⟩
def zP0 (w:World):World:=(((w.alloc (.cells #[.int .i64 0,.int .i64 1] 3)).alloc (.cells #[.int .i64 0,.int .i64 2] 3)).alloc (.cells #[.int .i64 1,.int .i64 2] 3)).alloc (.cells #[.slice (some ⟨w.heap.size,0,none⟩) 2 2,.slice (some ⟨w.heap.size+1,0,none⟩) 2 2,.slice (some ⟨w.heap.size+1+1,0,none⟩) 2 2] 42)
theorem zL3 (w:World):RArg (zP0 w) (.slice (some ⟨w.heap.size+1+1+1,0,none⟩) 3 3) [[0,1],[0,2],[1,2]]:=by
 have e:(((w.alloc (.cells #[.int .i64 0,.int .i64 1] 3)).alloc (.cells #[.int .i64 0,.int .i64 2] 3)).alloc (.cells #[.int .i64 1,.int .i64 2] 3)).heap.size=w.heap.size+1+1+1:=by simp
 have hz:=heap_alloc_new (((w.alloc (.cells #[.int .i64 0,.int .i64 1] 3)).alloc (.cells #[.int .i64 0,.int .i64 2] 3)).alloc (.cells #[.int .i64 1,.int .i64 2] 3)) (.cells #[.slice (some ⟨w.heap.size,0,none⟩) 2 2,.slice (some ⟨w.heap.size+1,0,none⟩) 2 2,.slice (some ⟨w.heap.size+1+1,0,none⟩) 2 2] 42);rw[e] at hz;have hl:=(Array.getElem?_eq_some_iff.1 hz).1;refine⟨_,3,rfl,⟨by simp,by unfold maxLen;omega⟩,fun i r hr=>?_⟩
 match i,hr with
 | 0,hr=>cases hr;exact⟨_,0,_,rfl,hl,blk9 hz 0 _ rfl,IArg.below (zAA _ _) (IArg.below (zAA _ _) (IArg.below (zAA _ _) (zGR w 0 1 _ rfl)))⟩
 | 1,hr=>cases hr;exact⟨_,0,_,rfl,hl,blk9 hz 1 _ rfl,IArg.below (zAA _ _) (IArg.below (zAA _ _) (zGR _ 0 2 _ (by simp)))⟩
 | 2,hr=>cases hr;exact⟨_,0,_,rfl,hl,blk9 hz 2 _ rfl,IArg.below (zAA _ _) (zGR _ 1 2 _ (by simp))⟩
theorem zKy (w:World) (hT:TabT w) :
 Calls Tryz.prog 21 #[] w fun e w'=>e=.returned (.bool true)∧Below w.heap.size w w':=by
 have HT:Hid (∀w',Below w.heap.size w w'→TabT w'):=fun w' h=>hT.below h
 clear hT;go_enter Tryz.func21,Tryz.ntmps21
 go_wp2_with fail
 refine (zCN _).mono ?_;rintro e w1 ⟨vs,cs,rfl,hm,hb1⟩;have HM:Hid (MArg w1 vs cs twoM):=hm;have HA1:Hid (Below w.heap.size w w1):=hb1;clear hm hb1;go_wp2_with fail
 refine (zFx twoM 9 vs cs _ HM.out (HT.out _ HA1.out)).mono ?_;rintro e w2 ⟨vv,pp,rfl,hq,hb2⟩;rw[zPz] at hq ⊢
 dsimp only at hq ⊢
 have HA2:Hid (Below w.heap.size w w2):=HA1.out.trans (hb2.mono HA1.out.size);obtain⟨av,cv,rfl⟩:=zAC hq.val;obtain⟨L,hst,hLe⟩:=hq.prf;have hL0:L=[]:=by simpa using hLe
 subst hL0;obtain⟨ap,cp,rfl⟩:=zAC hst.1;clear hq hb2 HM hst hLe;go_wp2_with fail
 refine (zCN _).mono ?_;rintro e w3 ⟨vs,cs,rfl,hm,hb3⟩;have HM:Hid (MArg w3 vs cs twoM):=hm;have hA2:w3.heap[w2.heap.size]? = some (.cells #[.int .i64 1,.slice av 2 cv,.slice ap 0 cp] 53):=(hb3.block _ (by simp)).trans (heap_alloc_new _ _)
 have HA3:Hid (Below w.heap.size w w3):=(HA2.out.alloc HA2.out.size _).trans (hb3.mono (by have:=HA2.out.size;simp;omega))
 clear hm hb3;go_wp2_with fail
 refine (zKx twoM vs cs _ HM.out).mono ?_;rintro e w4 ⟨hb4,x,rfl,hx⟩;rw[zRd] at hx ⊢
 dsimp only at hx ⊢
 have HX:Hid (RArg w4 x [[0,1],[0,2],[1,2]]):=hx.arg;obtain⟨ax,cx,rfl⟩:=hx.form;have hA4:=(hb4.block _ (Array.getElem?_eq_some_iff.1 hA2).1).trans hA2;have k0:=blk9 hA4 0 _ rfl;have k1:=blk9 hA4 1 _ rfl;have kl:=(Array.getElem?_eq_some_iff.1 hA4).1;have HA4:Hid (Below w.heap.size w w4):=HA3.out.trans (hb4.mono HA3.out.size);clear hx hb4 hA2 hA4 HM;have HB5:Hid (Below w4.heap.size w4 (zP0 w4)):=(((zAA _ _).alloc (by simp) _).alloc (by simp;omega) _).alloc (by simp;omega) _
 have HY:=hid0 (zL3 w4);unfold zP0 at HB5 HY;go_wp2_with fail
 refine (zGo [[0,1],[0,2],[1,2]] _ _ _ (RArg.below HB5.out HX.out) HY.out).mono ?_;rintro e w6 ⟨rfl,n6,rfl⟩;have HB6:Hid (Below w.heap.size w _):=HA4.out.trans (HB5.out.mono HA4.out.size);go_wp2
 go_ret
 exact⟨rfl,below_drewN HB6.out _⟩
def zBx (m:Mod) (vals:List Int):Cla :=
 if m.goal=1 then [⟨m.var,1,zAf vals m.var - 1⟩] else if m.goal=2 then [⟨m.var,2,zAf vals m.var+1⟩] else []
def zGS (m:Mod) (vals:List Int):Cla×Int :=
 if zAG m=0 then
  (if vals.length=m.vars.length then
    (if m.goal≠0∧(zAf vals m.var<(zAJ m.vars m.var.toNat).lo∨(zAJ m.vars m.var.toNat).hi<zAf vals m.var) then ([],3) else (zBx m vals,0))
   else ([],1))
 else ([],zAG m)
theorem zNE (w:World) (l:MLit):LOwn w.heap.size (w.alloc (.cells #[.int .i64 l.var,.int .i64 l.op,.int .i64 l.n] 76)) (.slice (some ⟨w.heap.size,0,none⟩) 1 1) [l] :=
 ⟨rfl,.inr ⟨w.heap.size,1,_,rfl,Nat.le_refl _,heap_alloc_new _ _,Nat.le_refl _,by decide,rfl,rfl⟩⟩
theorem zI8 (m:Mod) (vals:List Int) (hk:0≤m.var∧m.var<(vals.length:Int)) (hb:-1000≤zAf vals m.var∧zAf vals m.var≤1000) (vs cs v:Value) (w:World) (hv:IArg w v vals) :
 Calls Tryz.prog 117 #[modV vs cs m,v] w fun e w'=>∃x,e=.returned x∧LOwn w.heap.size w' x (zBx m vals)∧Below w.heap.size w w':=by
 obtain⟨mv,mc,mg,mk⟩:=m;unfold zBx modV;simp only at hk hb ⊢;obtain⟨k,rfl⟩:∃k:Nat,mk=(k:Int):=⟨mk.toNat,by omega⟩
 have hkl:k<vals.length:=by omega
 obtain⟨z,hz⟩:∃z,vals[k]? = some z:=⟨vals[k],by rw[List.getElem?_eq_getElem hkl]⟩
 have hvz:zAf vals (k:Int)=z:=by unfold zAf;rw[Int.toNat_natCast,List.getD_eq_getElem?_getD,hz];rfl
 rw[hvz] at hb ⊢;obtain⟨a,c,rfl,hm,hr⟩:=hv;obtain⟨b,off,ha,hbl,hc⟩:=hr k z hz;subst ha;have hkl2:(k:Int)<(vals.length:Int):=by omega
 clear hr hz hvz hk;by_cases h1:mg=1
 ·subst h1
  rw[if_pos rfl];have hwr:IntKind.i64.wrap (z - 1)=z - 1:=by rw[IntKind.wrap_i64];omega
  go_enter Tryz.func117,Tryz.ntmps117
  go_wp2_with fail
  have hbY:Below w.heap.size w (w.alloc (.cells #[vs,cs,.int .i64 1,.int .i64 (k:Int)] 25)):=zAA _ _;obtain⟨Y,hY⟩:∃Y,w.alloc (.cells #[vs,cs,.int .i64 1,.int .i64 (k:Int)] 25)=Y:=⟨_,rfl⟩;have d3:Y.cell? ⟨w.heap.size,3,none⟩=some (.int .i64 (k:Int)):=by rw[←hY];simp
  have dl:w.heap.size<Y.heap.size:=by rw[←hY];simp
  rw[hY] at hbY ⊢;have dc:Y.cell? ⟨b,off+k,none⟩=some (.int .i64 z):=(hbY.cell (p:=⟨b,off+k,none⟩) hbl).trans hc;have dbl:b<Y.heap.size:=by have:=hbY.size;omega
  have HBY:Hid (Below w.heap.size w Y):=hbY;have HLO:Hid (LOwn Y.drew.heap.size (Y.drew.alloc (.cells #[.int .i64 (k:Int),.int .i64 1,.int .i64 (z - 1)] 76)) (.slice (some ⟨Y.drew.heap.size,0,none⟩) 1 1) [⟨(k:Int),1,z - 1⟩]):=zNE Y.drew ⟨(k:Int),1,z - 1⟩;have hsz:=hbY.size;clear hY hbY hc hbl;go_region_law (fail)
  all_goals
   go_wp2
   go_ret
   exact⟨_,rfl,zBJ hsz HLO.out,HBY.out.drew.alloc hsz _⟩
 ·by_cases h2:mg=2
  ·subst h2
   rw[if_neg (by decide),if_pos rfl]
   have hwr:IntKind.i64.wrap (z+1)=z+1:=by rw[IntKind.wrap_i64];omega
   clear h1;go_enter Tryz.func117,Tryz.ntmps117
   go_wp2_with fail
   have hbY:Below w.heap.size w (w.alloc (.cells #[vs,cs,.int .i64 2,.int .i64 (k:Int)] 25)):=zAA _ _;obtain⟨Y,hY⟩:∃Y,w.alloc (.cells #[vs,cs,.int .i64 2,.int .i64 (k:Int)] 25)=Y:=⟨_,rfl⟩;have d3:Y.cell? ⟨w.heap.size,3,none⟩=some (.int .i64 (k:Int)):=by rw[←hY];simp
   have dl:w.heap.size<Y.heap.size:=by rw[←hY];simp
   rw[hY] at hbY ⊢;have dc:Y.cell? ⟨b,off+k,none⟩=some (.int .i64 z):=(hbY.cell (p:=⟨b,off+k,none⟩) hbl).trans hc;have dbl:b<Y.heap.size:=by have:=hbY.size;omega
   have HBY:Hid (Below w.heap.size w Y):=hbY;have HLO:Hid (LOwn Y.drew.heap.size (Y.drew.alloc (.cells #[.int .i64 (k:Int),.int .i64 2,.int .i64 (z+1)] 76)) (.slice (some ⟨Y.drew.heap.size,0,none⟩) 1 1) [⟨(k:Int),2,z+1⟩]):=zNE Y.drew ⟨(k:Int),2,z+1⟩;have hsz:=hbY.size;clear hY hbY hc hbl;go_region_law (fail)
   all_goals
    go_wp2
    go_ret
    exact⟨_,rfl,zBJ hsz HLO.out,HBY.out.drew.alloc hsz _⟩
  ·rw[if_neg h1,if_neg h2]
   have h1':(mg==1)=false:=by simpa using h1
   have h2':(mg==2)=false:=by simpa using h2
   clear h1 h2;go_enter Tryz.func117,Tryz.ntmps117
   go_wp2
   go_ret
   exact⟨_,rfl,World.ownsRow_nil _ _ _ _,zAA _ _⟩
theorem zFz (m:Mod) (hm:zAG m=0):0≤m.var∧m.var<(m.vars.length:Int)∧(m.goal=0∨m.goal=1∨m.goal=2):=by
 obtain⟨h1,_,_,_,_,h6⟩:=zAe m hm;unfold zJT at h6
 split at h6
 ·rename_i hg
  split at h6
  ·rename_i hv
   exact⟨by omega,by omega,Or.inl hg⟩
  ·cases h6
 ·split at h6
  ·rename_i hg
   split at h6
   ·rename_i hv
    unfold zBd at hv;simp only[Bool.and_eq_true,decide_eq_true_eq] at hv;exact⟨hv.1,hv.2,Or.inr hg⟩
   ·cases h6
  ·cases h6
theorem zL4 (k:Nat) (vs cs v:Value) (w:World) :
 Calls Tryz.prog 117 #[.agg #[vs,cs,.int .i64 0,.int .i64 (k:Int)],v] w fun e w'=>∃x,e=.returned x∧LOwn w.heap.size w' x []∧Below w.heap.size w w':=by
 go_enter Tryz.func117,Tryz.ntmps117
 go_wp2
 go_ret
 exact⟨_,rfl,World.ownsRow_nil _ _ _ _,zAA _ _⟩
theorem zL5 (m:Mod) (vals:List Int) (vs cs v:Value) (w:World) (hma:MArg w vs cs m) (hv:IArg w v vals) :
 Calls Tryz.prog 62 #[modV vs cs m,v] w fun e w'=>∃x,e=.returned (.tuple #[x,.int .i64 (zGS m vals).2])∧LOwn w.heap.size w' x (zGS m vals).1∧Below w.heap.size w w':=by
 have HMA:Hid (∀w',Below w.heap.size w w'→MArg w' vs cs m):=fun w' h=>MArg.below h hma
 have HIV:Hid (∀w',Below w.heap.size w w'→IArg w' v vals):=fun w' h=>IArg.below h hv
 obtain⟨⟨a1,c1,rfl,_,hvr⟩,⟨a2,c2,rfl,_,_⟩⟩:=hma;have HV:Hid (∀(i:Nat) (t:MVar),m.vars[i]? = some t→t.name.size≤maxLen∧∃b off,a1=some ⟨b,off,none⟩∧b<w.heap.size ∧
  w.cell? ⟨b,off+i * 3,none⟩=some (.string t.name)∧w.cell? ⟨b,off+i * 3+1,none⟩=some (.int .i64 t.lo)∧w.cell? ⟨b,off+i * 3+2,none⟩=some (.int .i64 t.hi)):=hvr
 obtain⟨a3,c3,rfl,_,hir⟩:=hv;have HI:Hid (∀(i:Nat) (z:Int),vals[i]? = some z→∃b off,a3=some ⟨b,off,none⟩∧b<w.heap.size∧w.cell? ⟨b,off+i,none⟩=some (.int .i64 z)):=hir;obtain⟨R,hR⟩:∃R,zGS m vals=R:=⟨_,rfl⟩;rw[hR];obtain⟨er,her⟩:∃er,zAG m=er:=⟨_,rfl⟩;have HER:Hid (zAG m=er):=her;unfold zGS at hR;rw[her] at hR;have HR:=(show Hid _ from hR)
 clear hR her hvr hir;have HBT:Hid (∀(Y:World),Below w.heap.size w Y→0≤m.var∧m.var<(vals.length:Int)→-1000≤zAf vals m.var∧zAf vals m.var≤1000→Calls Tryz.prog 117 #[.agg #[.slice a1 m.vars.length c1,.slice a2 m.cons.length c2,.int .i64 m.goal,.int .i64 m.var],.slice a3 vals.length c3] Y fun e w'=>∃x,e=.returned x∧LOwn Y.heap.size w' x (zBx m vals)∧Below Y.heap.size Y w'):=fun Y hY h1 h2 =>
  zI8 m vals h1 h2 (.slice a1 m.vars.length c1) (.slice a2 m.cons.length c2) _ Y (HIV.out _ hY)
 unfold modV;go_enter Tryz.func62,Tryz.ntmps62
 go_wp2_with fail
 have hbY:Below w.heap.size w (w.alloc (.cells #[.slice a1 m.vars.length c1,.slice a2 m.cons.length c2,.int .i64 m.goal,.int .i64 m.var] 25)):=zAA _ _;refine (zA9 m (.slice a1 m.vars.length c1) (.slice a2 m.cons.length c2) _ (HMA.out _ hbY)).mono ?_;rintro e w1 ⟨rfl,hb1⟩;rw[HER.out];have HA1:Hid (w1.heap[w.heap.size]? = some (.cells #[.slice a1 m.vars.length c1,.slice a2 m.cons.length c2,.int .i64 m.goal,.int .i64 m.var] 25)):=(hb1.block _ (by simp)).trans (heap_alloc_new _ _)
 have HBL:Hid (Below w.heap.size w w1):=hbY.trans (hb1.mono (by simp))
 have lq:w.heap.size<w1.heap.size:=by have:=hb1.size;simp at this;omega
 clear hb1 hbY;have g0:=blk9 HA1.out 0 _ rfl;have g1:=blk9 HA1.out 1 _ rfl;have g2:=blk9 HA1.out 2 _ rfl;have g3:=blk9 HA1.out 3 _ rfl;have hsz:=HBL.out.size;by_cases he:er=0
 ·subst he
  have hR:=HR.out;rw[if_pos rfl] at hR;obtain⟨q1,q2,q3⟩:=zFz m HER.out;by_cases hl:vals.length=m.vars.length
  ·rw[if_pos hl] at hR
   have HL:Hid (vals.length=m.vars.length):=hl;obtain⟨k,hk⟩:∃k:Nat,m.var=(k:Int):=⟨m.var.toNat,by omega⟩
   have hkn:k<m.vars.length:=by omega
   obtain⟨t,ht⟩:∃t,m.vars[k]? = some t:=⟨m.vars[k],by rw[List.getElem?_eq_getElem hkn]⟩
   obtain⟨_,b,off,ha,hbl,c0,c1',c2'⟩:=HV.out k t ht;obtain⟨z,hz⟩:∃z,vals[k]? = some z:=⟨vals[k]'(by omega),by rw[List.getElem?_eq_getElem (by omega)]⟩
   obtain⟨b3,off3,ha3,hbl3,cz⟩:=HI.out k z hz;subst ha ha3;have hta:=zHG m HER.out k t ht;have hvt:zAJ m.vars k=t:=by unfold zAJ;rw[List.getD_eq_getElem?_getD,ht];rfl
   have hvz:zAf vals m.var=z:=by unfold zAf;rw[hk,Int.toNat_natCast,List.getD_eq_getElem?_getD,hz];rfl
   rw[hvz,hk,Int.toNat_natCast,hvt] at hR;have HVZ:Hid (zAf vals m.var=z):=hvz;have HMV:Hid (0≤m.var∧m.var<(vals.length:Int)):=⟨q1,by omega⟩
   have e0:=(HBL.out.cell (p:=⟨b,off+k * 3,none⟩) hbl).trans c0;have e1:=(HBL.out.cell (p:=⟨b,off+k * 3+1,none⟩) hbl).trans c1';have e2:=(HBL.out.cell (p:=⟨b,off+k * 3+2,none⟩) hbl).trans c2';have e3:=(HBL.out.cell (p:=⟨b3,off3+k,none⟩) hbl3).trans cz;have lb:b<w1.heap.size:=by omega
   have lb3:b3<w1.heap.size:=by omega
   have hkn':(k:Int)<(m.vars.length:Int):=by omega
   have hkz:k<vals.length:=by omega
   have hkz':(k:Int)<(vals.length:Int):=by omega
   rw[hk] at g3 HBT;have hq:((vals.length:Int) != (m.vars.length:Int))=false:=by rw[hl];simp
   have hlt2:-50≤t.lo∧t.hi≤50:=by omega
   have HB2:Hid (∀o:Obj,Below w.heap.size w (w1.alloc o)):=fun o=>HBL.out.alloc HBL.out.size o
   obtain⟨tn,tl,th⟩:=t;simp only at e0 e1 e2 hR hlt2 hta;have HR2:=(show Hid _ from hR)
   have HVB:Hid (zAf vals m.var=z):=HVZ.out;by_cases hg:m.goal=0
   ·have hR2:=HR2.out
    rw[if_neg (fun h=>h.1 hg)] at hR2
    have HN:Hid ((zBx m vals,0)=R):=hR2;have hbc:zBx m vals=[]:=by unfold zBx;rw[hg];rfl
    rw[hg] at g2;have hgb:(m.goal != 0)=false:=by rw[hg];rfl
    clear hR hR2 HR2 HR hl hta hvt hvz q1 q2 q3 c0 c1' c2' cz ht hz hbl hbl3;have HBT2:Hid (∀(Y:World),Calls Tryz.prog 117 #[.agg #[.slice (some ⟨b,off,none⟩) m.vars.length c1,.slice a2 m.cons.length c2,.int .i64 0,.int .i64 (k:Int)],.slice (some ⟨b3,off3,none⟩) vals.length c3] Y fun e w'=>∃x,e=.returned x∧LOwn Y.heap.size w' x []∧Below Y.heap.size Y w'):=fun Y=>zL4 k _ _ _ Y
    clear hg hgb;go_wp2_with fail
    go_quiet (fail)
    go_wp2_with fail
    refine (HBT2.out _).mono ?_;rintro e w2 ⟨x,rfl,hx,hb2⟩;have hBE:=below_drewN (HB2.out (.cells #[.string tn,.int .i64 tl,.int .i64 th] 67)) nq;have HBE:Hid (Below w.heap.size w w2):=hBE.trans (hb2.mono hBE.size);have HX:Hid (LOwn w.heap.size w2 x []):=zBJ hBE.size hx;clear hBE hx hb2;go_wp2
    go_ret2
    rw[←HN.out,hbc];exact⟨_,rfl,HX.out,HBE.out⟩
   ·have hgb:(m.goal != 0)=true:=by simpa using hg
    by_cases h1:z<tl
    ·have hR2:=HR2.out
     rw[if_pos ⟨hg,Or.inl h1⟩] at hR2;have HN:Hid (([],3)=R):=hR2;clear hR hR2 HR2 HR hl hta hvt hvz q1 q2 q3 c0 c1' c2' cz ht hz hbl hbl3 hg;go_wp2_with fail
     go_quiet (fail)
     go_wp2
     go_ret2
     rw[←HN.out];exact⟨_,rfl,World.ownsRow_nil _ _ _ _,below_drewN (HB2.out _) _⟩
    ·by_cases h2:th<z
     ·have hR2:=HR2.out
      rw[if_pos ⟨hg,Or.inr h2⟩] at hR2;have HN:Hid (([],3)=R):=hR2;clear hR hR2 HR2 HR hl hta hvt hvz q1 q2 q3 c0 c1' c2' cz ht hz hbl hbl3 hg;go_wp2_with fail
      go_quiet (fail)
      go_wp2
      go_ret2
      rw[←HN.out];exact⟨_,rfl,World.ownsRow_nil _ _ _ _,below_drewN (HB2.out _) _⟩
     ·have hR2:=HR2.out
      rw[if_neg (fun h=>by rcases h.2 with h | h <;> omega)] at hR2
      have HN:Hid ((zBx m vals,0)=R):=hR2;have HZ:Hid (-1000≤zAf vals m.var∧zAf vals m.var≤1000):=by rw[HVB.out];show _∧_;omega
      rw[hk] at HMV HZ;clear hR hR2 HR2 HR hl hta hvt hvz q1 q2 q3 c0 c1' c2' cz ht hz hbl hbl3 hg;go_wp2_with fail
      go_quiet (fail)
      go_wp2_with fail
      have hBE:=below_drewN (HB2.out (.cells #[.string tn,.int .i64 tl,.int .i64 th] 67)) nq;refine (HBT.out _ hBE HMV.out HZ.out).mono ?_;rintro e w2 ⟨x,rfl,hx,hb2⟩;have HBE:Hid (Below w.heap.size w w2):=hBE.trans (hb2.mono hBE.size);have HX:Hid (LOwn w.heap.size w2 x (zBx m vals)):=zBJ hBE.size hx;clear hBE hx hb2;go_wp2
      go_ret2
      rw[←HN.out];exact⟨_,rfl,HX.out,HBE.out⟩
  ·rw[if_neg hl] at hR
   have HN:Hid (([],1)=R):=hR;have hl':((vals.length:Int) != (m.vars.length:Int))=true:=by simpa using (fun h:(vals.length:Int)=(m.vars.length:Int)=>hl (by omega))
   clear hR HR hl q1 q2 q3;go_wp2
   go_ret2
   rw[←HN.out];exact⟨_,rfl,World.ownsRow_nil _ _ _ _,HBL.out⟩
 ·have hR:=HR.out
  rw[if_neg he] at hR;have HN:Hid (([],er)=R):=hR;have he':(er != 0)=true:=by simpa using he
  clear hR HR he;go_wp2
  go_ret2
  rw[←HN.out];exact⟨_,rfl,World.ownsRow_nil _ _ _ _,HBL.out⟩
end Go.Proofs.YtndcpnlaadikoaaGreatDoor
