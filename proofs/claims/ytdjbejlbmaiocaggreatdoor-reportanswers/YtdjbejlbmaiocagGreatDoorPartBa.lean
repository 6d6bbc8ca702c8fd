/- What the proof leans on, part 27. -/
import Derived.Test.YtdjbejlbmaiocagGreatDoorPartAz
import Derived.Test.YtdjbejlbmaiocagGreatDoorPartAh
import Derived.Test.YtdjbejlbmaiocagGreatDoorPartAi
import Derived.Test.YtdjbejlbmaiocagGreatDoorPartAf
import Derived.Test.YtdjbejlbmaiocagGreatDoorPartAe
import Derived.KernelRfl
import Derived.Test.YtdjbejlbmaiocagGreatDoorPartAb
import Derived.Deep.QuietTactic
import Derived.BigQuiet
import Derived.Deep.RegionHeld3
set_option maxRecDepth 100000
set_option maxHeartbeats 3200000
namespace Go.Proofs.YtdjbejlbmaiocagGreatDoor
open Go.RowKit Go.Maps
theorem AnsQ.mono {base base':Nat} {w:World} {vv pp:Value} {a:Ans} (h:AnsQ base w vv pp a) (hb:base'≤base):AnsQ base' w vv pp a:=by
 obtain⟨L,h1,h2⟩:=h.prf;exact⟨World.ownsRow.mono h.val hb,L,h1.mono hb,h2⟩
theorem AnsQ.forms {base:Nat} {w:World} {vv pp:Value} {a:Ans} (h:AnsQ base w vv pp a):(∃a1 c1,vv=.slice a1 a.values.length c1)∧∃a2 n2 c2,pp=.slice a2 n2 c2:=by
 obtain⟨L,h1,_⟩:=h.prf;obtain⟨a2,c2,h3⟩:=zAB h1.1;exact⟨zAB h.val,a2,_,c2,h3⟩
theorem zHh (m:Mod) (fuel:Int) (vs cs:Value) (w:World) (hma:MArg w vs cs m) (hT:TabT w) :
 Calls Tryz.prog 9 #[modV vs cs m,.int .i64 fuel] w fun e w'=>∃vv pp,e=.returned (.tuple #[.agg #[.int .i64 (zBt m fuel).1.verdict,vv,pp],.int .i64 (zBt m fuel).2])∧AnsQ w.heap.size w' vv pp (zBt m fuel).1∧Below w.heap.size w w':=by
 have HMA:Hid (∀w',Below w.heap.size w w'→MArg w' vs cs m):=fun w' h=>MArg.below h hma
 have HT:Hid (∀w',Below w.heap.size w w'→TabT w'):=fun w' h=>hT.below h
 obtain⟨⟨a1,c1,rfl,_,_⟩,⟨a2,c2,rfl,_,_⟩⟩:=hma;obtain⟨R,hR⟩:∃R,zBt m fuel=R:=⟨_,rfl⟩;rw[hR];obtain⟨er,her⟩:∃er,zAF m=er:=⟨_,rfl⟩;have HER:Hid (zAF m=er):=her;unfold zBt at hR;rw[her] at hR;have HR:=(show Hid _ from hR)
 clear hR her hT;unfold modV;obtain⟨HA,HB⟩:=zEk w (.cells #[.slice a1 m.vars.length c1,.slice a2 m.cons.length c2,.int .i64 m.goal,.int .i64 m.var] 25) (.cells #[.int .i64 0,.slice none 0 0,.slice none 0 0] 29);have hbY:Below w.heap.size w ((w.alloc (.cells #[.slice a1 m.vars.length c1,.slice a2 m.cons.length c2,.int .i64 m.goal,.int .i64 m.var] 25)).alloc (.cells #[.int .i64 0,.slice none 0 0,.slice none 0 0] 29)):=(zAA _ _).alloc (by simp) _
 have HAH:=(show Hid _ from HA)
 have HBH:=(show Hid _ from HB)
 have HBY:=(show Hid _ from hbY)
 clear HA HB hbY;by_cases hg:m.goal=0
 ·have hR:=HR.out
  rw[if_pos hg] at hR;have HRS:Hid (zFQ m fuel=R):=hR;have HSV:Hid (∀Z,Below w.heap.size w Z→Calls Tryz.prog 32 #[.agg #[.slice a1 m.vars.length c1,.slice a2 m.cons.length c2,.int .i64 m.goal,.int .i64 m.var],.int .i64 fuel] Z fun e w'=>∃vv pp,e=.returned (.tuple #[.agg #[.int .i64 R.1.verdict,vv,pp],.int .i64 R.2])∧AnsQ Z.heap.size w' vv pp R.1∧Below Z.heap.size Z w'):=fun Z hZ=>by
   rw[←HRS.out];exact zQf m fuel (.slice a1 m.vars.length c1) (.slice a2 m.cons.length c2) Z (HMA.out _ hZ) (HT.out _ hZ)
  obtain⟨⟨rv,rx,rp⟩,re⟩:=R;have hgb:(m.goal==0)=true:=by simpa using hg
  clear hR HR hg HRS;go_enter Tryz.func9,Tryz.ntmps9
  go_wp2_with fail
  refine (HSV.out _ HBY.out).mono ?_;rintro e w1 ⟨vv,pp,rfl,hq,hb1⟩;obtain⟨⟨av,cv,rfl⟩,ap,np,cp,rfl⟩:=hq.forms;have HB1:Hid (w1.heap[w.heap.size+1]? = some (.cells #[.int .i64 0,.slice none 0 0,.slice none 0 0] 29)):=(hb1.block _ (by simp)).trans HBH.out
  have HBL:Hid (Below w.heap.size w w1):=HBY.out.trans (hb1.mono (by simp;omega))
  have hs1:w.heap.size+2≤w1.heap.size:=by simpa using hb1.size
  have HQ:Hid (∀u0 u1 u2,AnsQ w.heap.size (((w1.setCell ⟨w.heap.size+1,0,none⟩ u0).setCell ⟨w.heap.size+1,1,none⟩ u1).setCell ⟨w.heap.size+1,2,none⟩ u2) (.slice av rx.length cv) (.slice ap np cp) ⟨rv,rx,rp⟩):=fun u0 u1 u2=>AnsQ.set3 (hq.mono (by simp;omega)) HB1.out u0 u1 u2
  have HBE:Hid (∀u0 u1 u2,Below w.heap.size w (((w1.setCell ⟨w.heap.size+1,0,none⟩ u0).setCell ⟨w.heap.size+1,1,none⟩ u1).setCell ⟨w.heap.size+1,2,none⟩ u2)):=fun u0 u1 u2=>((HBL.out.setCell (by simp only;omega) _).setCell (by simp only;omega) _).setCell (by simp only;omega) _
  have r0:=blk9 HB1.out 0 _ rfl;have r1:=blk9 HB1.out 1 _ rfl;have r2:=blk9 HB1.out 2 _ rfl;have z0:=frz9 HB1.out 0;have z1:=frz9 HB1.out 1;have z2:=frz9 HB1.out 2;have lr:w.heap.size+1<w1.heap.size:=by omega
  clear hq hb1;go_wp2
  refine bodyPost_ret (by simp[results,Tryz.results9,go_sem, *];try rfl) rfl ?_
  exact⟨_,_,rfl,HQ.out _ _ _,HBE.out _ _ _⟩
 ·have hR:=HR.out
  rw[if_neg hg] at hR;have hgb:(m.goal==0)=false:=by simpa using hg
  have HR1:=(show Hid _ from hR)
  clear hR HR;go_enter Tryz.func9,Tryz.ntmps9
  go_wp2_with fail
  refine (zCD m (.slice a1 m.vars.length c1) (.slice a2 m.cons.length c2) _ (HMA.out _ HBY.out)).mono ?_;rintro e w1 ⟨rfl,hb1⟩;rw[HER.out];have HA1:Hid (w1.heap[w.heap.size]? = some (.cells #[.slice a1 m.vars.length c1,.slice a2 m.cons.length c2,.int .i64 m.goal,.int .i64 m.var] 25)):=(hb1.block _ (by simp;omega)).trans HAH.out
  have HB1:Hid (w1.heap[w.heap.size+1]? = some (.cells #[.int .i64 0,.slice none 0 0,.slice none 0 0] 29)):=(hb1.block _ (by simp)).trans HBH.out
  have HBL:Hid (Below w.heap.size w w1):=HBY.out.trans (hb1.mono (by simp;omega))
  have hs1:w.heap.size+2≤w1.heap.size:=by simpa using hb1.size
  clear hb1;have g0:=blk9 HA1.out 0 _ rfl;have g1:=blk9 HA1.out 1 _ rfl;have g2:=blk9 HA1.out 2 _ rfl;have g3:=blk9 HA1.out 3 _ rfl;have r0:=blk9 HB1.out 0 _ rfl;have r1:=blk9 HB1.out 1 _ rfl;have r2:=blk9 HB1.out 2 _ rfl;have z0:=frz9 HB1.out 0;have z1:=frz9 HB1.out 1;have z2:=frz9 HB1.out 2;have lq:w.heap.size<w1.heap.size:=by omega
  have lr:w.heap.size+1<w1.heap.size:=by omega
  have HBE:Hid (∀u0 u1 u2,Below w.heap.size w (((w1.setCell ⟨w.heap.size+1,0,none⟩ u0).setCell ⟨w.heap.size+1,1,none⟩ u1).setCell ⟨w.heap.size+1,2,none⟩ u2)):=fun u0 u1 u2=>((HBL.out.setCell (by simp only;omega) _).setCell (by simp only;omega) _).setCell (by simp only;omega) _
  by_cases he:er=0
  ·subst he
   have hR:=HR1.out;rw[if_pos rfl] at hR;by_cases hf:fuel<0∨300<fuel
   ·rw[if_pos hf] at hR
    have HN:Hid ((zIV,(3:Int))=R):=hR;clear hR HR1;by_cases hf0:fuel<0
    ·clear hf
     go_wp2
     refine bodyPost_ret (by simp[results,Tryz.results9,go_sem, *];try rfl) rfl ?_
     rw[←HN.out];exact⟨_,_,rfl,zG0 _ _ _,HBE.out _ _ _⟩
    ·have hf1:300<fuel:=by rcases hf with h | h;exact absurd h hf0;exact h
     clear hf;go_wp2
     refine bodyPost_ret (by simp[results,Tryz.results9,go_sem, *];try rfl) rfl ?_
     rw[←HN.out];exact⟨_,_,rfl,zG0 _ _ _,HBE.out _ _ _⟩
   ·rw[if_neg hf] at hR
    have hf0:¬fuel<0:=fun h=>hf (Or.inl h)
    have hf1:¬300<fuel:=fun h=>hf (Or.inr h)
    obtain⟨fn,rfl⟩:∃fn:Nat,fuel=(fn:Int):=⟨fuel.toNat,by omega⟩
    have HR2:Hid ((zCH m (fn:Int),(0:Int))=R):=hR;have hfn:fn≤300:=by omega
    have HGG:Hid (m.goal=1∨m.goal=2):=by
     rcases (zDa m HER.out).2.2 with h | h
     ·exact absurd h hg
     ·exact h
    clear hR HR1 hf hg;go_wp2_with fail
    refine (zQe m HER.out fn (.slice a1 m.vars.length c1) (.slice a2 m.cons.length c2) w1 (HMA.out _ HBL.out) (HT.out _ HBL.out)).mono ?_;rintro e W ⟨s,rfl,r,mb,pv,hB,hD,hbW,hr,hs,hmb⟩;have HSB:Hid (SkB W s r mb (.slice a1 m.vars.length c1) pv m.vars (ptsM m)):=hB;have HSD:=(show Hid _ from hD)
    have HBW:Hid (Below w1.heap.size w1 W):=hbW;have hsW:=hbW.size;clear hB hD hbW r0 r1 r2 z0 z1 z2;have q0:=(HBW.out.cell (p:=⟨w.heap.size,0,none⟩) lq).trans g0;have q1:=(HBW.out.cell (p:=⟨w.heap.size,1,none⟩) lq).trans g1;have q2:=(HBW.out.cell (p:=⟨w.heap.size,2,none⟩) lq).trans g2;have q3:=(HBW.out.cell (p:=⟨w.heap.size,3,none⟩) lq).trans g3;have lqW:w.heap.size<W.heap.size:=by omega
    clear g0 g1 g2 g3;go_wp2_with fail
    have hCn:=heap_alloc_new W (.cells #[.pointer (some ⟨s,0,none⟩),.slice none 0 0] 78);refine (zQi m HER.out HGG.out fn hfn W s r mb W.heap.size (.slice a1 m.vars.length c1) (.slice a2 m.cons.length c2) pv HSB.out _ (HSD.out.below (zAA _ _)) hCn (Nat.le_refl _)).mono ?_;rintro e w2 ⟨vv,pp,rfl,hq,hfr⟩;obtain⟨⟨av,cv,rfl⟩,ap,np,cp,rfl⟩:=hq.forms;have HB2:Hid (w2.heap[w.heap.size+1]? = some (.cells #[.int .i64 0,.slice none 0 0,.slice none 0 0] 29)):=(hfr.block _ (by omega) (by unfold XS;omega)).trans ((HBW.out.block _ lr).trans HB1.out)
    have HBL2:Hid (Below w.heap.size w w2):=by
     have h1:=HBL.out.trans (HBW.out.mono HBL.out.size);exact⟨hfr.os.trans h1.os,hfr.tape.trans h1.tape,hfr.output.trans h1.output,Nat.le_trans h1.size hfr.size,fun k hk=>(hfr.block k (Nat.lt_of_lt_of_le hk h1.size) (by unfold XS;have:=HBL.out.size;omega)).trans (h1.block k hk)⟩
    have hs2:w.heap.size+1<w2.heap.size:=(Array.getElem?_eq_some_iff.1 HB2.out).1;have HQ:Hid (∀u0 u1 u2,AnsQ w.heap.size (((w2.setCell ⟨w.heap.size+1,0,none⟩ u0).setCell ⟨w.heap.size+1,1,none⟩ u1).setCell ⟨w.heap.size+1,2,none⟩ u2) (.slice av (zCH m (fn:Int)).values.length cv) (.slice ap np cp) (zCH m (fn:Int))):=fun u0 u1 u2=>AnsQ.set3 (hq.mono (by omega)) HB2.out u0 u1 u2
    have HBE2:Hid (∀u0 u1 u2,Below w.heap.size w (((w2.setCell ⟨w.heap.size+1,0,none⟩ u0).setCell ⟨w.heap.size+1,1,none⟩ u1).setCell ⟨w.heap.size+1,2,none⟩ u2)):=fun u0 u1 u2=>((HBL2.out.setCell (by simp only;omega) _).setCell (by simp only;omega) _).setCell (by simp only;omega) _
    obtain⟨⟨tv,tx,tp⟩,hcA⟩:∃T,zCH m (fn:Int)=T:=⟨_,rfl⟩;rw[hcA] at HQ HR2 ⊢;have r0:=blk9 HB2.out 0 _ rfl;have r1:=blk9 HB2.out 1 _ rfl;have r2:=blk9 HB2.out 2 _ rfl;have z0:=frz9 HB2.out 0;have z1:=frz9 HB2.out 1;have z2:=frz9 HB2.out 2;clear hq hfr hcA q0 q1 q2 q3 hCn hs hr hmb;go_wp2
    refine bodyPost_ret (by simp[results,Tryz.results9,go_sem, *];try rfl) rfl ?_
    rw[←HR2.out];exact⟨_,_,rfl,HQ.out _ _ _,HBE2.out _ _ _⟩
  ·have hR:=HR1.out
   rw[if_neg he] at hR;have HN:Hid ((zIV,er)=R):=hR;have he':(er != 0)=true:=by simpa using he
   clear hR HR1 he;go_wp2
   refine bodyPost_ret (by simp[results,Tryz.results9,go_sem, *];try rfl) rfl ?_
   rw[←HN.out];exact⟨_,_,rfl,zG0 _ _ _,HBE.out _ _ _⟩
def twoC:MCon:=⟨1,[0,1],[1,-1],-1,[],[]⟩
theorem zTc:zF0 [0,1]=[0,1]:=by
 unfold zF0;exact List.mergeSort_of_pairwise (by decide)
theorem zO2:zBN twoC=[0,1]:=by
 have h1:zCt twoC=[0,1]:=by rfl
 unfold zBN;rw[h1,zTc]
 decide
def twoP:List Nat:=[129,257,258]
theorem zO3:zAM twoM.vars twoC=twoP:=by
 unfold zAM;rw[zO2]
 decide +kernel
theorem zLc:ptsM twoM=[twoP]:=by
 show [zAM twoM.vars twoC]=_;rw[zO3]
theorem zUO:zBt twoM 20=(zCH twoM 20,0):=by
 unfold zBt;rw[if_neg (by decide),if_pos zCs,if_neg (by decide)]
def R1:Int×List Int×Sk:=zAa twoM.vars [twoP] (zC6 20)
theorem zUB:zE3 twoM 20=R1:=by unfold zE3 R1;rw[zLc]
theorem zTd:R1=(1,[0,1],⟨[],20,[],[⟨0,4,0⟩,⟨1,4,1⟩]⟩):=by kernel_rfl
def S2:Sk:=⟨[zAH twoM.vars [⟨1,1,0⟩]],20,[],[⟨0,4,0⟩,⟨1,4,1⟩]⟩
theorem zUC:zBl twoM R1=S2:=by rw[zTd];kernel_rfl
def R2:Int×List Int×Sk:=zAa twoM.vars [twoP] S2
theorem zTe:R2.1=2:=by kernel_rfl
theorem zUP:decide (0<R2.2.2.proof.length)=true:=by kernel_rfl
theorem zUQ:zCH twoM 20=⟨1,[0,1],R2.2.2.proof⟩:=by
 unfold zCH;have h1:R1.1=1:=by rw[zTd]
 have hs:(zE3 twoM 20).1=1→Sol twoM (zE3 twoM 20).2.1:=fun h=>(zBP twoM zCs _ h).1
 rw[zDR twoM zCs (Or.inl rfl) _ _ hs,zUB,if_pos h1,zUC,zLc];have h2:R2.1=1→Sol twoM R2.2.1:=fun h=>by rw[zTe] at h;cases h
 show zBc twoM R2 R1.2.1=_;rw[zDR twoM zCs (Or.inl rfl) _ _ h2,if_neg (by rw[zTe];decide),if_neg (by rw[zTe];decide),zTd]
 rfl
theorem zUD:zBg twoM [0,2]=([⟨1,1,1⟩],0):=by
 unfold zBg;rw[if_pos zCs]
 kernel_rfl
theorem zM6:∃P,zBt twoM 20=(⟨1,[0,1],P⟩,0)∧0<P.length:=⟨R2.2.2.proof,by rw[zUO,zUQ],of_decide_eq_true zUP⟩
open Go.RowKit
theorem zQj {α:Type} (a b:List α) (m:Nat) (x:α) (h:a.take m=b.take m) (ha:a[m]? = some x) (hb:b[m]? = some x):a.take (m+1)=b.take (m+1):=by
 rw[List.take_add_one,List.take_add_one,h,ha,hb]
theorem zST {α:Type} (a b:List α) (m:Nat) (h:a.take m=b.take m) (ha:¬m<a.length) (hl:a.length=b.length):a=b:=by
 rwa [List.take_of_length_le (by omega),List.take_of_length_le (by omega)] at h
theorem zSU {α:Type} (a b:List α) (m:Nat) (x y:α) (ha:a[m]? = some x) (hb:b[m]? = some y) (h:x≠y):a≠b:=by
 intro e;subst e;rw[ha] at hb;cases hb;exact h rfl
theorem zLd (l k:List Int) (v u:Value) (w:World) (hv:IArg w v l) (hu:IArg w u k) :
 Calls Tryz.prog 37 #[v,u] w fun e w'=>e=.returned (.bool (decide (l=k)))∧∃n,w'=w.drewN n:=by
 obtain⟨a,c,rfl,hm,hr⟩:=hv;obtain⟨a',c',rfl,hm',hr'⟩:=hu;have HV:Hid (∀(i:Nat) (z:Int),l[i]? = some z→∃b off,a=some ⟨b,off,none⟩∧b<w.heap.size∧w.cell? ⟨b,off+i,none⟩=some (.int .i64 z)):=hr;have HV':Hid (∀(i:Nat) (z:Int),k[i]? = some z→∃b off,a'=some ⟨b,off,none⟩∧b<w.heap.size∧w.cell? ⟨b,off+i,none⟩=some (.int .i64 z)):=hr';obtain⟨R,hR⟩:∃R,decide (l=k)=R:=⟨_,rfl⟩;rw[hR];have HR:Hid (decide (l=k)=R):=hR;unfold maxLen at hm hm';obtain⟨hm1,hm⟩:=hm;obtain⟨hm1',hm'⟩:=hm';clear hr hr' hR;by_cases hl:l.length=k.length
 ·have HL:Hid (l.length=k.length):=hl
  have g0:((l.length:Int) != (k.length:Int))=false:=by simp[hl]
  clear hl;go_enter Tryz.func37,Tryz.ntmps37
  go_wp2_with fail
  go_loopw [5] (fun i wr=>∃m:Nat,m≤l.length∧i=.int .i64 m∧Hid (l.take m=k.take m)∧∃n,wr=w.drewN n) (fun i _=>l.length - (intOf i).toNat)
  case atStart=>exact⟨0,by omega,rfl,rfl,0,rfl⟩
  case round =>
   obtain⟨m,hml,rfl,hall,nq,rfl⟩:=hrel;by_cases hlt:m<l.length
   ·have hlt':m<k.length:=by rw[←HL.out];exact hlt
    obtain⟨x,hx⟩:∃x,l[m]? = some x:=⟨l[m],by simp[hlt]⟩
    obtain⟨y,hy⟩:∃y,k[m]? = some y:=⟨k[m],by simp[hlt']⟩
    obtain⟨b,off,ha,hb,hc⟩:=HV.out m x hx;obtain⟨b',off',ha',hb',hd⟩:=HV'.out m y hy;have HX:Hid (l[m]? = some x):=hx;have HY:Hid (k[m]? = some y):=hy;subst ha;subst ha';clear hx hy;by_cases hq:x=y
    ·subst hq
     have HN:Hid (l.take (m+1)=k.take (m+1)):=zQj l k m x hall.out HX.out HY.out;go_wp2
     go_quiet (fail)
     go_wp2
     go_roundw
     case rel=>exact⟨m+1,by omega,by go_num,HN,_,rfl⟩
     case measure=>simp[intOf];omega
    ·have HN:Hid (R=false):=by rw[←HR.out];exact decide_eq_false (zSU l k m x y HX.out HY.out hq)
     have hq2:(x != y)=true:=by simpa using hq
     clear hq;go_wp2
     go_quiet (fail)
     go_wp2
     go_ret
     exact⟨zAC HN.out.symm,_,zD0 _ _ _⟩
   ·have HN:Hid (R=true):=by rw[←HR.out];exact decide_eq_true (zST l k m hall.out hlt HL.out)
    go_wp2
    go_ret
    exact⟨zAC HN.out.symm,_,rfl⟩
 ·have HN:Hid (R=false):=by rw[←HR.out];exact decide_eq_false (fun h=>hl (by rw[h]))
  have g0:((l.length:Int) != (k.length:Int))=true:=by simp;omega
  clear hl;go_enter Tryz.func37,Tryz.ntmps37
  go_wp2
  go_ret
  exact⟨zAC HN.out.symm,0,rfl⟩
theorem LArg.nth {w:World} {a:Option Addr} {n c:Nat} {l:List MLit} (h:LArg w (.slice a n c) l) (i:Nat) (t:MLit) (hr:l[i]? = some t):∃b off,a=some ⟨b,off,none⟩∧b<w.heap.size ∧
 w.cell? ⟨b,off+i * 3,none⟩=some (.int .i64 t.var)∧w.cell? ⟨b,off+i * 3+1,none⟩=some (.int .i64 t.op)∧w.cell? ⟨b,off+i * 3+2,none⟩=some (.int .i64 t.n):=by
 obtain⟨a',c',hv,_,hh⟩:=h;cases hv
 exact hh i t hr
theorem zKX (s:List MLit) (v u:Value) (w:World) (hv:LArg w v s) (hu:LArg w u s) :
 Calls Tryz.prog 48 #[v,u] w fun e w'=>e=.returned (.bool true)∧∃n,w'=w.drewN n:=by
 have HA:Hid (LArg w v s):=hv;have HA':Hid (LArg w u s):=hu;obtain⟨a,c,rfl,hm,_⟩:=hv;obtain⟨a',c',rfl,hm',_⟩:=hu;unfold maxLen at hm hm';obtain⟨hm1,hm⟩:=hm;obtain⟨hm1',hm'⟩:=hm';have g0:((s.length:Int) != (s.length:Int))=false:=by simp
 go_enter Tryz.func48,Tryz.ntmps48
 go_wp2_with fail
 go_loopw [5] (fun i wr=>∃m:Nat,m≤s.length∧i=.int .i64 m∧∃n,wr=w.drewN n) (fun i _=>s.length - (intOf i).toNat)
 case atStart=>exact⟨0,by omega,rfl,0,rfl⟩
 case round =>
  obtain⟨m,hml,rfl,nq,rfl⟩:=hrel;by_cases hlt:m<s.length
  ·obtain⟨x,hx⟩:∃x,s[m]? = some x:=⟨s[m],by simp[hlt]⟩
   obtain⟨b,off,rfl,hb,h0,h1,h2⟩:=LArg.nth HA.out m x hx;obtain⟨b',off',rfl,hb',h0',h1',h2'⟩:=LArg.nth HA'.out m x hx;clear hx;go_wp2
   go_quiet (fail)
   go_wp2
   go_roundw
   case rel=>exact⟨m+1,by omega,by go_num,_,rfl⟩
   case measure=>simp[intOf];omega
  ·go_wp2
   go_ret
   exact⟨rfl,_,rfl⟩
theorem zQk (w:World) (v o n:Int) (B:Nat) (hB:B=w.heap.size):LArg (w.alloc (.cells #[.int .i64 v,.int .i64 o,.int .i64 n] 88)) (.slice (some ⟨B,0,none⟩) 1 1) [⟨v,o,n⟩]:=by
 subst hB;refine⟨_,1,rfl,⟨by simp,by unfold maxLen;omega⟩,fun i t ht=>?_⟩
 match i,ht with
 | 0,ht =>
   cases ht
   exact⟨_,0,rfl,by simp,World.cell?_alloc_at _ _ _ 0 (by simp),World.cell?_alloc_at _ _ _ 1 (by simp),World.cell?_alloc_at _ _ _ 2 (by simp)⟩
theorem zG2 (w:World) (a b:Int) (B:Nat) (hB:B=w.heap.size):IArg (w.alloc (.cells #[.int .i64 a,.int .i64 b] 3)) (.slice (some ⟨B,0,none⟩) 2 2) [a,b]:=by
 subst hB;refine⟨_,2,rfl,⟨by simp,by unfold maxLen;omega⟩,fun i z hz=>?_⟩
 match i,hz with
 | 0,hz =>
   cases hz
   exact⟨_,0,rfl,by simp,World.cell?_alloc_at _ _ _ 0 (by simp)⟩
 | 1,hz =>
   cases hz
   exact⟨_,0,rfl,by simp,World.cell?_alloc_at _ _ _ 1 (by simp)⟩
theorem zN2 {w w':World} (h:∃n,w'=w.drewN n):Below w.heap.size w w':=by
 obtain⟨n,rfl⟩:=h;exact⟨rfl,rfl,rfl,Nat.le_refl _,fun _ _=>rfl⟩
theorem zO4 (w:World) (hT:TabT w) :
 Calls Tryz.prog 11 #[] w fun e w'=>e=.returned (.bool true)∧Below w.heap.size w w':=by
 have HT:Hid (∀w',Below w.heap.size w w'→TabT w'):=fun w' h=>hT.below h
 obtain⟨P,hP,hPl⟩:=zM6;have HP:Hid (zBt twoM 20=(⟨1,[0,1],P⟩,0)):=hP;clear hT hP;go_enter Tryz.func11,Tryz.ntmps11
 go_wp2_with fail
 refine (zMO _).mono ?_;rintro e w1 ⟨vs,cs,rfl,hm,hb1⟩;have HM:Hid (MArg w1 vs cs twoM):=hm;have HA1:Hid (Below w.heap.size w w1):=hb1;clear hm hb1;go_wp2_with fail
 refine (zIW twoM [0,2] vs cs _ _ (MArg.below (zAA _ _) HM.out) (zG2 w1 0 2 _ rfl)).mono ?_;rintro e w2 ⟨x,rfl,hx,hb2⟩;rw[zUD] at hx ⊢
 dsimp only at hx ⊢
 have HX:Hid (∀Y,Below w2.heap.size w2 Y→LArg Y x [⟨1,1,1⟩]):=fun Y hY=>LArg.below hY hx.arg
 have HA2:Hid (Below w.heap.size w w2):=(HA1.out.alloc HA1.out.size _).trans (hb2.mono (by have:=HA1.out.size;simp;omega))
 obtain⟨ax,cx,hxe⟩:=zAB (show w2.ownsRow _ _ _ _ _ _ from hx)
 subst hxe;clear hx hb2 HM;go_wp2_with fail
 refine (zMO _).mono ?_;rintro e w3 ⟨vs,cs,rfl,hm,hb3⟩;have HM:Hid (MArg w3 vs cs twoM):=hm;have HX3:Hid (Below w2.heap.size w2 w3):=hb3;have HA3:Hid (Below w.heap.size w w3):=HA2.out.trans (hb3.mono HA2.out.size);clear hm hb3;go_wp2_with fail
 refine (zHh twoM 20 vs cs _ HM.out (HT.out _ HA3.out)).mono ?_;rintro e w4 ⟨vv,pp,rfl,hq,hb4⟩;rw[HP.out] at hq ⊢
 dsimp only at hq ⊢
 obtain⟨L,hst,hLe⟩:=hq.prf;simp only at hLe;have hLl:0<L.length:=by have:=congrArg List.length hLe;rw[List.length_map] at this;omega
 obtain⟨av,cv,rfl⟩:=zAB hq.val;obtain⟨ap,cp,rfl⟩:=zAB hst.1;have HV:Hid (∀Y,Below w4.heap.size w4 Y→IArg Y (.slice av [0,1].length cv) [0,1]):=fun Y hY=>IArg.below hY (zD5 hq.val)
 have HX4:Hid (Below w2.heap.size w2 w4):=HX3.out.trans (hb4.mono HX3.out.size);have HA4:Hid (Below w.heap.size w w4):=HA3.out.trans (hb4.mono HA3.out.size);have hLl2:(0:Int)<(L.length:Int):=by omega
 have hLl3:¬L=[]:=fun h=>by rw[h] at hLl;cases hLl
 clear hq hb4 hst hLe HM HP hPl;go_wp2_with fail
 have hb5:Below w4.heap.size w4 (w4.alloc (.cells #[.int .i64 1,.slice av 2 cv,.slice ap L.length cp] 29)):=zAA _ _;have hbl5:=heap_alloc_new w4 (.cells #[.int .i64 1,.slice av 2 cv,.slice ap L.length cp] 29);obtain⟨W5,hW5⟩:∃W5,w4.alloc (.cells #[.int .i64 1,.slice av 2 cv,.slice ap L.length cp] 29)=W5:=⟨_,rfl⟩;have hsz5:W5.heap.size=w4.heap.size+1:=by rw[←hW5];simp
 rw[hW5] at hb5 hbl5 ⊢;refine (zKX [⟨1,1,1⟩] _ _ _ (HX.out _ ((HX4.out.trans (hb5.mono HX4.out.size)).alloc (by have:=HX4.out.size;omega) _)) (zQk W5 1 1 1 _ hsz5.symm)).mono ?_
 rintro e w6 ⟨rfl,hd6⟩;have hB6:Below W5.heap.size W5 w6:=(zAA _ _).trans ((zN2 hd6).mono (by simp))
 have HBL6:Hid (w6.heap[w4.heap.size]? = some (.cells #[.int .i64 1,.slice av 2 cv,.slice ap L.length cp] 29)):=(hB6.block _ (by omega)).trans hbl5
 have HB6:Hid (Below w4.heap.size w4 w6):=hb5.trans (hB6.mono (by omega))
 have k0:=blk9 HBL6.out 0 _ rfl;have k1:=blk9 HBL6.out 1 _ rfl;have k2:=blk9 HBL6.out 2 _ rfl;have kl:=(Array.getElem?_eq_some_iff.1 HBL6.out).1;clear hd6 hB6 hsz5 hW5 hb5 hbl5;go_wp2_with fail
 refine (zLd [0,1] [0,1] _ _ _ (HV.out _ (HB6.out.alloc HB6.out.size _)) (zG2 w6 0 1 _ rfl)).mono ?_;rintro e w7 ⟨rfl,hd7⟩;have hB7:Below w6.heap.size w6 w7:=(zAA _ _).trans ((zN2 hd7).mono (by simp))
 have j2:=(hB7.cell (p:=⟨w4.heap.size,2,none⟩) kl).trans k2;have jl:w4.heap.size<w7.heap.size:=Nat.lt_of_lt_of_le kl hB7.size;have HB7:Hid (Below w.heap.size w w7):=HA4.out.trans ((HB6.out.trans (hB7.mono HB6.out.size)).mono HA4.out.size);rw[show (decide (([0,1]:List Int)=[0,1]))=true from rfl]
 clear hd7 hB7 k0 k1 k2;go_wp2
 go_ret
 exact⟨rfl,HB7.out⟩
def zJE (t:Tok):Prop:=t.text.size≤4000∧(t.kind=2→(1≤t.text.size∧t.text.size≤4)∧∀c∈t.text.data.toList,48≤c.toNat∧c.toNat≤57)
inductive PR (α:Type) where
 | ok (a:α) (rest:List Tok)
 | bad (place e:Int)
def PR.bind {α β:Type} (p:PR α) (f:α→List Tok→PR β):PR β :=
 match p with
 | .ok a r=>f a r
 | .bad x e=>.bad x e
def zAI (en:Int):List Tok→Tok
 | []=>⟨0,en,ByteArray.empty⟩
 | t :: _=>t
def zBm (en:Int) (fits:Bool) (l:List Tok):PR Tok:=if fits then .ok (zAI en l) l.tail else .bad (zAI en l).place 1
def zAP (en:Int) (s:ByteArray) (l:List Tok):PR Tok:=zBm en ((zAI en l).text.toList==s.toList) l
def zFo (s:ByteArray):Bool:=zAF ⟨[⟨s,0,0⟩],[],0,0⟩==0
def zCQ (en:Int) (l:List Tok):PR ByteArray:=(zBm en (zFo (zAI en l).text) l).bind fun t r=>.ok t.text r
def idxA:List ByteArray→ByteArray→Nat→Int
 | [],_,_=>-1
 | x :: r,n,k=>if n.toList==x.toList then (k:Int) else idxA r n (k+1)
def zBO (en:Int) (texts:List ByteArray) (l:List Tok):PR Int :=
 (zBm en (decide (0≤idxA texts (zAI en l).text 0)&&((zAI en l).kind != 0)) l).bind fun _ r=>.ok (idxA texts (zAI en l).text 0) r
def digV (l:List UInt8):Int:=l.foldl (fun n c=>n * 10+((c.toNat:Int) - 48)) 0
def zAN (en:Int) (l:List Tok):PR Int :=
 if (zAI en l).text.toList==[45] then
  (zAP en ⟨#[45]⟩ l).bind fun _ l=>(zBm en (((zAI en l).kind==2)&&(!((zAI en l).text.toList==[48]))) l).bind fun t r=>.ok (-1 * digV t.text.data.toList) r
 else (zBm en ((zAI en l).kind==2) l).bind fun t r=>.ok (1 * digV t.text.data.toList) r
def zBB:List ByteArray→ByteArray→Int×Bool
 | [],_=>(0,false)
 | n :: r,s=>if (zBB r s).2 then ((zBB r s).1+1,true) else if n.data.toList=s.data.toList then (0,true) else (0,false)
def zA7 (en:Int) (names:List ByteArray) (l:List Tok):PR Int :=
 if (zBB names (zAI en l).text).2 then (zBm en true l).bind fun _ r=>.ok (zBB names (zAI en l).text).1 r
 else if zFo (zAI en l).text then .bad (zAI en l).place 5 else .bad (zAI en l).place 1
theorem zIa (s n:ByteArray):∀l:List ByteArray,zBB (l++[n]) s=if n.data.toList=s.data.toList then ((l.length:Int),true) else zBB l s
 | []=>by
   simp[zBB]
 | m :: l=>by
   have ih:=zIa s n l;simp only[List.cons_append,zBB,ih];by_cases h:n.data.toList=s.data.toList
   ·rw[if_pos h,if_pos h]
    simp
   ·rw[if_neg h,if_neg h]
theorem zHS:∀l:List ByteArray,(∀n∈l,n.data.toList≠[])→zBB l ByteArray.empty=(0,false)
 | [],_=>rfl
 | n :: l,h=>by
   have ih:=zHS l fun m hm=>h m (List.mem_cons_of_mem _ hm)
   simp only[zBB,ih];rw[if_neg (by simp),if_neg (show ¬n.data.toList=ByteArray.empty.data.toList from h n (List.mem_cons_self ..))]
def zCV {α:Type} (en:Int) (item:List Tok→PR α):Nat→List α→List Tok→PR (List α)
 | 0,_,_=>.bad 0 0
 | f+1,acc,l =>
   if (zAI en l).text.toList==[44] then (zAP en ⟨#[44]⟩ l).bind fun _ l=>(item l).bind fun x l=>zCV en item f (acc++[x]) l
   else (zAP en ⟨#[93]⟩ l).bind fun _ l=>.ok acc l
def zAv {α:Type} (en:Int) (item:List Tok→PR α) (l:List Tok):PR (List α) :=
 (zAP en ⟨#[91]⟩ l).bind fun _ l =>
   if (zAI en l).text.toList==[93] then (zAP en ⟨#[93]⟩ l).bind fun _ l=>.ok [] l
   else (item l).bind fun x l=>zCV en item (l.length+1) [x] l
def Eats {α:Type} (item:List Tok→PR α):Prop:=∀l x r,item l=.ok x r→r.length≤l.length
theorem PR.bind_ok {α β:Type} {p:PR α} {f:α→List Tok→PR β} {b:β} {r:List Tok} (h:p.bind f=.ok b r):∃a q,p=.ok a q∧f a q=.ok b r:=by
 cases p with
 | ok a q=>exact⟨a,q,rfl,h⟩
 | bad x e=>cases h
theorem zDj (en:Int) (l:List Tok) (fits:Bool) (t:Tok) (r:List Tok) (h:zBm en fits l=.ok t r):r=l.tail:=by
 unfold zBm at h
 split at h
 ·cases h;rfl
 ·cases h
theorem zLe {α:Type} (en:Int) (g:List Tok→Bool) (f:Tok→List Tok→α):Eats fun l=>(zBm en (g l) l).bind fun t r=>.ok (f t r) r:=by
 intro l x r h;obtain⟨t,q,h1,h2⟩:=PR.bind_ok h;have:=zDj en l _ t q h1;cases h2
 rw[this];simp
theorem zEB (en:Int) (names:List ByteArray):Eats (zA7 en names):=by
 intro l x r h;unfold zA7 at h
 split at h
 ·obtain⟨t,q,h1,h2⟩:=PR.bind_ok h
  have:=zDj en l _ t q h1;cases h2
  rw[this];simp
 ·split at h <;> cases h
theorem zC7 (en:Int) (s:ByteArray):Eats (zAP en s):=by
 intro l x r h;rw[zDj en l _ x r h];simp
theorem zBJ (en:Int):Eats (zAN en):=by
 intro l x r h;unfold zAN at h
 split at h
 ·obtain⟨t,q,h1,h2⟩:=PR.bind_ok h
  obtain⟨t2,q2,h3,h4⟩:=PR.bind_ok h2;have e1:=zC7 en _ l t q h1;have e2:=zDj en q _ t2 q2 h3;cases h4
  rw[e2];simp;omega
 ·obtain⟨t2,q2,h3,h4⟩:=PR.bind_ok h
  have e2:=zDj en l _ t2 q2 h3;cases h4
  rw[e2];simp
theorem zLf {α:Type} (en:Int) (item:List Tok→PR α) (hi:Eats item):∀(f:Nat) (acc:List α),Eats (zCV en item f acc)
 | 0,acc=>fun l x r h=>by cases h
 | f+1,acc=>fun l x r h=>by
   unfold zCV at h
   split at h
   ·obtain⟨t,q,h1,h2⟩:=PR.bind_ok h
    obtain⟨t2,q2,h3,h4⟩:=PR.bind_ok h2;have e1:=zC7 en _ l t q h1;have e2:=hi q t2 q2 h3;have e3:=zLf en item hi f _ q2 x r h4;omega
   ·obtain⟨t,q,h1,h2⟩:=PR.bind_ok h
    have e1:=zC7 en _ l t q h1;cases h2
    exact e1
theorem zCY {α:Type} (en:Int) (item:List Tok→PR α) (hi:Eats item):Eats (zAv en item):=by
 intro l x r h;unfold zAv at h;obtain⟨t,q,h1,h2⟩:=PR.bind_ok h;have e1:=zC7 en _ l t q h1
 split at h2
 ·obtain⟨t2,q2,h3,h4⟩:=PR.bind_ok h2
  have e2:=zC7 en _ q t2 q2 h3;cases h4
  omega
 ·obtain⟨t2,q2,h3,h4⟩:=PR.bind_ok h2
  have e2:=hi q t2 q2 h3;have e3:=zLf en item hi _ _ q2 x r h4;omega
def opWL:List ByteArray:=[⟨#[]⟩,⟨#[60,61]⟩,⟨#[62,61]⟩,⟨#[61,61]⟩,⟨#[33,61]⟩]
def zCZ:List ByteArray:=[⟨#[97,110,121]⟩,⟨#[108,101,97,115,116]⟩,⟨#[109,111,115,116]⟩]
def zBy:List ByteArray:=[⟨#[]⟩,⟨#[108,101]⟩,⟨#[101,113]⟩,⟨#[110,101]⟩,⟨#[100,105,102,102,101,114]⟩,⟨#[101,108,101,109,101,110,116]⟩,⟨#[116,97,98,108,101]⟩,⟨#[116,105,109,101,115]⟩,⟨#[109,97,120]⟩,⟨#[99,108,97,117,115,101]⟩,⟨#[105,102,102]⟩]
def litP (en:Int) (names:List ByteArray) (l:List Tok):PR MLit :=
 (zA7 en names l).bind fun v l=>(zBO en opWL l).bind fun op l=>(zAN en l).bind fun n l=>.ok ⟨v,op,n⟩ l
theorem zG3 (en:Int) (texts:List ByteArray):Eats (zBO en texts):=by
 intro l x r h;unfold zBO at h;obtain⟨t,q,h1,h2⟩:=PR.bind_ok h;have:=zDj en l _ t q h1;cases h2
 rw[this];simp
theorem zGi (en:Int) (names:List ByteArray):Eats (litP en names):=by
 intro l x r h;unfold litP at h;obtain⟨t,q,h1,h2⟩:=PR.bind_ok h;obtain⟨t2,q2,h3,h4⟩:=PR.bind_ok h2;obtain⟨t3,q3,h5,h6⟩:=PR.bind_ok h4;have e1:=zEB en names l t q h1;have e2:=zG3 en opWL q t2 q2 h3;have e3:=zBJ en q2 t3 q3 h5;cases h6
 omega
def varW:ByteArray:=⟨#[118,97,114]⟩
def colW:ByteArray:=⟨#[58]⟩
def zDs:ByteArray:=⟨#[46,46]⟩
def zAk:ByteArray:=⟨#[59]⟩
def conW:ByteArray:=⟨#[99,111,110]⟩
def zEN:ByteArray:=⟨#[115,111,108,118,101]⟩
def zCj (en:Int) (l:List Tok):PR MVar :=
 (zAP en varW l).bind fun _ l=>(zCQ en l).bind fun n l=>(zAP en colW l).bind fun _ l=>(zAN en l).bind fun lo l=>(zAP en zDs l).bind fun _ l=>(zAN en l).bind fun hi l=>(zAP en zAk l).bind fun _ l=>.ok ⟨n,lo,hi⟩ l
def zKY (en:Int) (names:List ByteArray) (l:List Tok):PR (Int×Int) :=
 (zAP en zEN l).bind fun _ l=>(zBO en zCZ l).bind fun g l =>
   if g=0 then (zAP en zAk l).bind fun _ l=>.ok (g,0) l
   else (zA7 en names l).bind fun v l=>(zAP en zAk l).bind fun _ l=>.ok (g,v) l
def zB9 (en:Int) (names:List ByteArray) (k:Int) (l:List Tok):PR MCon :=
 if k=1∨k=2∨k=3 then (zAv en (zAN en) l).bind fun cs l=>(zAv en (zA7 en names) l).bind fun vs l=>(zAN en l).bind fun n l=>.ok ⟨k,vs,cs,n,[],[]⟩ l
 else if k=4 then (zAv en (zA7 en names) l).bind fun vs l=>.ok ⟨k,vs,[],0,[],[]⟩ l
 else if k=5 then (zAv en (zAN en) l).bind fun cs l=>(zA7 en names l).bind fun a l=>(zA7 en names l).bind fun b l=>.ok ⟨k,[a,b],cs,0,[],[]⟩ l
 else if k=6 then (zAv en (zA7 en names) l).bind fun vs l=>(zAv en (zAv en (zAN en)) l).bind fun rs l=>.ok ⟨k,vs,[],0,rs,[]⟩ l
 else if k=7 then (zA7 en names l).bind fun a l=>(zA7 en names l).bind fun b l=>(zA7 en names l).bind fun c l=>.ok ⟨k,[a,b,c],[],0,[],[]⟩ l
 else if k=8 then (zA7 en names l).bind fun a l=>(zAv en (zA7 en names) l).bind fun vs l=>.ok ⟨k,[a]++vs,[],0,[],[]⟩ l
 else if k=9 then (zAv en (litP en names) l).bind fun ls l=>.ok ⟨k,[],[],0,[],ls⟩ l
 else if k=10 then (zA7 en names l).bind fun a l=>(litP en names l).bind fun t l=>.ok ⟨k,[a],[],0,[],[t]⟩ l
 else .ok ⟨k,[],[],0,[],[]⟩ l
def conP (en:Int) (names:List ByteArray) (l:List Tok):PR MCon :=
 (zAP en conW l).bind fun _ l=>(zBO en zBy l).bind fun k l=>(zB9 en names k l).bind fun c l=>(zAP en zAk l).bind fun _ l=>.ok c l
def zIb (en:Int):Nat→List MVar→List Tok→PR (List MVar)
 | 0,_,_=>.bad 0 0
 | f+1,acc,l=>if (zAI en l).text.toList==[118,97,114] then (zCj en l).bind fun v l=>zIb en f (acc++[v]) l else .ok acc l
def zG4 (en:Int) (names:List ByteArray):Nat→List MCon→List Tok→PR (List MCon)
 | 0,_,_=>.bad 0 0
 | f+1,acc,l=>if (zAI en l).text.toList==[99,111,110] then (conP en names l).bind fun c l=>zG4 en names f (acc++[c]) l else .ok acc l
def zIc (en:Int) (l:List Tok):PR Mod :=
 (zIb en (l.length+1) [] l).bind fun vs l=>(zG4 en (vs.map MVar.name) (l.length+1) [] l).bind fun cs l=>(zKY en (vs.map MVar.name) l).bind fun g l =>
   if 0<l.length then .bad (zAI en l).place 1 else .ok ⟨vs,cs,g.1,g.2⟩ l
end Go.Proofs.YtdjbejlbmaiocagGreatDoor
