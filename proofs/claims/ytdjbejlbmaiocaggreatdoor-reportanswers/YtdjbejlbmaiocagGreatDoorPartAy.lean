/- What the proof leans on, part 25. -/
import Derived.Test.YtdjbejlbmaiocagGreatDoorPartAv
import Derived.Test.YtdjbejlbmaiocagGreatDoorPartAx
set_option maxRecDepth 100000
set_option maxHeartbeats 3200000
namespace Go.Proofs.YtdjbejlbmaiocagGreatDoor
open Go.RowKit Go.Maps
theorem zN0 {w w1 W:World} {s r mb:Nat} {sv pv:Value} {vs:List MVar} {pt:List (List Nat)} {fuel:Nat} (hv:VArg w sv vs) (hT:TabT w) (hb1:Below w.heap.size w w1) (hr:w.heap.size≤r) (hm:w.heap.size≤mb) (hs:w1.heap.size≤s) (hmr:mb<r∨w1.heap.size≤mb)
 (hp:PRow (r+1) w1 pv pt) (hl:∀pts∈pt,∀z∈pts,z<2 ^ 36) (hbW:Below w1.heap.size w1 W)
 (hR:W.heap[r]? = some (.cells #[sv,pv,.slice none 0 0] 204)) (hS:W.heap[s]? = some (.cells #[sv,.pointer (some ⟨r,0,none⟩),.int .i64 (fuel:Int),.slice none 0 0,.map (some mb),.slice none 0 0] 120))
 (hM:W.ownsMap Tryz.prog 183 (unitElem (H:=Unit)) mb 0 (setU [])):SkB W s r mb sv pv vs pt∧SkD W W s r mb sv pv (.slice none 0 0) (.slice none 0 0) (.slice none 0 0) [] [] ⟨[],fuel,[],[]⟩:=by
 refine⟨⟨(Array.getElem?_eq_some_iff.1 hR).1,(Array.getElem?_eq_some_iff.1 hS).1,hM.lt,fun w' hf=>?_⟩,⟨hR,hS,World.ownsRow_nil _ _ _ _,(fun z hz=>by cases hz),⟨World.ownsRow_nil _ _ _ _,(fun x hx=>by cases hx)⟩,rfl,hM,World.ownsRow_nil _ _ _ _,(fun x hx=>by cases hx),Fr.refl _ _⟩⟩
 have hb2:Below w.heap.size w w':=⟨hf.os.trans (hbW.os.trans hb1.os),hf.tape.trans (hbW.tape.trans hb1.tape),hf.output.trans (hbW.output.trans hb1.output),Nat.le_trans (Nat.le_trans hb1.size hbW.size) hf.size,fun k hk=>by
  have h1:=hb1.size;have h2:=hbW.size;exact (hf.block k (by omega) (by unfold XS;omega)).trans ((hbW.block k (by omega)).trans (hb1.block k hk))⟩
 refine⟨VArg.below hb2 hv,?_,hT.below hb2⟩;have hf1:Fr (fun k=>k=r∨k=mb∧mb<r) w1 w':=⟨hf.os.trans hbW.os,hf.tape.trans hbW.tape,hf.output.trans hbW.output,Nat.le_trans hbW.size hf.size,fun k hk hn=>by
  have h2:=hbW.size;exact (hf.block k (by omega) (by unfold XS;omega)).trans (hbW.block k hk)⟩
 exact (hp.fr hf1 (fun g hg=>by omega)).arg hl
def NewQ (m:Mod) (vs:Value) (fuel:Nat) (w W:World) (s:Nat):Prop:=∃r mb pv,SkB W s r mb vs pv m.vars (ptsM m)∧SkD W W s r mb vs pv (.slice none 0 0) (.slice none 0 0) (.slice none 0 0) [] [] ⟨[],fuel,[],[]⟩∧Below w.heap.size w W∧w.heap.size≤r∧w.heap.size≤s∧w.heap.size≤mb
theorem zQe (m:Mod) (hm:zAF m=0) (fuel:Nat) (vs cs:Value) (w:World) (hma:MArg w vs cs m) (hT:TabT w) :
 Calls Tryz.prog 41 #[modV vs cs m,.int .i64 (fuel:Int)] w fun e W=>∃s,e=.returned (.pointer (some ⟨s,0,none⟩))∧NewQ m vs fuel w W s:=by
 have HMA:Hid (∀w',Below w.heap.size w w'→MArg w' vs cs m):=fun w' h=>MArg.below h hma
 have HT:Hid (∀w',Below w.heap.size w w'→TabT w'):=fun w' h=>hT.below h
 have HLT:Hid (∀pts∈ptsM m,∀z∈pts,z<2 ^ 36):=zQc m hm;have HOF:Hid (∀Z,Below w.heap.size w Z→Calls Tryz.prog 87 #[modV vs cs m] Z fun e w'=>∃r pv,e=.returned (.pointer (some ⟨r,0,none⟩))∧w'.heap[r]? = some (.cells #[vs,pv,.slice none 0 0] 204)∧Z.heap.size≤r∧Below Z.heap.size Z w'∧PRow (r+1) w' pv (ptsM m)):=fun Z hZ =>
  (zQd m hm vs cs Z (HMA.out _ hZ) (HT.out _ hZ)).mono (by rintro e w' ⟨r,pv,h1,_,h3,h4,h5,h6⟩;exact⟨r,pv,h1,h3.blk,h4,h5,h6⟩)
 have HV:Hid (VArg w vs m.vars):=hma.1;obtain⟨⟨a1,c1,rfl,_,_⟩,⟨a2,c2,rfl,_,_⟩⟩:=hma;unfold modV at *;have hmm:=@run_makeMap Tryz.prog;clear hm hT;go_enter Tryz.func41,Tryz.ntmps41
 go_wp2_with fail
 have hbY:Below w.heap.size w (w.alloc (.cells #[.slice a1 m.vars.length c1,.slice a2 m.cons.length c2,.int .i64 m.goal,.int .i64 m.var] 25)):=zAA _ _;obtain⟨Y,hY⟩:∃Y,w.alloc (.cells #[.slice a1 m.vars.length c1,.slice a2 m.cons.length c2,.int .i64 m.goal,.int .i64 m.var] 25)=Y:=⟨_,rfl⟩;have d0:Y.cell? ⟨w.heap.size,0,none⟩=some (.slice a1 m.vars.length c1):=by rw[←hY];simp
 have d1:Y.cell? ⟨w.heap.size,1,none⟩=some (.slice a2 m.cons.length c2):=by rw[←hY];simp
 have d2:Y.cell? ⟨w.heap.size,2,none⟩=some (.int .i64 m.goal):=by rw[←hY];simp
 have d3:Y.cell? ⟨w.heap.size,3,none⟩=some (.int .i64 m.var):=by rw[←hY];simp
 have dl:w.heap.size<Y.heap.size:=by rw[←hY];simp
 rw[hY] at hbY ⊢;have HBY:Hid (Below w.heap.size w Y):=hbY;clear hY hbY;go_region_law
  (first
    | (rw[if_pos (by rfl)];go_simp;go_at_call 87;refine (HOF.out _ HBY.out.drew).mono ?_;rintro e w3 ⟨r,pv,rfl,hr3,hrr,hb3,hp3⟩;have hB3:Below Y.heap.size Y w3:=(Below.refl _ _).drew.trans hb3;have d0':=(hB3.cell (p:=⟨w.heap.size,0,none⟩) dl).trans d0;have dl':w.heap.size<w3.heap.size:=Nat.lt_of_lt_of_le dl hB3.size;dsimp only)
    | (rw[if_pos (by rfl)];go_simp;go_at_call 87;refine (HOF.out _ (HBY.out.drew.alloc HBY.out.size _)).mono ?_;rintro e w3 ⟨r,pv,rfl,hr3,hrr,hb3,hp3⟩;have hB4:Below Y.heap.size Y w3:=((Below.refl _ _).drew.alloc (Nat.le_refl _) _).trans (hb3.mono (by simp));have d0':=(hB4.cell (p:=⟨w.heap.size,0,none⟩) dl).trans d0;have dl':w.heap.size<w3.heap.size:=Nat.lt_of_lt_of_le dl hB4.size;dsimp only))
 all_goals
  first
   | (have HQ:Hid (NewQ m (.slice a1 m.vars.length c1) fuel w ((w3.alloc (.map #[] 0)).alloc (.cells #[.slice a1 m.vars.length c1,.pointer (some ⟨r,0,none⟩),.int .i64 (fuel:Int),.slice none 0 0,.map (some w3.heap.size),.slice none 0 0] 120)) (w3.heap.size+1)):=by
       have hbw:Below w.heap.size w w3:=HBY.out.trans (hB3.mono HBY.out.size);have hbW:Below w3.heap.size w3 ((w3.alloc (.map #[] 0)).alloc (.cells #[.slice a1 m.vars.length c1,.pointer (some ⟨r,0,none⟩),.int .i64 (fuel:Int),.slice none 0 0,.map (some w3.heap.size),.slice none 0 0] 120)):=(zAA _ _).alloc (by simp) _
       have hsz:=hbw.size;have hry:Y.heap.size≤r:=hrr;have hS:=heap_alloc_new (w3.alloc (.map #[] 0)) (.cells #[.slice a1 m.vars.length c1,.pointer (some ⟨r,0,none⟩),.int .i64 (fuel:Int),.slice none 0 0,.map (some w3.heap.size),.slice none 0 0] 120);rw[World.size_alloc] at hS;exact⟨r,w3.heap.size,pv,(zN0 HV.out (HT.out _ (Below.refl _ _)) hbw (by omega) (by omega) (by omega) (Or.inr (Nat.le_refl _)) hp3 HLT.out hbW ((hbW.block r (Array.getElem?_eq_some_iff.1 hr3).1).trans hr3) hS ((World.ownsMap_made _ _ _ _).alloc _)).1,(zN0 HV.out (HT.out _ (Below.refl _ _)) hbw (by omega) (by omega) (by omega) (Or.inr (Nat.le_refl _)) hp3 HLT.out hbW ((hbW.block r (Array.getElem?_eq_some_iff.1 hr3).1).trans hr3) hS ((World.ownsMap_made _ _ _ _).alloc _)).2,hbw.trans (hbW.mono hsz),by omega,by omega,by omega⟩
      go_wp2
      go_ret
      exact⟨_,rfl,HQ.out⟩)
   | (have HQ:Hid (NewQ m (.slice a1 m.vars.length c1) fuel w (w3.alloc (.cells #[.slice a1 m.vars.length c1,.pointer (some ⟨r,0,none⟩),.int .i64 (fuel:Int),.slice none 0 0,.map (some Y.heap.size),.slice none 0 0] 120)) w3.heap.size):=by
       have hbw:Below w.heap.size w w3:=HBY.out.trans (hB4.mono HBY.out.size);have hbW:Below w3.heap.size w3 (w3.alloc (.cells #[.slice a1 m.vars.length c1,.pointer (some ⟨r,0,none⟩),.int .i64 (fuel:Int),.slice none 0 0,.map (some Y.heap.size),.slice none 0 0] 120)):=zAA _ _;have hsz:=hbw.size;have hry:Y.heap.size+1≤r:=by simpa using hrr
       have hS:=heap_alloc_new w3 (.cells #[.slice a1 m.vars.length c1,.pointer (some ⟨r,0,none⟩),.int .i64 (fuel:Int),.slice none 0 0,.map (some Y.heap.size),.slice none 0 0] 120);have hmd:(Y.drew.alloc (.map #[] 0)).ownsMap Tryz.prog 183 (unitElem (H:=Unit)) Y.heap.size 0 (setU []):=World.ownsMap_made Y.drew _ _ _;have hM:=(zLX hmd hb3).alloc (.cells #[.slice a1 m.vars.length c1,.pointer (some ⟨r,0,none⟩),.int .i64 (fuel:Int),.slice none 0 0,.map (some Y.heap.size),.slice none 0 0] 120);exact⟨r,Y.heap.size,pv,(zN0 HV.out (HT.out _ (Below.refl _ _)) hbw (by omega) (by omega) (by omega) (Or.inl (by omega)) hp3 HLT.out hbW ((hbW.block r (Array.getElem?_eq_some_iff.1 hr3).1).trans hr3) hS hM).1,(zN0 HV.out (HT.out _ (Below.refl _ _)) hbw (by omega) (by omega) (by omega) (Or.inl (by omega)) hp3 HLT.out hbW ((hbW.block r (Array.getElem?_eq_some_iff.1 hr3).1).trans hr3) hS hM).2,hbw.trans (hbW.mono hsz),by omega,by omega,by omega⟩
      go_wp2
      go_ret
      exact⟨_,rfl,HQ.out⟩)
structure Ans where
 verdict:Int
 values:List Int
 proof:List MStep
def zIV:Ans:=⟨0,[],[]⟩
def zC6 (fuel:Int):Sk:=⟨[],fuel.toNat,[],[]⟩
def zE3 (m:Mod) (fuel:Int):Int×List Int×Sk:=zAa m.vars (ptsM m) (zC6 fuel)
def zFQ (m:Mod) (fuel:Int):Ans×Int :=
 if zAF m=0 then
  (if fuel<0∨300<fuel then (zIV,3)
   else if (zE3 m fuel).1=2 then (⟨2,[],(zE3 m fuel).2.2.proof⟩,0) else (⟨(zE3 m fuel).1,(zE3 m fuel).2.1,[]⟩,0))
 else (zIV,zAF m)
structure AnsQ (base:Nat) (w:World) (vv pp:Value) (a:Ans):Prop where
 val:w.ownsRow base 3 1 vv a.values.length (a.values.map (Value.int .i64))
 prf:∃L:List SV,zCP base w pp L∧L.map (·.1)=a.proof
theorem zG0 (base:Nat) (w:World) (v:Int):AnsQ base w (.slice none 0 0) (.slice none 0 0) ⟨v,[],[]⟩:=⟨World.ownsRow_nil _ _ _ _,[],⟨World.ownsRow_nil _ _ _ _,fun x hx=>by cases hx⟩,rfl⟩
theorem AnsQ.below {base:Nat} {w w':World} {vv pp:Value} {a:Ans} (h:AnsQ base w vv pp a) (hb:Below w.heap.size w w'):AnsQ base w' vv pp a:=by
 obtain⟨L,h1,h2⟩:=h.prf;exact⟨zAG h.val hb,L,h1.below hb,h2⟩
theorem AnsQ.set {base:Nat} {w:World} {vv pp:Value} {a:Ans} {C:Nat} {cs:Array Value} (h:AnsQ base w vv pp a) (hC:w.heap[C]? = some (.cells cs 29)) (i:Nat) (u:Value):AnsQ base (w.setCell ⟨C,i,none⟩ u) vv pp a:=by
 obtain⟨L,h1,h2⟩:=h.prf;exact⟨zAu h.val hC (by decide) i u,L,h1.set hC (by decide) (by decide) i u,h2⟩
theorem AnsQ.set3 {base:Nat} {w:World} {vv pp:Value} {a:Ans} {C:Nat} {x y z:Value} (h:AnsQ base w vv pp a) (hC:w.heap[C]? = some (.cells #[x,y,z] 29)) (u0 u1 u2:Value):AnsQ base (((w.setCell ⟨C,0,none⟩ u0).setCell ⟨C,1,none⟩ u1).setCell ⟨C,2,none⟩ u2) vv pp a:=by
 have h1:=h.set hC 0 u0;have e1:(w.setCell ⟨C,0,none⟩ u0).heap[C]? = some (.cells #[u0,y,z] 29):=by rw[heap_setCell_same w C 0 _ _ u0 hC];rfl
 have h2:=h1.set e1 1 u1;have e2:((w.setCell ⟨C,0,none⟩ u0).setCell ⟨C,1,none⟩ u1).heap[C]? = some (.cells #[u0,u1,z] 29):=by rw[heap_setCell_same _ C 1 _ _ u1 e1];rfl
 exact h2.set e2 2 u2
theorem zEk (w:World) (a b:Obj):((w.alloc a).alloc b).heap[w.heap.size]? = some a∧((w.alloc a).alloc b).heap[w.heap.size+1]? = some b:=by
 refine⟨(Below.heap_alloc _ _ _ (by simp)).trans (heap_alloc_new w a),?_⟩
 have h:=heap_alloc_new (w.alloc a) b;rw[World.size_alloc] at h;exact h
theorem zGe (vs:List MVar) (fuel:Int) (h:fuel≤300):SkO vs (zC6 fuel):=⟨by simp[zC6],by simp[zC6];omega,zR3 vs⟩
theorem zQf (m:Mod) (fuel:Int) (vs cs:Value) (w:World) (hma:MArg w vs cs m) (hT:TabT w) :
 Calls Tryz.prog 32 #[modV vs cs m,.int .i64 fuel] w fun e w'=>∃vv pp,e=.returned (.tuple #[.agg #[.int .i64 (zFQ m fuel).1.verdict,vv,pp],.int .i64 (zFQ m fuel).2])∧AnsQ w.heap.size w' vv pp (zFQ m fuel).1∧Below w.heap.size w w':=by
 have HMA:Hid (∀w',Below w.heap.size w w'→MArg w' vs cs m):=fun w' h=>MArg.below h hma
 have HT:Hid (∀w',Below w.heap.size w w'→TabT w'):=fun w' h=>hT.below h
 obtain⟨⟨a1,c1,rfl,_,_⟩,⟨a2,c2,rfl,_,_⟩⟩:=hma;obtain⟨R,hR⟩:∃R,zFQ m fuel=R:=⟨_,rfl⟩;rw[hR];obtain⟨er,her⟩:∃er,zAF m=er:=⟨_,rfl⟩;have HER:Hid (zAF m=er):=her;unfold zFQ at hR;rw[her] at hR;have HR:=(show Hid _ from hR)
 clear hR her hT;unfold modV;go_enter Tryz.func32,Tryz.ntmps32
 go_wp2_with fail
 obtain⟨HA,HB⟩:=zEk w (.cells #[.slice a1 m.vars.length c1,.slice a2 m.cons.length c2,.int .i64 m.goal,.int .i64 m.var] 25) (.cells #[.int .i64 0,.slice none 0 0,.slice none 0 0] 29);have hbY:Below w.heap.size w ((w.alloc (.cells #[.slice a1 m.vars.length c1,.slice a2 m.cons.length c2,.int .i64 m.goal,.int .i64 m.var] 25)).alloc (.cells #[.int .i64 0,.slice none 0 0,.slice none 0 0] 29)):=(zAA _ _).alloc (by simp) _
 refine (zCD m (.slice a1 m.vars.length c1) (.slice a2 m.cons.length c2) _ (HMA.out _ hbY)).mono ?_;rintro e w1 ⟨rfl,hb1⟩;rw[HER.out];have HA1:Hid (w1.heap[w.heap.size]? = some (.cells #[.slice a1 m.vars.length c1,.slice a2 m.cons.length c2,.int .i64 m.goal,.int .i64 m.var] 25)):=(hb1.block _ (by simp;omega)).trans HA
 have HB1:Hid (w1.heap[w.heap.size+1]? = some (.cells #[.int .i64 0,.slice none 0 0,.slice none 0 0] 29)):=(hb1.block _ (by simp)).trans HB
 have HBL:Hid (Below w.heap.size w w1):=hbY.trans (hb1.mono (by simp;omega))
 have hs1:w.heap.size+2≤w1.heap.size:=by simpa using hb1.size
 clear hb1 HA HB hbY;have g0:=blk9 HA1.out 0 _ rfl;have g1:=blk9 HA1.out 1 _ rfl;have g2:=blk9 HA1.out 2 _ rfl;have g3:=blk9 HA1.out 3 _ rfl;have r0:=blk9 HB1.out 0 _ rfl;have r1:=blk9 HB1.out 1 _ rfl;have r2:=blk9 HB1.out 2 _ rfl;have z0:=frz9 HB1.out 0;have z1:=frz9 HB1.out 1;have z2:=frz9 HB1.out 2;have lq:w.heap.size<w1.heap.size:=by omega
 have lr:w.heap.size+1<w1.heap.size:=by omega
 by_cases he:er=0
 ·subst he
  have hR:=HR.out;rw[if_pos rfl] at hR;by_cases hf:fuel<0∨300<fuel
  ·rw[if_pos hf] at hR
   have HN:Hid ((zIV,(3:Int))=R):=hR;have HQ:Hid (AnsQ w.heap.size (((w1.setCell ⟨w.heap.size+1,0,none⟩ (.int .i64 0)).setCell ⟨w.heap.size+1,1,none⟩ (.slice none 0 0)).setCell ⟨w.heap.size+1,2,none⟩ (.slice none 0 0)) (.slice none 0 0) (.slice none 0 0) zIV):=zG0 _ _ _;have HBE:Hid (Below w.heap.size w (((w1.setCell ⟨w.heap.size+1,0,none⟩ (.int .i64 0)).setCell ⟨w.heap.size+1,1,none⟩ (.slice none 0 0)).setCell ⟨w.heap.size+1,2,none⟩ (.slice none 0 0))):=((HBL.out.setCell (by simp only;omega) _).setCell (by simp only;omega) _).setCell (by simp only;omega) _
   clear hR HR;by_cases hf0:fuel<0
   ·clear hf
    go_wp2
    refine bodyPost_ret (by simp[results,Tryz.results32,go_sem, *];try rfl) rfl ?_
    rw[←HN.out];exact⟨_,_,rfl,HQ.out,HBE.out⟩
   ·have hf1:300<fuel:=by rcases hf with h | h;exact absurd h hf0;exact h
    clear hf;go_wp2
    refine bodyPost_ret (by simp[results,Tryz.results32,go_sem, *];try rfl) rfl ?_
    rw[←HN.out];exact⟨_,_,rfl,HQ.out,HBE.out⟩
  ·rw[if_neg hf] at hR
   have hf0:¬fuel<0:=fun h=>hf (Or.inl h)
   have hf1:¬300<fuel:=fun h=>hf (Or.inr h)
   obtain⟨fn,rfl⟩:∃fn:Nat,fuel=(fn:Int):=⟨fuel.toNat,by omega⟩
   have HR2:=(show Hid _ from hR)
   clear hR HR hf;go_wp2_with fail
   refine (zQe m HER.out fn (.slice a1 m.vars.length c1) (.slice a2 m.cons.length c2) w1 (HMA.out _ HBL.out) (HT.out _ HBL.out)).mono ?_;rintro e W ⟨s,rfl,r,mb,pv,hB,hD,hbW,hr,hs,hmb⟩;have HSB:Hid (SkB W s r mb (.slice a1 m.vars.length c1) pv m.vars (ptsM m)):=hB;have HSD:=(show Hid _ from hD)
   have HBW:Hid (Below w1.heap.size w1 W):=hbW;clear hB hD hbW;go_wp2_with fail
   refine (zLa m.vars (zDY m HER.out) (zEq m HER.out) (ptsM m) W s r mb _ pv _ _ _ HSB.out [] ⟨[],fn,[],[]⟩ (zGe m.vars (fn:Int) (by omega)) W HSD.out).mono ?_
   rintro e w2 ⟨x,rfl,hox,htf,cv',prv',pav',L',hd2⟩;obtain⟨X,hX⟩:∃X,zAa m.vars (ptsM m) ⟨[],fn,[],[]⟩=X:=⟨_,rfl⟩;rw[hX] at hox hd2 ⊢;have HXE:Hid (zE3 m (fn:Int)=X):=hX;rw[HXE.out] at HR2;have HO2:Hid (w2.ownsRow W.heap.size 3 1 x X.2.1.length (X.2.1.map (Value.int .i64))):=hox;have HD2:=(show Hid _ from hd2)
   have HB2:Hid (w2.heap[w.heap.size+1]? = some (.cells #[.int .i64 0,.slice none 0 0,.slice none 0 0] 29)):=by
    have h1:=(HBW.out.block _ lr).trans HB1.out;exact (htf.block _ _ _ _ h1 (by unfold TNo;decide)).trans h1
   have HBL2:Hid (Below w.heap.size w w2):=by
    have hfr:=hd2.fr;have h1:=HBL.out.trans (HBW.out.mono HBL.out.size);refine⟨hfr.os.trans h1.os,hfr.tape.trans h1.tape,hfr.output.trans h1.output,Nat.le_trans h1.size hfr.size,fun k hk=>(hfr.block k (Nat.lt_of_lt_of_le hk h1.size) (by unfold XS;have:=HBL.out.size;omega)).trans (h1.block k hk)⟩
   have HWS:Hid (w.heap.size≤W.heap.size):=Nat.le_trans HBL.out.size HBW.out.size;obtain⟨s0,s1,s2,s3,s4,s5,s6⟩:=hd2.cells;obtain⟨apr,cpr,rfl⟩:=zAB hd2.prf.1;obtain⟨ax,cx,rfl⟩:=zAB hox;have hsq:w.heap.size+1<w2.heap.size:=(Array.getElem?_eq_some_iff.1 HB2.out).1;clear hox htf hd2 hX r0 r1 r2 z0 z1 z2 g0 g1 g2 g3 hf0 hf1;have r0:=blk9 HB2.out 0 _ rfl;have r1:=blk9 HB2.out 1 _ rfl;have r2:=blk9 HB2.out 2 _ rfl;have z0:=frz9 HB2.out 0;have z1:=frz9 HB2.out 1;have z2:=frz9 HB2.out 2;obtain⟨x1,x2,x3⟩:=X;simp only at HO2 HD2 s3 HR2;by_cases hv:x1=2
   ·have hR:=HR2.out
    rw[if_pos hv] at hR;subst hv;have HN:Hid ((⟨2,[],x3.proof⟩,0)=R):=hR;have HQ:Hid (AnsQ w.heap.size (((w2.setCell ⟨w.heap.size+1,0,none⟩ (.int .i64 2)).setCell ⟨w.heap.size+1,1,none⟩ (.slice none 0 0)).setCell ⟨w.heap.size+1,2,none⟩ (.slice apr L'.length cpr)) (.slice none 0 0) (.slice apr L'.length cpr) ⟨2,[],x3.proof⟩) :=
     AnsQ.set3 (w:=w2) ⟨World.ownsRow_nil _ _ _ _,L',HD2.out.prf.mono HWS.out,HD2.out.prfE⟩ HB2.out _ _ _
    have HBE:Hid (Below w.heap.size w (((w2.setCell ⟨w.heap.size+1,0,none⟩ (.int .i64 2)).setCell ⟨w.heap.size+1,1,none⟩ (.slice none 0 0)).setCell ⟨w.heap.size+1,2,none⟩ (.slice apr L'.length cpr))):=((HBL2.out.setCell (by simp only;omega) _).setCell (by simp only;omega) _).setCell (by simp only;omega) _
    clear hR HR2 HO2;go_wp2
    refine bodyPost_ret (by simp[results,Tryz.results32,go_sem, *];try rfl) rfl ?_
    rw[←HN.out];exact⟨_,_,rfl,HQ.out,HBE.out⟩
   ·have hR:=HR2.out
    rw[if_neg hv] at hR;have hv':(x1==2)=false:=by simpa using hv
    have HN:Hid ((⟨x1,x2,[]⟩,0)=R):=hR;have HQ:Hid (AnsQ w.heap.size (((w2.setCell ⟨w.heap.size+1,0,none⟩ (.int .i64 x1)).setCell ⟨w.heap.size+1,1,none⟩ (.slice ax x2.length cx)).setCell ⟨w.heap.size+1,2,none⟩ (.slice none 0 0)) (.slice ax x2.length cx) (.slice none 0 0) ⟨x1,x2,[]⟩) :=
     AnsQ.set3 (w:=w2) ⟨World.ownsRow.mono HO2.out HWS.out,[],⟨World.ownsRow_nil _ _ _ _,fun x hx=>by cases hx⟩,rfl⟩ HB2.out _ _ _
    have HBE:Hid (Below w.heap.size w (((w2.setCell ⟨w.heap.size+1,0,none⟩ (.int .i64 x1)).setCell ⟨w.heap.size+1,1,none⟩ (.slice ax x2.length cx)).setCell ⟨w.heap.size+1,2,none⟩ (.slice none 0 0))):=((HBL2.out.setCell (by simp only;omega) _).setCell (by simp only;omega) _).setCell (by simp only;omega) _
    clear hR HR2 HO2;go_wp2
    refine bodyPost_ret (by simp[results,Tryz.results32,go_sem, *];try rfl) rfl ?_
    rw[←HN.out];exact⟨_,_,rfl,HQ.out,HBE.out⟩
 ·have hR:=HR.out
  rw[if_neg he] at hR;have HN:Hid ((zIV,er)=R):=hR;have he':(er != 0)=true:=by simpa using he
  have HQ:Hid (AnsQ w.heap.size (((w1.setCell ⟨w.heap.size+1,0,none⟩ (.int .i64 0)).setCell ⟨w.heap.size+1,1,none⟩ (.slice none 0 0)).setCell ⟨w.heap.size+1,2,none⟩ (.slice none 0 0)) (.slice none 0 0) (.slice none 0 0) zIV):=zG0 _ _ _;have HBE:Hid (Below w.heap.size w (((w1.setCell ⟨w.heap.size+1,0,none⟩ (.int .i64 0)).setCell ⟨w.heap.size+1,1,none⟩ (.slice none 0 0)).setCell ⟨w.heap.size+1,2,none⟩ (.slice none 0 0))):=((HBL.out.setCell (by simp only;omega) _).setCell (by simp only;omega) _).setCell (by simp only;omega) _
  clear hR HR;go_wp2
  refine bodyPost_ret (by simp[results,Tryz.results32,go_sem, *];try rfl) rfl ?_
  rw[←HN.out];exact⟨_,_,rfl,HQ.out,HBE.out⟩
def zA1 (m:Mod) (vals:List Int):Cla :=
 if m.goal=1 then [⟨m.var,1,zAZ vals m.var - 1⟩] else if m.goal=2 then [⟨m.var,2,zAZ vals m.var+1⟩] else []
def zBg (m:Mod) (vals:List Int):Cla×Int :=
 if zAF m=0 then
  (if vals.length=m.vars.length then
    (if m.goal≠0∧(zAZ vals m.var<(zAK m.vars m.var.toNat).lo∨(zAK m.vars m.var.toNat).hi<zAZ vals m.var) then ([],3) else (zA1 m vals,0))
   else ([],1))
 else ([],zAF m)
theorem zN1 (w:World) (l:MLit):LOwn w.heap.size (w.alloc (.cells #[.int .i64 l.var,.int .i64 l.op,.int .i64 l.n] 88)) (.slice (some ⟨w.heap.size,0,none⟩) 1 1) [l] :=
 ⟨rfl,.inr ⟨w.heap.size,1,_,rfl,Nat.le_refl _,heap_alloc_new _ _,Nat.le_refl _,by decide,rfl,rfl⟩⟩
theorem zJv (m:Mod) (vals:List Int) (hk:0≤m.var∧m.var<(vals.length:Int)) (hb:-1000≤zAZ vals m.var∧zAZ vals m.var≤1000) (vs cs v:Value) (w:World) (hv:IArg w v vals) :
 Calls Tryz.prog 89 #[modV vs cs m,v] w fun e w'=>∃x,e=.returned x∧LOwn w.heap.size w' x (zA1 m vals)∧Below w.heap.size w w':=by
 obtain⟨mv,mc,mg,mk⟩:=m;unfold zA1 modV;simp only at hk hb ⊢;obtain⟨k,rfl⟩:∃k:Nat,mk=(k:Int):=⟨mk.toNat,by omega⟩
 have hkl:k<vals.length:=by omega
 obtain⟨z,hz⟩:∃z,vals[k]? = some z:=⟨vals[k],by rw[List.getElem?_eq_getElem hkl]⟩
 have hvz:zAZ vals (k:Int)=z:=by unfold zAZ;rw[Int.toNat_natCast,List.getD_eq_getElem?_getD,hz];rfl
 rw[hvz] at hb ⊢;obtain⟨a,c,rfl,hm,hr⟩:=hv;obtain⟨b,off,ha,hbl,hc⟩:=hr k z hz;subst ha;have hkl2:(k:Int)<(vals.length:Int):=by omega
 clear hr hz hvz hk;by_cases h1:mg=1
 ·subst h1
  rw[if_pos rfl];have hwr:IntKind.i64.wrap (z - 1)=z - 1:=by rw[IntKind.wrap_i64];omega
  go_enter Tryz.func89,Tryz.ntmps89
  go_wp2_with fail
  have hbY:Below w.heap.size w (w.alloc (.cells #[vs,cs,.int .i64 1,.int .i64 (k:Int)] 25)):=zAA _ _;obtain⟨Y,hY⟩:∃Y,w.alloc (.cells #[vs,cs,.int .i64 1,.int .i64 (k:Int)] 25)=Y:=⟨_,rfl⟩;have d3:Y.cell? ⟨w.heap.size,3,none⟩=some (.int .i64 (k:Int)):=by rw[←hY];simp
  have dl:w.heap.size<Y.heap.size:=by rw[←hY];simp
  rw[hY] at hbY ⊢;have dc:Y.cell? ⟨b,off+k,none⟩=some (.int .i64 z):=(hbY.cell (p:=⟨b,off+k,none⟩) hbl).trans hc;have dbl:b<Y.heap.size:=by have:=hbY.size;omega
  have HBY:Hid (Below w.heap.size w Y):=hbY;have HLO:Hid (LOwn Y.drew.heap.size (Y.drew.alloc (.cells #[.int .i64 (k:Int),.int .i64 1,.int .i64 (z - 1)] 88)) (.slice (some ⟨Y.drew.heap.size,0,none⟩) 1 1) [⟨(k:Int),1,z - 1⟩]):=zN1 Y.drew ⟨(k:Int),1,z - 1⟩;have hsz:=hbY.size;clear hY hbY hc hbl;go_region_law (fail)
  all_goals
   go_wp2
   go_ret
   exact⟨_,rfl,zBS hsz HLO.out,HBY.out.drew.alloc hsz _⟩
 ·by_cases h2:mg=2
  ·subst h2
   rw[if_neg (by decide),if_pos rfl]
   have hwr:IntKind.i64.wrap (z+1)=z+1:=by rw[IntKind.wrap_i64];omega
   clear h1;go_enter Tryz.func89,Tryz.ntmps89
   go_wp2_with fail
   have hbY:Below w.heap.size w (w.alloc (.cells #[vs,cs,.int .i64 2,.int .i64 (k:Int)] 25)):=zAA _ _;obtain⟨Y,hY⟩:∃Y,w.alloc (.cells #[vs,cs,.int .i64 2,.int .i64 (k:Int)] 25)=Y:=⟨_,rfl⟩;have d3:Y.cell? ⟨w.heap.size,3,none⟩=some (.int .i64 (k:Int)):=by rw[←hY];simp
   have dl:w.heap.size<Y.heap.size:=by rw[←hY];simp
   rw[hY] at hbY ⊢;have dc:Y.cell? ⟨b,off+k,none⟩=some (.int .i64 z):=(hbY.cell (p:=⟨b,off+k,none⟩) hbl).trans hc;have dbl:b<Y.heap.size:=by have:=hbY.size;omega
   have HBY:Hid (Below w.heap.size w Y):=hbY;have HLO:Hid (LOwn Y.drew.heap.size (Y.drew.alloc (.cells #[.int .i64 (k:Int),.int .i64 2,.int .i64 (z+1)] 88)) (.slice (some ⟨Y.drew.heap.size,0,none⟩) 1 1) [⟨(k:Int),2,z+1⟩]):=zN1 Y.drew ⟨(k:Int),2,z+1⟩;have hsz:=hbY.size;clear hY hbY hc hbl;go_region_law (fail)
   all_goals
    go_wp2
    go_ret
    exact⟨_,rfl,zBS hsz HLO.out,HBY.out.drew.alloc hsz _⟩
  ·rw[if_neg h1,if_neg h2]
   have h1':(mg==1)=false:=by simpa using h1
   have h2':(mg==2)=false:=by simpa using h2
   clear h1 h2;go_enter Tryz.func89,Tryz.ntmps89
   go_wp2
   go_ret
   exact⟨_,rfl,World.ownsRow_nil _ _ _ _,zAA _ _⟩
theorem zDa (m:Mod) (hm:zAF m=0):0≤m.var∧m.var<(m.vars.length:Int)∧(m.goal=0∨m.goal=1∨m.goal=2):=by
 obtain⟨h1,_,_,_,_,h6⟩:=zA9 m hm;unfold zHa at h6
 split at h6
 ·rename_i hg
  split at h6
  ·rename_i hv
   exact⟨by omega,by omega,Or.inl hg⟩
  ·cases h6
 ·split at h6
  ·rename_i hg
   split at h6
   ·rename_i hv
    unfold zBA at hv;simp only[Bool.and_eq_true,decide_eq_true_eq] at hv;exact⟨hv.1,hv.2,Or.inr hg⟩
   ·cases h6
  ·cases h6
theorem zM1 (k:Nat) (vs cs v:Value) (w:World) :
 Calls Tryz.prog 89 #[.agg #[vs,cs,.int .i64 0,.int .i64 (k:Int)],v] w fun e w'=>∃x,e=.returned x∧LOwn w.heap.size w' x []∧Below w.heap.size w w':=by
 go_enter Tryz.func89,Tryz.ntmps89
 go_wp2
 go_ret
 exact⟨_,rfl,World.ownsRow_nil _ _ _ _,zAA _ _⟩
theorem zIW (m:Mod) (vals:List Int) (vs cs v:Value) (w:World) (hma:MArg w vs cs m) (hv:IArg w v vals) :
 Calls Tryz.prog 46 #[modV vs cs m,v] w fun e w'=>∃x,e=.returned (.tuple #[x,.int .i64 (zBg m vals).2])∧LOwn w.heap.size w' x (zBg m vals).1∧Below w.heap.size w w':=by
 have HMA:Hid (∀w',Below w.heap.size w w'→MArg w' vs cs m):=fun w' h=>MArg.below h hma
 have HIV:Hid (∀w',Below w.heap.size w w'→IArg w' v vals):=fun w' h=>IArg.below h hv
 obtain⟨⟨a1,c1,rfl,_,hvr⟩,⟨a2,c2,rfl,_,_⟩⟩:=hma;have HV:Hid (∀(i:Nat) (t:MVar),m.vars[i]? = some t→t.name.size≤maxLen∧∃b off,a1=some ⟨b,off,none⟩∧b<w.heap.size ∧
  w.cell? ⟨b,off+i * 3,none⟩=some (.string t.name)∧w.cell? ⟨b,off+i * 3+1,none⟩=some (.int .i64 t.lo)∧w.cell? ⟨b,off+i * 3+2,none⟩=some (.int .i64 t.hi)):=hvr
 obtain⟨a3,c3,rfl,_,hir⟩:=hv;have HI:Hid (∀(i:Nat) (z:Int),vals[i]? = some z→∃b off,a3=some ⟨b,off,none⟩∧b<w.heap.size∧w.cell? ⟨b,off+i,none⟩=some (.int .i64 z)):=hir;obtain⟨R,hR⟩:∃R,zBg m vals=R:=⟨_,rfl⟩;rw[hR];obtain⟨er,her⟩:∃er,zAF m=er:=⟨_,rfl⟩;have HER:Hid (zAF m=er):=her;unfold zBg at hR;rw[her] at hR;have HR:=(show Hid _ from hR)
 clear hR her hvr hir;have HBT:Hid (∀(Y:World),Below w.heap.size w Y→0≤m.var∧m.var<(vals.length:Int)→-1000≤zAZ vals m.var∧zAZ vals m.var≤1000→Calls Tryz.prog 89 #[.agg #[.slice a1 m.vars.length c1,.slice a2 m.cons.length c2,.int .i64 m.goal,.int .i64 m.var],.slice a3 vals.length c3] Y fun e w'=>∃x,e=.returned x∧LOwn Y.heap.size w' x (zA1 m vals)∧Below Y.heap.size Y w'):=fun Y hY h1 h2 =>
  zJv m vals h1 h2 (.slice a1 m.vars.length c1) (.slice a2 m.cons.length c2) _ Y (HIV.out _ hY)
 unfold modV;go_enter Tryz.func46,Tryz.ntmps46
 go_wp2_with fail
 have hbY:Below w.heap.size w (w.alloc (.cells #[.slice a1 m.vars.length c1,.slice a2 m.cons.length c2,.int .i64 m.goal,.int .i64 m.var] 25)):=zAA _ _;refine (zCD m (.slice a1 m.vars.length c1) (.slice a2 m.cons.length c2) _ (HMA.out _ hbY)).mono ?_;rintro e w1 ⟨rfl,hb1⟩;rw[HER.out];have HA1:Hid (w1.heap[w.heap.size]? = some (.cells #[.slice a1 m.vars.length c1,.slice a2 m.cons.length c2,.int .i64 m.goal,.int .i64 m.var] 25)):=(hb1.block _ (by simp)).trans (heap_alloc_new _ _)
 have HBL:Hid (Below w.heap.size w w1):=hbY.trans (hb1.mono (by simp))
 have lq:w.heap.size<w1.heap.size:=by have:=hb1.size;simp at this;omega
 clear hb1 hbY;have g0:=blk9 HA1.out 0 _ rfl;have g1:=blk9 HA1.out 1 _ rfl;have g2:=blk9 HA1.out 2 _ rfl;have g3:=blk9 HA1.out 3 _ rfl;have hsz:=HBL.out.size;by_cases he:er=0
 ·subst he
  have hR:=HR.out;rw[if_pos rfl] at hR;obtain⟨q1,q2,q3⟩:=zDa m HER.out;by_cases hl:vals.length=m.vars.length
  ·rw[if_pos hl] at hR
   have HL:Hid (vals.length=m.vars.length):=hl;obtain⟨k,hk⟩:∃k:Nat,m.var=(k:Int):=⟨m.var.toNat,by omega⟩
   have hkn:k<m.vars.length:=by omega
   obtain⟨t,ht⟩:∃t,m.vars[k]? = some t:=⟨m.vars[k],by rw[List.getElem?_eq_getElem hkn]⟩
   obtain⟨_,b,off,ha,hbl,c0,c1',c2'⟩:=HV.out k t ht;obtain⟨z,hz⟩:∃z,vals[k]? = some z:=⟨vals[k]'(by omega),by rw[List.getElem?_eq_getElem (by omega)]⟩
   obtain⟨b3,off3,ha3,hbl3,cz⟩:=HI.out k z hz;subst ha ha3;have hta:=zKv m HER.out k t ht;have hvt:zAK m.vars k=t:=by unfold zAK;rw[List.getD_eq_getElem?_getD,ht];rfl
   have hvz:zAZ vals m.var=z:=by unfold zAZ;rw[hk,Int.toNat_natCast,List.getD_eq_getElem?_getD,hz];rfl
   rw[hvz,hk,Int.toNat_natCast,hvt] at hR;have HVZ:Hid (zAZ vals m.var=z):=hvz;have HMV:Hid (0≤m.var∧m.var<(vals.length:Int)):=⟨q1,by omega⟩
   have e0:=(HBL.out.cell (p:=⟨b,off+k * 3,none⟩) hbl).trans c0;have e1:=(HBL.out.cell (p:=⟨b,off+k * 3+1,none⟩) hbl).trans c1';have e2:=(HBL.out.cell (p:=⟨b,off+k * 3+2,none⟩) hbl).trans c2';have e3:=(HBL.out.cell (p:=⟨b3,off3+k,none⟩) hbl3).trans cz;have lb:b<w1.heap.size:=by omega
   have lb3:b3<w1.heap.size:=by omega
   have hkn':(k:Int)<(m.vars.length:Int):=by omega
   have hkz:k<vals.length:=by omega
   have hkz':(k:Int)<(vals.length:Int):=by omega
   rw[hk] at g3 HBT;have hq:((vals.length:Int) != (m.vars.length:Int))=false:=by rw[hl];simp
   have hlt2:-50≤t.lo∧t.hi≤50:=by omega
   have HB2:Hid (∀o:Obj,Below w.heap.size w (w1.alloc o)):=fun o=>HBL.out.alloc HBL.out.size o
   obtain⟨tn,tl,th⟩:=t;simp only at e0 e1 e2 hR hlt2 hta;have HR2:=(show Hid _ from hR)
   have HVB:Hid (zAZ vals m.var=z):=HVZ.out;by_cases hg:m.goal=0
   ·have hR2:=HR2.out
    rw[if_neg (fun h=>h.1 hg)] at hR2
    have HN:Hid ((zA1 m vals,0)=R):=hR2;have hbc:zA1 m vals=[]:=by unfold zA1;rw[hg];rfl
    rw[hg] at g2;have hgb:(m.goal != 0)=false:=by rw[hg];rfl
    clear hR hR2 HR2 HR hl hta hvt hvz q1 q2 q3 c0 c1' c2' cz ht hz hbl hbl3;have HBT2:Hid (∀(Y:World),Calls Tryz.prog 89 #[.agg #[.slice (some ⟨b,off,none⟩) m.vars.length c1,.slice a2 m.cons.length c2,.int .i64 0,.int .i64 (k:Int)],.slice (some ⟨b3,off3,none⟩) vals.length c3] Y fun e w'=>∃x,e=.returned x∧LOwn Y.heap.size w' x []∧Below Y.heap.size Y w'):=fun Y=>zM1 k _ _ _ Y
    clear hg hgb;go_wp2_with fail
    go_quiet (fail)
    go_wp2_with fail
    refine (HBT2.out _).mono ?_;rintro e w2 ⟨x,rfl,hx,hb2⟩;have hBE:=below_drewN (HB2.out (.cells #[.string tn,.int .i64 tl,.int .i64 th] 71)) nq;have HBE:Hid (Below w.heap.size w w2):=hBE.trans (hb2.mono hBE.size);have HX:Hid (LOwn w.heap.size w2 x []):=zBS hBE.size hx;clear hBE hx hb2;go_wp2
    go_ret2
    rw[←HN.out,hbc];exact⟨_,rfl,HX.out,HBE.out⟩
   ·have hgb:(m.goal != 0)=true:=by simpa using hg
    by_cases h1:z<tl
    ·have hR2:=HR2.out
     rw[if_pos ⟨hg,Or.inl h1⟩] at hR2;have HN:Hid (([],3)=R):=hR2;clear hR hR2 HR2 HR hl hta hvt hvz q1 q2 q3 c0 c1' c2' cz ht hz hbl hbl3 hg;go_wp2_with fail
     go_quiet (fail)
     go_wp2
     go_ret2
     rw[←HN.out];exact⟨_,rfl,World.ownsRow_nil _ _ _ _,below_drewN (HB2.out _) _⟩
    ·by_cases h2:th<z
     ·have hR2:=HR2.out
      rw[if_pos ⟨hg,Or.inr h2⟩] at hR2;have HN:Hid (([],3)=R):=hR2;clear hR hR2 HR2 HR hl hta hvt hvz q1 q2 q3 c0 c1' c2' cz ht hz hbl hbl3 hg;go_wp2_with fail
      go_quiet (fail)
      go_wp2
      go_ret2
      rw[←HN.out];exact⟨_,rfl,World.ownsRow_nil _ _ _ _,below_drewN (HB2.out _) _⟩
     ·have hR2:=HR2.out
      rw[if_neg (fun h=>by rcases h.2 with h | h <;> omega)] at hR2
      have HN:Hid ((zA1 m vals,0)=R):=hR2;have HZ:Hid (-1000≤zAZ vals m.var∧zAZ vals m.var≤1000):=by rw[HVB.out];show _∧_;omega
      rw[hk] at HMV HZ;clear hR hR2 HR2 HR hl hta hvt hvz q1 q2 q3 c0 c1' c2' cz ht hz hbl hbl3 hg;go_wp2_with fail
      go_quiet (fail)
      go_wp2_with fail
      have hBE:=below_drewN (HB2.out (.cells #[.string tn,.int .i64 tl,.int .i64 th] 71)) nq;refine (HBT.out _ hBE HMV.out HZ.out).mono ?_;rintro e w2 ⟨x,rfl,hx,hb2⟩;have HBE:Hid (Below w.heap.size w w2):=hBE.trans (hb2.mono hBE.size);have HX:Hid (LOwn w.heap.size w2 x (zA1 m vals)):=zBS hBE.size hx;clear hBE hx hb2;go_wp2
      go_ret2
      rw[←HN.out];exact⟨_,rfl,HX.out,HBE.out⟩
  ·rw[if_neg hl] at hR
   have HN:Hid (([],1)=R):=hR;have hl':((vals.length:Int) != (m.vars.length:Int))=true:=by simpa using (fun h:(vals.length:Int)=(m.vars.length:Int)=>hl (by omega))
   clear hR HR hl q1 q2 q3;go_wp2
   go_ret2
   rw[←HN.out];exact⟨_,rfl,World.ownsRow_nil _ _ _ _,HBL.out⟩
 ·have hR:=HR.out
  rw[if_neg he] at hR;have HN:Hid (([],er)=R):=hR;have he':(er != 0)=true:=by simpa using he
  clear hR HR he;go_wp2
  go_ret2
  rw[←HN.out];exact⟨_,rfl,World.ownsRow_nil _ _ _ _,HBL.out⟩
end Go.Proofs.YtdjbejlbmaiocagGreatDoor
