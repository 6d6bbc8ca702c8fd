/- What the proof leans on, part 45. -/
import Derived.Test.YtdjbejlbmaiocafGreatDoorPartBk
import Derived.Test.YtdjbejlbmaiocafGreatDoorPartBr
import Derived.Test.YtdjbejlbmaiocafGreatDoorPartBn
namespace Go.Proofs.YtdjbejlbmaiocafGreatDoor
open Go.RowKit Go.Maps
theorem zHk {w w1 W:World} {s r mb:Nat} {sv pv:Value} {vs:List MVar} {pt:List (List Nat)} {fuel:Nat} (hv:VArg w sv vs) (hT:TabT w) (hb1:Below w.heap.size w w1) (hr:w.heap.size≤r) (hm:w.heap.size≤mb) (hs:w1.heap.size≤s) (hmr:mb<r∨w1.heap.size≤mb)
 (hp:PRow (r+1) w1 pv pt) (hl:∀pts∈pt,∀z∈pts,z<2 ^ 36) (hbW:Below w1.heap.size w1 W)
 (hR:W.heap[r]? = some (.cells #[sv,pv,.slice none 0 0] 203)) (hS:W.heap[s]? = some (.cells #[sv,.pointer (some ⟨r,0,none⟩),.int .i64 (fuel:Int),.slice none 0 0,.map (some mb),.slice none 0 0] 93))
 (hM:W.ownsMap Tryz.prog 152 (unitElem (H:=Unit)) mb 0 (setU [])):SkB W s r mb sv pv vs pt∧SkD W W s r mb sv pv (.slice none 0 0) (.slice none 0 0) (.slice none 0 0) [] [] ⟨[],fuel,[],[]⟩:=by
 refine⟨⟨(Array.getElem?_eq_some_iff.1 hR).1,(Array.getElem?_eq_some_iff.1 hS).1,hM.lt,fun w' hf=>?_⟩,⟨hR,hS,World.ownsRow_nil _ _ _ _,(fun z hz=>by cases hz),⟨World.ownsRow_nil _ _ _ _,(fun x hx=>by cases hx)⟩,rfl,hM,World.ownsRow_nil _ _ _ _,(fun x hx=>by cases hx),Fr.refl _ _⟩⟩
 have hb2:Below w.heap.size w w':=⟨hf.os.trans (hbW.os.trans hb1.os),hf.tape.trans (hbW.tape.trans hb1.tape),hf.output.trans (hbW.output.trans hb1.output),Nat.le_trans (Nat.le_trans hb1.size hbW.size) hf.size,fun k hk=>by
  have h1:=hb1.size
  have h2:=hbW.size
  exact (hf.block k (by omega) (by unfold XS;omega)).trans ((hbW.block k (by omega)).trans (hb1.block k hk))⟩
 refine⟨VArg.below hb2 hv,?_,hT.below hb2⟩
 have hf1:Fr (fun k=>k=r∨k=mb∧mb<r) w1 w':=⟨hf.os.trans hbW.os,hf.tape.trans hbW.tape,hf.output.trans hbW.output,Nat.le_trans hbW.size hf.size,fun k hk hn=>by
  have h2:=hbW.size
  exact (hf.block k (by omega) (by unfold XS;omega)).trans (hbW.block k hk)⟩
 exact (hp.fr hf1 (fun g hg=>by omega)).arg hl
def NewQ (m:Mod) (vs:Value) (fuel:Nat) (w W:World) (s:Nat):Prop:=∃r mb pv,SkB W s r mb vs pv m.vars (ptsM m)∧SkD W W s r mb vs pv (.slice none 0 0) (.slice none 0 0) (.slice none 0 0) [] [] ⟨[],fuel,[],[]⟩∧Below w.heap.size w W∧w.heap.size≤r∧w.heap.size≤s∧w.heap.size≤mb
set_option maxHeartbeats 3200000 in
set_option maxRecDepth 100000 in
theorem zLV (m:Mod) (hm:zAI m=0) (fuel:Nat) (vs cs:Value) (w:World) (hma:MArg w vs cs m) (hT:TabT w) :
 Calls Tryz.prog 57 #[modV vs cs m,.int .i64 (fuel:Int)] w fun e W=>∃s,e=.returned (.pointer (some ⟨s,0,none⟩))∧NewQ m vs fuel w W s:=by
 have HMA:Hid (∀w',Below w.heap.size w w'→MArg w' vs cs m):=fun w' h=>MArg.below h hma
 have HT:Hid (∀w',Below w.heap.size w w'→TabT w'):=fun w' h=>hT.below h
 have HLT:Hid (∀pts∈ptsM m,∀z∈pts,z<2 ^ 36):=zJk m hm
 have HOF:Hid (∀Z,Below w.heap.size w Z→Calls Tryz.prog 111 #[modV vs cs m] Z fun e w'=>∃r pv,e=.returned (.pointer (some ⟨r,0,none⟩))∧w'.heap[r]? = some (.cells #[vs,pv,.slice none 0 0] 203)∧Z.heap.size≤r∧Below Z.heap.size Z w'∧PRow (r+1) w' pv (ptsM m)):=fun Z hZ =>
  (zJl m hm vs cs Z (HMA.out _ hZ) (HT.out _ hZ)).mono (by rintro e w' ⟨r,pv,h1,_,h3,h4,h5,h6⟩;exact⟨r,pv,h1,h3.blk,h4,h5,h6⟩)
 have HV:Hid (VArg w vs m.vars):=hma.1
 obtain⟨⟨a1,c1,rfl,_,_⟩,⟨a2,c2,rfl,_,_⟩⟩:=hma
 unfold modV at *
 have hmm:=@run_makeMap Tryz.prog
 clear hm hT
 go_enter Tryz.func57,Tryz.ntmps57
 go_wp2_with fail
 have hbY:Below w.heap.size w (w.alloc (.cells #[.slice a1 m.vars.length c1,.slice a2 m.cons.length c2,.int .i64 m.goal,.int .i64 m.var] 25)):=zAA _ _
 obtain⟨Y,hY⟩:∃Y,w.alloc (.cells #[.slice a1 m.vars.length c1,.slice a2 m.cons.length c2,.int .i64 m.goal,.int .i64 m.var] 25)=Y:=⟨_,rfl⟩
 have d0:Y.cell? ⟨w.heap.size,0,none⟩=some (.slice a1 m.vars.length c1):=by rw[←hY];simp
 have d1:Y.cell? ⟨w.heap.size,1,none⟩=some (.slice a2 m.cons.length c2):=by rw[←hY];simp
 have d2:Y.cell? ⟨w.heap.size,2,none⟩=some (.int .i64 m.goal):=by rw[←hY];simp
 have d3:Y.cell? ⟨w.heap.size,3,none⟩=some (.int .i64 m.var):=by rw[←hY];simp
 have dl:w.heap.size<Y.heap.size:=by rw[←hY];simp
 rw[hY] at hbY ⊢
 have HBY:Hid (Below w.heap.size w Y):=hbY
 clear hY hbY
 go_region_law
  (first
    | (rw[if_pos (by rfl)];go_simp;go_at_call 111;refine (HOF.out _ HBY.out.drew).mono ?_;rintro e w3 ⟨r,pv,rfl,hr3,hrr,hb3,hp3⟩;have hB3:Below Y.heap.size Y w3:=(Below.refl _ _).drew.trans hb3;have d0':=(hB3.cell (p:=⟨w.heap.size,0,none⟩) dl).trans d0;have dl':w.heap.size<w3.heap.size:=Nat.lt_of_lt_of_le dl hB3.size;dsimp only)
    | (rw[if_pos (by rfl)];go_simp;go_at_call 111;refine (HOF.out _ (HBY.out.drew.alloc HBY.out.size _)).mono ?_;rintro e w3 ⟨r,pv,rfl,hr3,hrr,hb3,hp3⟩;have hB4:Below Y.heap.size Y w3:=((Below.refl _ _).drew.alloc (Nat.le_refl _) _).trans (hb3.mono (by simp));have d0':=(hB4.cell (p:=⟨w.heap.size,0,none⟩) dl).trans d0;have dl':w.heap.size<w3.heap.size:=Nat.lt_of_lt_of_le dl hB4.size;dsimp only))
 all_goals
  first
   | (have HQ:Hid (NewQ m (.slice a1 m.vars.length c1) fuel w ((w3.alloc (.map #[] 0)).alloc (.cells #[.slice a1 m.vars.length c1,.pointer (some ⟨r,0,none⟩),.int .i64 (fuel:Int),.slice none 0 0,.map (some w3.heap.size),.slice none 0 0] 93)) (w3.heap.size+1)):=by
       have hbw:Below w.heap.size w w3:=HBY.out.trans (hB3.mono HBY.out.size)
       have hbW:Below w3.heap.size w3 ((w3.alloc (.map #[] 0)).alloc (.cells #[.slice a1 m.vars.length c1,.pointer (some ⟨r,0,none⟩),.int .i64 (fuel:Int),.slice none 0 0,.map (some w3.heap.size),.slice none 0 0] 93)):=(zAA _ _).alloc (by simp) _
       have hsz:=hbw.size
       have hry:Y.heap.size≤r:=hrr
       have hS:=heap_alloc_new (w3.alloc (.map #[] 0)) (.cells #[.slice a1 m.vars.length c1,.pointer (some ⟨r,0,none⟩),.int .i64 (fuel:Int),.slice none 0 0,.map (some w3.heap.size),.slice none 0 0] 93)
       rw[World.size_alloc] at hS
       exact⟨r,w3.heap.size,pv,(zHk HV.out (HT.out _ (Below.refl _ _)) hbw (by omega) (by omega) (by omega) (Or.inr (Nat.le_refl _)) hp3 HLT.out hbW ((hbW.block r (Array.getElem?_eq_some_iff.1 hr3).1).trans hr3) hS ((World.ownsMap_made _ _ _ _).alloc _)).1,(zHk HV.out (HT.out _ (Below.refl _ _)) hbw (by omega) (by omega) (by omega) (Or.inr (Nat.le_refl _)) hp3 HLT.out hbW ((hbW.block r (Array.getElem?_eq_some_iff.1 hr3).1).trans hr3) hS ((World.ownsMap_made _ _ _ _).alloc _)).2,hbw.trans (hbW.mono hsz),by omega,by omega,by omega⟩
      go_wp2
      go_ret
      exact⟨_,rfl,HQ.out⟩)
   | (have HQ:Hid (NewQ m (.slice a1 m.vars.length c1) fuel w (w3.alloc (.cells #[.slice a1 m.vars.length c1,.pointer (some ⟨r,0,none⟩),.int .i64 (fuel:Int),.slice none 0 0,.map (some Y.heap.size),.slice none 0 0] 93)) w3.heap.size):=by
       have hbw:Below w.heap.size w w3:=HBY.out.trans (hB4.mono HBY.out.size)
       have hbW:Below w3.heap.size w3 (w3.alloc (.cells #[.slice a1 m.vars.length c1,.pointer (some ⟨r,0,none⟩),.int .i64 (fuel:Int),.slice none 0 0,.map (some Y.heap.size),.slice none 0 0] 93)):=zAA _ _
       have hsz:=hbw.size
       have hry:Y.heap.size+1≤r:=by simpa using hrr
       have hS:=heap_alloc_new w3 (.cells #[.slice a1 m.vars.length c1,.pointer (some ⟨r,0,none⟩),.int .i64 (fuel:Int),.slice none 0 0,.map (some Y.heap.size),.slice none 0 0] 93)
       have hmd:(Y.drew.alloc (.map #[] 0)).ownsMap Tryz.prog 152 (unitElem (H:=Unit)) Y.heap.size 0 (setU []):=World.ownsMap_made Y.drew _ _ _
       have hM:=(zGT hmd hb3).alloc (.cells #[.slice a1 m.vars.length c1,.pointer (some ⟨r,0,none⟩),.int .i64 (fuel:Int),.slice none 0 0,.map (some Y.heap.size),.slice none 0 0] 93)
       exact⟨r,Y.heap.size,pv,(zHk HV.out (HT.out _ (Below.refl _ _)) hbw (by omega) (by omega) (by omega) (Or.inl (by omega)) hp3 HLT.out hbW ((hbW.block r (Array.getElem?_eq_some_iff.1 hr3).1).trans hr3) hS hM).1,(zHk HV.out (HT.out _ (Below.refl _ _)) hbw (by omega) (by omega) (by omega) (Or.inl (by omega)) hp3 HLT.out hbW ((hbW.block r (Array.getElem?_eq_some_iff.1 hr3).1).trans hr3) hS hM).2,hbw.trans (hbW.mono hsz),by omega,by omega,by omega⟩
      go_wp2
      go_ret
      exact⟨_,rfl,HQ.out⟩)
structure Ans where
 verdict:Int
 values:List Int
 proof:List MStep
def zIY:Ans:=⟨0,[],[]⟩
def zBT (fuel:Int):Sk:=⟨[],fuel.toNat,[],[]⟩
def zBz (m:Mod) (fuel:Int):Int×List Int×Sk:=zA4 m.vars (ptsM m) (zBT fuel)
def zAa (m:Mod) (fuel:Int):Ans×Int :=
 if zAI m=0 then
  (if fuel<0∨300<fuel then (zIY,3)
   else if (zBz m fuel).1=2 then (⟨2,[],(zBz m fuel).2.2.proof⟩,0) else (⟨(zBz m fuel).1,(zBz m fuel).2.1,[]⟩,0))
 else (zIY,zAI m)
structure AnsQ (base:Nat) (w:World) (vv pp:Value) (a:Ans):Prop where
 val:w.ownsRow base 3 1 vv a.values.length (a.values.map (Value.int .i64))
 prf:∃L:List SV,zAt base w pp L∧L.map (·.1)=a.proof
theorem zJm (base:Nat) (w:World) (v:Int):AnsQ base w (.slice none 0 0) (.slice none 0 0) ⟨v,[],[]⟩:=⟨World.ownsRow_nil _ _ _ _,[],⟨World.ownsRow_nil _ _ _ _,fun x hx=>by cases hx⟩,rfl⟩
theorem AnsQ.below {base:Nat} {w w':World} {vv pp:Value} {a:Ans} (h:AnsQ base w vv pp a) (hb:Below w.heap.size w w'):AnsQ base w' vv pp a:=by
 obtain⟨L,h1,h2⟩:=h.prf
 exact⟨zAD h.val hb,L,h1.below hb,h2⟩
theorem AnsQ.set {base:Nat} {w:World} {vv pp:Value} {a:Ans} {C:Nat} {cs:Array Value} (h:AnsQ base w vv pp a) (hC:w.heap[C]? = some (.cells cs 29)) (i:Nat) (u:Value):AnsQ base (w.setCell ⟨C,i,none⟩ u) vv pp a:=by
 obtain⟨L,h1,h2⟩:=h.prf
 exact⟨zB1 h.val hC (by decide) i u,L,h1.set hC (by decide) (by decide) i u,h2⟩
theorem AnsQ.set3 {base:Nat} {w:World} {vv pp:Value} {a:Ans} {C:Nat} {x y z:Value} (h:AnsQ base w vv pp a) (hC:w.heap[C]? = some (.cells #[x,y,z] 29)) (u0 u1 u2:Value):AnsQ base (((w.setCell ⟨C,0,none⟩ u0).setCell ⟨C,1,none⟩ u1).setCell ⟨C,2,none⟩ u2) vv pp a:=by
 have h1:=h.set hC 0 u0
 have e1:(w.setCell ⟨C,0,none⟩ u0).heap[C]? = some (.cells #[u0,y,z] 29):=by rw[heap_setCell_same w C 0 _ _ u0 hC];rfl
 have h2:=h1.set e1 1 u1
 have e2:((w.setCell ⟨C,0,none⟩ u0).setCell ⟨C,1,none⟩ u1).heap[C]? = some (.cells #[u0,u1,z] 29):=by rw[heap_setCell_same _ C 1 _ _ u1 e1];rfl
 exact h2.set e2 2 u2
theorem zIZ (w:World) (a b:Obj):((w.alloc a).alloc b).heap[w.heap.size]? = some a∧((w.alloc a).alloc b).heap[w.heap.size+1]? = some b:=by
 refine⟨(Below.heap_alloc _ _ _ (by simp)).trans (heap_alloc_new w a),?_⟩
 have h:=heap_alloc_new (w.alloc a) b
 rw[World.size_alloc] at h
 exact h
theorem zKt (vs:List MVar) (fuel:Int) (h:fuel≤300):SkO vs (zBT fuel):=⟨by simp[zBT],by simp[zBT];omega,zKK vs⟩
set_option maxHeartbeats 3200000 in
set_option maxRecDepth 100000 in
theorem zDS (m:Mod) (fuel:Int) (vs cs:Value) (w:World) (hma:MArg w vs cs m) (hT:TabT w) :
 Calls Tryz.prog 9 #[modV vs cs m,.int .i64 fuel] w fun e w'=>∃vv pp,e=.returned (.tuple #[.agg #[.int .i64 (zAa m fuel).1.verdict,vv,pp],.int .i64 (zAa m fuel).2])∧AnsQ w.heap.size w' vv pp (zAa m fuel).1∧Below w.heap.size w w':=by
 have HMA:Hid (∀w',Below w.heap.size w w'→MArg w' vs cs m):=fun w' h=>MArg.below h hma
 have HT:Hid (∀w',Below w.heap.size w w'→TabT w'):=fun w' h=>hT.below h
 obtain⟨⟨a1,c1,rfl,_,_⟩,⟨a2,c2,rfl,_,_⟩⟩:=hma
 obtain⟨R,hR⟩:∃R,zAa m fuel=R:=⟨_,rfl⟩
 rw[hR]
 obtain⟨er,her⟩:∃er,zAI m=er:=⟨_,rfl⟩
 have HER:Hid (zAI m=er):=her
 unfold zAa at hR
 rw[her] at hR
 have HR:=(show Hid _ from hR)
 clear hR her hT
 unfold modV
 go_enter Tryz.func9,Tryz.ntmps9
 go_wp2_with fail
 obtain⟨HA,HB⟩:=zIZ w (.cells #[.slice a1 m.vars.length c1,.slice a2 m.cons.length c2,.int .i64 m.goal,.int .i64 m.var] 25) (.cells #[.int .i64 0,.slice none 0 0,.slice none 0 0] 29)
 have hbY:Below w.heap.size w ((w.alloc (.cells #[.slice a1 m.vars.length c1,.slice a2 m.cons.length c2,.int .i64 m.goal,.int .i64 m.var] 25)).alloc (.cells #[.int .i64 0,.slice none 0 0,.slice none 0 0] 29)):=(zAA _ _).alloc (by simp) _
 refine (zCw m (.slice a1 m.vars.length c1) (.slice a2 m.cons.length c2) _ (HMA.out _ hbY)).mono ?_
 rintro e w1 ⟨rfl,hb1⟩
 rw[HER.out]
 have HA1:Hid (w1.heap[w.heap.size]? = some (.cells #[.slice a1 m.vars.length c1,.slice a2 m.cons.length c2,.int .i64 m.goal,.int .i64 m.var] 25)):=(hb1.block _ (by simp;omega)).trans HA
 have HB1:Hid (w1.heap[w.heap.size+1]? = some (.cells #[.int .i64 0,.slice none 0 0,.slice none 0 0] 29)):=(hb1.block _ (by simp)).trans HB
 have HBL:Hid (Below w.heap.size w w1):=hbY.trans (hb1.mono (by simp;omega))
 have hs1:w.heap.size+2≤w1.heap.size:=by simpa using hb1.size
 clear hb1 HA HB hbY
 have g0:=blk9 HA1.out 0 _ rfl
 have g1:=blk9 HA1.out 1 _ rfl
 have g2:=blk9 HA1.out 2 _ rfl
 have g3:=blk9 HA1.out 3 _ rfl
 have r0:=blk9 HB1.out 0 _ rfl
 have r1:=blk9 HB1.out 1 _ rfl
 have r2:=blk9 HB1.out 2 _ rfl
 have z0:=frz9 HB1.out 0
 have z1:=frz9 HB1.out 1
 have z2:=frz9 HB1.out 2
 have lq:w.heap.size<w1.heap.size:=by omega
 have lr:w.heap.size+1<w1.heap.size:=by omega
 by_cases he:er=0
 ·subst he
  have hR:=HR.out
  rw[if_pos rfl] at hR
  by_cases hf:fuel<0∨300<fuel
  ·rw[if_pos hf] at hR
   have HN:Hid ((zIY,(3:Int))=R):=hR
   have HQ:Hid (AnsQ w.heap.size (((w1.setCell ⟨w.heap.size+1,0,none⟩ (.int .i64 0)).setCell ⟨w.heap.size+1,1,none⟩ (.slice none 0 0)).setCell ⟨w.heap.size+1,2,none⟩ (.slice none 0 0)) (.slice none 0 0) (.slice none 0 0) zIY):=zJm _ _ _
   have HBE:Hid (Below w.heap.size w (((w1.setCell ⟨w.heap.size+1,0,none⟩ (.int .i64 0)).setCell ⟨w.heap.size+1,1,none⟩ (.slice none 0 0)).setCell ⟨w.heap.size+1,2,none⟩ (.slice none 0 0))):=((HBL.out.setCell (by simp only;omega) _).setCell (by simp only;omega) _).setCell (by simp only;omega) _
   clear hR HR
   by_cases hf0:fuel<0
   ·clear hf
    go_wp2
    refine bodyPost_ret (by simp[results,Tryz.results9,go_sem, *];try rfl) rfl ?_
    rw[←HN.out]
    exact⟨_,_,rfl,HQ.out,HBE.out⟩
   ·have hf1:300<fuel:=by rcases hf with h | h;exact absurd h hf0;exact h
    clear hf
    go_wp2
    refine bodyPost_ret (by simp[results,Tryz.results9,go_sem, *];try rfl) rfl ?_
    rw[←HN.out]
    exact⟨_,_,rfl,HQ.out,HBE.out⟩
  ·rw[if_neg hf] at hR
   have hf0:¬fuel<0:=fun h=>hf (Or.inl h)
   have hf1:¬300<fuel:=fun h=>hf (Or.inr h)
   obtain⟨fn,rfl⟩:∃fn:Nat,fuel=(fn:Int):=⟨fuel.toNat,by omega⟩
   have HR2:=(show Hid _ from hR)
   clear hR HR hf
   go_wp2_with fail
   refine (zLV m HER.out fn (.slice a1 m.vars.length c1) (.slice a2 m.cons.length c2) w1 (HMA.out _ HBL.out) (HT.out _ HBL.out)).mono ?_
   rintro e W ⟨s,rfl,r,mb,pv,hB,hD,hbW,hr,hs,hmb⟩
   have HSB:Hid (SkB W s r mb (.slice a1 m.vars.length c1) pv m.vars (ptsM m)):=hB
   have HSD:=(show Hid _ from hD)
   have HBW:Hid (Below w1.heap.size w1 W):=hbW
   clear hB hD hbW
   go_wp2_with fail
   refine (zJe m.vars (zFf m HER.out) (zHU m HER.out) (ptsM m) W s r mb _ pv _ _ _ HSB.out [] ⟨[],fn,[],[]⟩ (zKt m.vars (fn:Int) (by omega)) W HSD.out).mono ?_
   rintro e w2 ⟨x,rfl,hox,htf,cv',prv',pav',L',hd2⟩
   obtain⟨X,hX⟩:∃X,zA4 m.vars (ptsM m) ⟨[],fn,[],[]⟩=X:=⟨_,rfl⟩
   rw[hX] at hox hd2 ⊢
   have HXE:Hid (zBz m (fn:Int)=X):=hX
   rw[HXE.out] at HR2
   have HO2:Hid (w2.ownsRow W.heap.size 3 1 x X.2.1.length (X.2.1.map (Value.int .i64))):=hox
   have HD2:=(show Hid _ from hd2)
   have HB2:Hid (w2.heap[w.heap.size+1]? = some (.cells #[.int .i64 0,.slice none 0 0,.slice none 0 0] 29)):=by
    have h1:=(HBW.out.block _ lr).trans HB1.out
    exact (htf.block _ _ _ _ h1 (by unfold TNo;decide)).trans h1
   have HBL2:Hid (Below w.heap.size w w2):=by
    have hfr:=hd2.fr
    have h1:=HBL.out.trans (HBW.out.mono HBL.out.size)
    refine⟨hfr.os.trans h1.os,hfr.tape.trans h1.tape,hfr.output.trans h1.output,Nat.le_trans h1.size hfr.size,fun k hk=>(hfr.block k (Nat.lt_of_lt_of_le hk h1.size) (by unfold XS;have:=HBL.out.size;omega)).trans (h1.block k hk)⟩
   have HWS:Hid (w.heap.size≤W.heap.size):=Nat.le_trans HBL.out.size HBW.out.size
   obtain⟨s0,s1,s2,s3,s4,s5,s6⟩:=hd2.cells
   obtain⟨apr,cpr,rfl⟩:=zAC hd2.prf.1
   obtain⟨ax,cx,rfl⟩:=zAC hox
   have hsq:w.heap.size+1<w2.heap.size:=(Array.getElem?_eq_some_iff.1 HB2.out).1
   clear hox htf hd2 hX r0 r1 r2 z0 z1 z2 g0 g1 g2 g3 hf0 hf1
   have r0:=blk9 HB2.out 0 _ rfl
   have r1:=blk9 HB2.out 1 _ rfl
   have r2:=blk9 HB2.out 2 _ rfl
   have z0:=frz9 HB2.out 0
   have z1:=frz9 HB2.out 1
   have z2:=frz9 HB2.out 2
   obtain⟨x1,x2,x3⟩:=X
   simp only at HO2 HD2 s3 HR2
   by_cases hv:x1=2
   ·have hR:=HR2.out
    rw[if_pos hv] at hR
    subst hv
    have HN:Hid ((⟨2,[],x3.proof⟩,0)=R):=hR
    have HQ:Hid (AnsQ w.heap.size (((w2.setCell ⟨w.heap.size+1,0,none⟩ (.int .i64 2)).setCell ⟨w.heap.size+1,1,none⟩ (.slice none 0 0)).setCell ⟨w.heap.size+1,2,none⟩ (.slice apr L'.length cpr)) (.slice none 0 0) (.slice apr L'.length cpr) ⟨2,[],x3.proof⟩) :=
     AnsQ.set3 (w:=w2) ⟨World.ownsRow_nil _ _ _ _,L',HD2.out.prf.mono HWS.out,HD2.out.prfE⟩ HB2.out _ _ _
    have HBE:Hid (Below w.heap.size w (((w2.setCell ⟨w.heap.size+1,0,none⟩ (.int .i64 2)).setCell ⟨w.heap.size+1,1,none⟩ (.slice none 0 0)).setCell ⟨w.heap.size+1,2,none⟩ (.slice apr L'.length cpr))):=((HBL2.out.setCell (by simp only;omega) _).setCell (by simp only;omega) _).setCell (by simp only;omega) _
    clear hR HR2 HO2
    go_wp2
    refine bodyPost_ret (by simp[results,Tryz.results9,go_sem, *];try rfl) rfl ?_
    rw[←HN.out]
    exact⟨_,_,rfl,HQ.out,HBE.out⟩
   ·have hR:=HR2.out
    rw[if_neg hv] at hR
    have hv':(x1==2)=false:=by simpa using hv
    have HN:Hid ((⟨x1,x2,[]⟩,0)=R):=hR
    have HQ:Hid (AnsQ w.heap.size (((w2.setCell ⟨w.heap.size+1,0,none⟩ (.int .i64 x1)).setCell ⟨w.heap.size+1,1,none⟩ (.slice ax x2.length cx)).setCell ⟨w.heap.size+1,2,none⟩ (.slice none 0 0)) (.slice ax x2.length cx) (.slice none 0 0) ⟨x1,x2,[]⟩) :=
     AnsQ.set3 (w:=w2) ⟨World.ownsRow.mono HO2.out HWS.out,[],⟨World.ownsRow_nil _ _ _ _,fun x hx=>by cases hx⟩,rfl⟩ HB2.out _ _ _
    have HBE:Hid (Below w.heap.size w (((w2.setCell ⟨w.heap.size+1,0,none⟩ (.int .i64 x1)).setCell ⟨w.heap.size+1,1,none⟩ (.slice ax x2.length cx)).setCell ⟨w.heap.size+1,2,none⟩ (.slice none 0 0))):=((HBL2.out.setCell (by simp only;omega) _).setCell (by simp only;omega) _).setCell (by simp only;omega) _
    clear hR HR2 HO2
    go_wp2
    refine bodyPost_ret (by simp[results,Tryz.results9,go_sem, *];try rfl) rfl ?_
    rw[←HN.out]
    exact⟨_,_,rfl,HQ.out,HBE.out⟩
 ·have hR:=HR.out
  rw[if_neg he] at hR
  have HN:Hid ((zIY,er)=R):=hR
  have he':(er != 0)=true:=by simpa using he
  have HQ:Hid (AnsQ w.heap.size (((w1.setCell ⟨w.heap.size+1,0,none⟩ (.int .i64 0)).setCell ⟨w.heap.size+1,1,none⟩ (.slice none 0 0)).setCell ⟨w.heap.size+1,2,none⟩ (.slice none 0 0)) (.slice none 0 0) (.slice none 0 0) zIY):=zJm _ _ _
  have HBE:Hid (Below w.heap.size w (((w1.setCell ⟨w.heap.size+1,0,none⟩ (.int .i64 0)).setCell ⟨w.heap.size+1,1,none⟩ (.slice none 0 0)).setCell ⟨w.heap.size+1,2,none⟩ (.slice none 0 0))):=((HBL.out.setCell (by simp only;omega) _).setCell (by simp only;omega) _).setCell (by simp only;omega) _
  clear hR HR
  go_wp2
  refine bodyPost_ret (by simp[results,Tryz.results9,go_sem, *];try rfl) rfl ?_
  rw[←HN.out]
  exact⟨_,_,rfl,HQ.out,HBE.out⟩
end Go.Proofs.YtdjbejlbmaiocafGreatDoor
