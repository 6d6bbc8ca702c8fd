/- What the proof leans on, part 18. -/
import Derived.Test.YtndcpnlaadikoaaGreatDoorPartAo
import Derived.Deep.RegionLaw
import Derived.Test.YtndcpnlaadikoaaGreatDoorPartAq
namespace Go.Proofs.YtndcpnlaadikoaaGreatDoor
open Go.RowKit
theorem zBv {w2 Y w3:World} {A:Prop} (h:Below w2.heap.size w2 Y∧A) (hb:Below Y.heap.size Y w3):Below w2.heap.size w2 w3:=h.1.trans (hb.mono h.1.size)
set_option maxHeartbeats 1600000 in
set_option maxRecDepth 100000 in
theorem zMg (vs:List MVar) (hva:zAU vs) (pts:List Nat) (h:Nat) (hh:h<2 ^ 36) (sv pv:Value) (w:World) (hv:VArg w sv vs) (hp:PArg w pv pts) :
 Calls Tryz.prog 119 #[sv,pv,.int .u64 h] w fun e w'=>e=.returned (.bool (zBX vs pts h))∧Below w.heap.size w w':=by
 have HV:Hid (∀w',Below w.heap.size w w'→VArg w' sv vs):=fun w' h=>VArg.below h hv
 have HP:Hid (∀w',Below w.heap.size w w'→PArg w' pv pts):=fun w' h=>PArg.below h hp
 have HVO:Hid (zAU vs):=hva
 have HH:Hid (h<2 ^ 36):=hh
 have H6:Hid (vs.length≤6):=hva.1.1
 have HW36:Hid (zAC vs<2 ^ 36):=zEV vs hva.1 _
 obtain⟨q,hq⟩:∃q,zAC vs=q:=⟨_,rfl⟩
 obtain⟨r,hr⟩:∃r,zAJ (zAC vs) h=r:=⟨_,rfl⟩
 have HR36:Hid (r<2 ^ 36):=by rw[←hr];exact zCK 36 _ _ HW36.out
 have hbits:=zAY (zAC vs) h (by have:=HW36.out;omega) (by omega)
 rw[hr,hq] at hbits
 have HQ:Hid (zAC vs=q):=hq
 have HS:Hid (zBX vs pts h=(zA7 vs.length r || !pts.any (zCR h))):=by show _=_;unfold zBX;rw[hr]
 rw[HS.out]
 have HWH:Hid (∀w',Below w.heap.size w w'→Calls Tryz.prog 147 #[sv] w' fun e w''=>e=.returned (.int .u64 (q:Int))∧Below w'.heap.size w' w''):=fun w' hb=>by
  rw[←HQ.out];exact zD7 vs HVO.out sv w' (HV.out w' hb)
 have HLA:Hid (∀w',Below w.heap.size w w'→Calls Tryz.prog 194 #[sv,.int .u64 r] w' fun e w''=>e=.returned (.bool (zA7 vs.length r))∧Below w'.heap.size w' w''):=fun w' hb =>
  (zFL vs H6.out r HR36.out sv w' (HV.out w' hb)).mono fun e w'' ⟨h1,h2⟩=>⟨h1,by rw[h2];exact Below.refl _ _⟩
 have HCO:Hid (∀w',Below w.heap.size w w'→∀b1,w'.cell? ⟨b1,0,none⟩=some (.int .u64 h)→Calls Tryz.prog 195 #[pv,.func (.func 193) #[] #[.pointer (some ⟨b1,0,none⟩)]] w' fun e w''=>e=.returned (.bool (pts.any (zCR h)))∧Below w'.heap.size w' w''):=fun w' hb b1 hc =>
  (zFM h HH.out b1 pts pv w' (HP.out w' hb) hc).mono fun e w'' ⟨h1,h2⟩=>⟨h1,by rw[h2];exact Below.refl _ _⟩
 obtain⟨a,c,rfl,_,_⟩:=hv
 obtain⟨a2,c2,rfl,_,_⟩:=hp
 clear hva hh hq hr
 obtain⟨L,hL⟩:∃L,zA7 vs.length r=L:=⟨_,rfl⟩
 obtain⟨S,hS⟩:∃S,pts.any (zCR h)=S:=⟨_,rfl⟩
 rw[hL] at HLA ⊢
 rw[hS] at HCO ⊢
 clear hL hS HS
 go_enter Tryz.func119,Tryz.ntmps119
 go_wp2_with fail
 have HB0:Hid (Below w.heap.size w (w.alloc (.cells #[.int .u64 h] 136))):=zAA _ _
 have k0:(w.alloc (.cells #[.int .u64 h] 136)).cell? ⟨w.heap.size,0,none⟩=some (.int .u64 h):=World.cell?_alloc_at _ _ _ 0 (by simp)
 have n0:w.heap.size<(w.alloc (.cells #[.int .u64 h] 136)).heap.size:=by simp
 obtain⟨W,hW⟩:∃W,w.alloc (.cells #[.int .u64 h] 136)=W:=⟨_,rfl⟩
 rw[hW] at HB0 k0 n0 ⊢
 clear hW
 have HT:Hid (∀Y,Below W.heap.size W Y→Below w.heap.size w Y):=fun Y hY=>HB0.out.trans (hY.mono HB0.out.size)
 cases L
 ·go_region_held3 (fun w'=>Below W.heap.size W w'∧w'.cell? ⟨w.heap.size,0,none⟩=some (.int .u64 h))
   ((refine (fun (hB:Below W.heap.size W _)=>⟨hB,(hB.cell (p:=⟨w.heap.size,0,none⟩) n0).trans k0⟩:Below W.heap.size W _→_) ?_;first | exact (Below.refl _ _).drew | exact zBv (by assumption) hbq))
   (first
     | (go_at_call 147;refine (HWH.out _ (HT.out _ (show Below W.heap.size W _∧_ by assumption).1)).mono ?_;rintro e w3 ⟨rfl,hbq⟩;have hB3:=zBv (by assumption) hbq)
     | (go_at_call 194;refine (HLA.out _ (HT.out _ (show Below W.heap.size W _∧_ by assumption).1)).mono ?_;rintro e w3 ⟨rfl,hbq⟩;have hB3:=zBv (by assumption) hbq)
     | (go_at_call 195;refine (HCO.out _ (HT.out _ (show Below W.heap.size W _∧_ by assumption).1) _ (show Below W.heap.size W _∧_ by assumption).2).mono ?_;rintro e w3 ⟨rfl,hbq⟩;have hB3:=zBv (by assumption) hbq))
  have HB3:Hid (Below w.heap.size w w3):=HT.out _ hB3
  go_wp2
  go_ret
  exact⟨zAB (by simp),HB3.out⟩
 ·have HS:Hid (∀Y,Below W.heap.size W Y→Below W.heap.size W Y∧Y.cell? ⟨w.heap.size,0,none⟩=some (.int .u64 h)):=fun Y hY=>⟨hY,(hY.cell (p:=⟨w.heap.size,0,none⟩) n0).trans k0⟩
  have hHeld:=HS.out W.drew (Below.refl _ _).drew
  refine wp_region_held_drew (S:=fun Y=>Below W.heap.size W Y∧Y.cell? ⟨w.heap.size,0,none⟩=some (.int .u64 h)) (by kernel_rfl) hHeld (fun _=>?_)
  refine wpAnyH_take (i:=0) (v:=?v0) rfl (by kernel_rfl) (by kernel_rfl) (by kernel_rfl) (fun _ _ _ h=>h) (Or.inl ⟨by rfl,?y0⟩) hHeld ?r0
  case y0=>intro wq hSw;obtain⟨q0,q1⟩:=hSw;go_simp;with_reducible rfl
  refine wpAnyH_take (i:=1) (v:=?v1) rfl (by kernel_rfl) (by kernel_rfl) (by kernel_rfl) (fun _ _ _ h=>h) (Or.inl ⟨by rfl,?y1⟩) hHeld ?r1
  case y1=>intro wq hSw;obtain⟨q0,q1⟩:=hSw;go_simp;with_reducible rfl
  refine wpAnyH_take (i:=3) (v:=?v3) rfl (by kernel_rfl) (by kernel_rfl) (by kernel_rfl) (fun _ _ _ h=>h) (Or.inl ⟨by rfl,?y3⟩) hHeld ?r3
  case y3=>intro wq hSw;obtain⟨q0,q1⟩:=hSw;go_simp;with_reducible rfl
  refine wpAnyH_ready (rs:=[2]) (by kernel_rfl) (by simp) ?_
  refine AllReadyH.cons rfl (fun K hK=>?_) AllReadyH.nil
  go_simp
  refine (HWH.out _ (HT.out _ hHeld.1)).mono ?_
  rintro e w2 ⟨rfl,hb2⟩
  have hB2:Below W.heap.size W w2:=hHeld.1.trans hb2
  dsimp only
  have hHeld2:=HS.out w2 hB2
  refine hK.out _ _ hHeld2 (fun _=>?_)
  clear hK
  refine wpAnyH_take (i:=4) (v:=?v4) rfl (by kernel_rfl) (by kernel_rfl) (by kernel_rfl) (fun _ _ _ h=>h) (Or.inl ⟨by rfl,?y4⟩) hHeld2 ?r4
  case y4=>intro wq hSw;obtain⟨q0,q1⟩:=hSw;go_simp;with_reducible rfl
  refine wpAnyH_ready (rs:=[5]) (by kernel_rfl) (by simp) ?_
  refine AllReadyH.cons rfl (fun K hK=>?_) AllReadyH.nil
  go_simp
  refine (HLA.out _ (HT.out _ hHeld2.1)).mono ?_
  rintro e w3 ⟨rfl,hb3⟩
  have hB3:Below W.heap.size W w3:=hB2.trans (hb3.mono hB2.size)
  dsimp only
  have hHeld3:=HS.out w3 hB3
  refine hK.out _ _ hHeld3 (fun _=>?_)
  clear hK
  refine wpAnyH_take (i:=6) (v:=?v6) rfl (by kernel_rfl) (by kernel_rfl) (by kernel_rfl) (fun _ _ _ h=>h) (Or.inl ⟨by rfl,?y6⟩) hHeld3 ?r6
  case y6=>intro wq hSw;obtain⟨q0,q1⟩:=hSw;go_simp;with_reducible rfl
  refine wpAnyH_take (i:=7) rfl (by kernel_rfl) (by kernel_rfl) (by kernel_rfl) (fun _ _ _ h=>h) (Or.inr ⟨by rfl,rfl⟩) hHeld3 ?_
  refine wpAnyH_take (i:=8) rfl (by kernel_rfl) (by kernel_rfl) (by kernel_rfl) (fun _ _ _ h=>h) (Or.inr ⟨by rfl,rfl⟩) hHeld3 ?_
  refine wpAnyH_take (i:=9) rfl (by kernel_rfl) (by kernel_rfl) (by kernel_rfl) (fun _ _ _ h=>h) (Or.inr ⟨by rfl,rfl⟩) hHeld3 ?_
  refine wpAnyH_take (i:=10) rfl (by kernel_rfl) (by kernel_rfl) (by kernel_rfl) (fun _ _ _ h=>h) (Or.inr ⟨by rfl,rfl⟩) hHeld3 ?_
  refine wpAnyH_take (i:=11) (v:=?v11) rfl (by kernel_rfl) (by kernel_rfl) (by kernel_rfl) (fun _ _ _ h=>h) (Or.inl ⟨by rfl,?y11⟩) hHeld3 ?r11
  case y11=>intro wq hSw;obtain⟨q0,q1⟩:=hSw;go_simp;with_reducible rfl
  refine wpAnyH_take (i:=12) (v:=?v12) rfl (by kernel_rfl) (by kernel_rfl) (by kernel_rfl) (fun _ _ _ h=>h) (Or.inl ⟨by rfl,?y12⟩) hHeld3 ?r12
  case y12=>intro wq hSw;obtain⟨q0,q1⟩:=hSw;go_simp;with_reducible rfl
  refine wpAnyH_done (by kernel_rfl) ?_ _
  have HB3:Hid (Below w.heap.size w w3):=HT.out _ hB3
  go_wp2
  go_ret
  exact⟨zAB (by simp),HB3.out⟩
def zFS (w:World) (v:Value) (pt:List (List Nat)):Prop :=
 ∃a c,v=.slice a pt.length c∧(pt.length≤c∧c≤maxLen)∧∀(i:Nat) (pts:List Nat),pt[i]? = some pts→∃b off x,a=some ⟨b,off,none⟩∧b<w.heap.size∧w.cell? ⟨b,off+i,none⟩=some x∧PArg w x pts
theorem zFS.below {w w':World} {v:Value} {pt:List (List Nat)} (hb:Below w.heap.size w w') (h:zFS w v pt):zFS w' v pt:=by
 obtain⟨a,c,hv,hm,hr⟩:=h
 refine⟨a,c,hv,hm,fun i z hz=>?_⟩
 obtain⟨b,off,x,ha,hlt,hc,hx⟩:=hr i z hz
 exact⟨b,off,x,ha,Nat.lt_of_lt_of_le hlt hb.size,(hb.cell (p:=⟨b,off+i,none⟩) hlt).trans hc,PArg.below hb hx⟩
structure RulesAt (w:World) (r:Nat) (sv pv cv:Value) (vs:List MVar) (pt:List (List Nat)) (cs:List Nat):Prop where
 lt:r<w.heap.size
 c0:w.cell? ⟨r,0,none⟩=some sv
 c1:w.cell? ⟨r,1,none⟩=some pv
 c2:w.cell? ⟨r,2,none⟩=some cv
 hv:VArg w sv vs
 hp:zFS w pv pt
 hc:PArg w cv cs
 tab:TabT w
theorem RulesAt.below {w w':World} {r:Nat} {sv pv cv:Value} {vs:List MVar} {pt:List (List Nat)} {cs:List Nat} (hb:Below w.heap.size w w') (h:RulesAt w r sv pv cv vs pt cs):RulesAt w' r sv pv cv vs pt cs :=
 ⟨Nat.lt_of_lt_of_le h.lt hb.size,(hb.cell (p:=⟨r,0,none⟩) h.lt).trans h.c0,(hb.cell (p:=⟨r,1,none⟩) h.lt).trans h.c1,(hb.cell (p:=⟨r,2,none⟩) h.lt).trans h.c2,VArg.below hb h.hv,zFS.below hb h.hp,PArg.below hb h.hc,h.tab.below hb⟩
structure Teller (F:Nat) (caps:Array Value) (vs:List MVar) (pt:List (List Nat)) (I:List (Nat×Nat×Nat)→World→Prop):Prop where
 enters:∀(args:Array Value) (w':World),Sem.run Tryz.prog (callFunc F args) w'=.ok (.enter F args) w'
 below:∀T w w',I T w→Below w.heap.size w w'→I T w'
 call:∀(T:List (Nat×Nat×Nat)) (con b a:Nat) (w:World),I T w→T.length≤36→con<pt.length→(∀i,b.testBit i=true→(zAC vs).testBit i=true)→(∀i,a.testBit i=true→b.testBit i=true) →
  Calls Tryz.prog F (#[.int .i64 con,.int .u64 b,.int .u64 a]++caps) w fun e w'=>e=.returned (.tuple #[])∧I (T++[(con,b,a)]) w'
theorem zLT {pt:List (List Nat)} {k l:Nat} {pts:List Nat} (h:pt[k]? = some pts):zAs (pt.drop k) l=(if l=0 then l else zAs (pt.drop (k+1)) (zBI pts l)) ∧
 zCS k (pt.drop k) l=if l=0 then [] else (if zBI pts l=l then [] else [(k,l,zBI pts l)])++zCS (k+1) (pt.drop (k+1)) (zBI pts l):=by
 have hk:k<pt.length:=(List.getElem?_eq_some_iff.1 h).1
 have hc:pt[k]=pts:=by rw[List.getElem?_eq_getElem hk] at h;exact Option.some.inj h
 rw[List.drop_eq_getElem_cons hk,hc]
 exact⟨rfl,rfl⟩
theorem zHj (pt:List (List Nat)) (k:Nat):zAs pt 0=0∧zCS k pt 0=[]:=by
 cases pt <;> exact⟨rfl,rfl⟩
set_option maxHeartbeats 3200000 in
set_option maxRecDepth 100000 in
theorem zGH (vs:List MVar) (hva:zAU vs) (hn1:1≤vs.length) (cs:List Nat) (pt:List (List Nat)) (h:Nat) (hh:h<2 ^ 36) (r:Nat) (sv pv cv:Value) (F:Nat) (caps:Array Value)
 (I:List (Nat×Nat×Nat)→World→Prop) (hF:Teller F caps vs pt I) (hR:∀T w,I T w→RulesAt w r sv pv cv vs pt cs) (w:World) (hI:I [] w) :
 Calls Tryz.prog 150 #[.pointer (some ⟨r,0,none⟩),.int .u64 h,.func (.func F) #[] caps] w fun e w'=>e=.returned (.int .u64 ((zCz vs cs pt h:Nat):Int))∧I (zFQ vs cs pt h) w':=by
 have HF:Hid (Teller F caps vs pt I):=hF
 have HRU:Hid (∀T w,I T w→RulesAt w r sv pv cv vs pt cs):=hR
 have HI:Hid (I [] w):=hI
 have HVO:Hid (zAU vs):=hva
 have H6:Hid (vs.length≤6):=hva.1.1
 have H1:Hid (1≤vs.length):=hn1
 have HW36:Hid (zAC vs<2 ^ 36):=zEV vs hva.1 _
 obtain⟨q,hq⟩:∃q,zAC vs=q:=⟨_,rfl⟩
 obtain⟨l0,hl0⟩:∃l0,zAJ (zAC vs) h=l0:=⟨_,rfl⟩
 have HSUB:Hid (∀i,l0.testBit i=true→(zAC vs).testBit i=true):=fun i hi=>by
  rw[←hl0,zAW,Bool.and_eq_true] at hi
  exact hi.1
 have HL36:Hid (l0<2 ^ 36):=by rw[←hl0];exact zCK 36 _ _ HW36.out
 have hbits:=zAY (zAC vs) h (by have:=HW36.out;omega) (by omega)
 rw[hl0,hq] at hbits
 have HQ:Hid (zAC vs=q):=hq
 obtain⟨R,hRR⟩:∃R,zCz vs cs pt h=R:=⟨_,rfl⟩
 obtain⟨TT,hTT⟩:∃TT,zFQ vs cs pt h=TT:=⟨_,rfl⟩
 have HS:Hid (if 0=l0 then R=l0∧TT=[] else R=zBQ vs cs pt (l0+1) l0∧TT=[]++zBB vs cs pt (l0+1) l0):=by
  show (if _ then _ else _)
  rw[←hRR,←hTT]
  unfold zCz zFQ
  rw[hl0]
  by_cases h0:l0=0
  ·rw[if_pos h0.symm,if_pos h0,if_pos h0];exact⟨h0.symm,rfl⟩
  ·rw[if_neg (fun e=>h0 e.symm),if_neg h0,if_neg h0];exact⟨rfl,rfl⟩
 rw[hRR,hTT]
 have hRA:=hR [] w hI
 have g0:=hRA.c0
 have g1:=hRA.c1
 have g2:=hRA.c2
 have HRA:Hid (RulesAt w r sv pv cv vs pt cs):=hRA
 obtain⟨a,c,rfl,_,_⟩:=hRA.hv
 obtain⟨a1,c1,rfl,hm,_⟩:=hRA.hp
 obtain⟨a2,c2,rfl,_,_⟩:=hRA.hc
 unfold maxLen at hm
 obtain⟨hm1,hm⟩:=hm
 clear hF hR hI hva hn1 hh hq hl0 hRR hTT hRA
 go_enter Tryz.func150,Tryz.ntmps150
 go_wp2_with fail
 refine (zD7 vs HVO.out _ _ HRA.out.hv).mono ?_
 rintro e w1 ⟨rfl,hb1⟩
 rw[HQ.out]
 have HI1:Hid (I [] w1):=HF.out.below _ _ _ HI.out hb1
 clear hb1 g0 g1 g2 HI HRA
 go_wp2_with fail
 go_loopw [7,8] (fun l b wr=>∃(bb ll:Nat) (T:List (Nat×Nat×Nat)),l=.int .u64 (ll:Int)∧b=.int .u64 (bb:Int)∧Hid (ll<2 ^ 36)∧Hid (∀i,ll.testBit i=true→(zAC vs).testBit i=true)∧Hid (if bb=ll then R=ll∧TT=T else R=zBQ vs cs pt (ll+1) ll∧TT=T++zBB vs cs pt (ll+1) ll)∧Hid (T.length+zEB ll≤36)∧Hid (I T wr)) (fun l b _=>if intOf b=intOf l then 0 else (intOf l).toNat+1)
 case atStart=>exact⟨0,l0,[],rfl,rfl,HL36,HSUB,HS,by show _≤_;have:=zNa l0;simpa using this,HI1⟩
 case round =>
  obtain⟨bb,ll,T,rfl,rfl,hl36,hls,hst,hbt,hi⟩:=hrel
  by_cases hbl:bb=ll
  ·have HN:Hid (R=ll∧TT=T):=by have:=hst.out;rw[if_pos hbl] at this;exact this
   have hne:((bb:Int) != (ll:Int))=false:=by simp[hbl]
   clear hst hbl
   go_wp2
   go_ret
   exact⟨zEW HN.out.1.symm,by rw[HN.out.2];exact hi.out⟩
  ·obtain⟨U,hU⟩:∃U,zAc vs cs ll=U:=⟨_,rfl⟩
   have HUE:Hid (zAc vs cs ll=U):=hU
   have HN:Hid (R=(if zAs pt U=ll then ll else zBQ vs cs pt (zAs pt U+1) (zAs pt U))∧TT=T++(zCS 0 pt U++if zAs pt U=ll then [] else zBB vs cs pt (zAs pt U+1) (zAs pt U))):=by
    show _∧_
    have h1:=hst.out
    rw[if_neg hbl] at h1
    have h2:=zIn vs cs pt ll hl36.out
    rw[hU] at h2
    rw[h1.1,h1.2,h2.1,h2.2]
    exact⟨rfl,rfl⟩
   have HUL:Hid (U≤ll):=by rw[←hU];exact zD6 vs cs ll
   have HUS:Hid (∀i,U.testBit i=true→(zAC vs).testBit i=true):=fun i hx=>hls.out i (zCM vs cs ll i (by rw[hU];exact hx))
   have HUB:Hid (T.length+zEB U≤36):=by have h1:=hbt.out;have h2:=zJb U ll (fun i hx=>zCM vs cs ll i (by rw[hU];exact hx));show _≤_;omega
   have HU36:Hid (U<2 ^ 36):=by have:=HUL.out;have:=hl36.out;show _<_;omega
   have HBL:Hid (bb≠ll):=hbl
   have hne:((bb:Int) != (ll:Int))=true:=by simp;omega
   have hRA:=HRU.out T wr hi.out
   have g0:=hRA.c0
   have g2:=hRA.c2
   have gl:=hRA.lt
   have HUN:Hid (∀Y,Below wr.heap.size wr Y→Calls Tryz.prog 146 #[.slice a (List.length vs) c,.slice a2 (List.length cs) c2,.int .u64 (ll:Int)] Y fun e w'=>e=.returned (.int .u64 (U:Int))∧Below Y.heap.size Y w'):=fun Y hY=>by
    rw[←HUE.out]
    have hRY:=RulesAt.below hY (HRU.out T wr hi.out)
    exact (zHh vs H6.out H1.out cs ll hl36.out _ _ _ hRY.hv hRY.hc hRY.tab).mono fun _ _ ⟨h1,h2⟩=>⟨h1,by rw[h2];exact Below.refl _ _⟩
   clear hst hbl hU hRA
   go_upto_region 5 with (fail)
   clear hne
   go_region_held3 (fun w'=>Below wr.heap.size wr w'∧w'.cell? ⟨r,0,none⟩=some (.slice a (List.length vs) c)∧w'.cell? ⟨r,2,none⟩=some (.slice a2 (List.length cs) c2))
    ((refine (fun (hB:Below wr.heap.size wr _)=>⟨hB,(hB.cell (p:=⟨r,0,none⟩) gl).trans g0,(hB.cell (p:=⟨r,2,none⟩) gl).trans g2⟩:Below wr.heap.size wr _→_) ?_;first | exact (Below.refl _ _).drew | exact zBv (by assumption) hbq))
    (first
      | (go_at_call 146;refine (HUN.out _ (show Below wr.heap.size wr _∧_ by assumption).1).mono ?_;rintro e w3 ⟨rfl,hbq⟩;have hB3:=zBv (by assumption) hbq))
   have HI3:Hid (I T w3):=HF.out.below _ _ _ hi.out hB3
   clear hbq hB3 g0 g2 gl hi
   go_wp2_with fail
   go_loopw [7,9] (fun l i wx=>∃(k l2:Nat) (T2:List (Nat×Nat×Nat)),k≤pt.length∧i=.int .i64 k∧l=.int .u64 (l2:Int)∧Hid (l2<2 ^ 36)∧Hid (∀i,l2.testBit i=true→(zAC vs).testBit i=true)∧Hid (zAs pt U=zAs (pt.drop k) l2∧T++zCS 0 pt U=T2++zCS k (pt.drop k) l2)∧Hid (T2.length+zEB l2≤36)∧Hid (I T2 wx)) (fun _ i _=>pt.length - (intOf i).toNat)
   case atStart=>exact⟨0,U,T,by omega,rfl,rfl,HU36,HUS,⟨rfl,rfl⟩,HUB,HI3⟩
   case round =>
    obtain⟨k,l2,T2,hk,rfl,rfl,hl2,hs2,hst,hbt2,hi⟩:=hrel
    have hRA:=HRU.out T2 wr hi.out
    have HRA:Hid (RulesAt wr r _ _ _ vs pt cs):=hRA
    have g0:=hRA.c0
    have g1:=hRA.c1
    by_cases hfin:k<pt.length∧l2≠0
    ·obtain⟨hlt,hl0⟩:=hfin
     obtain⟨pts,hpts⟩:∃pts,pt[k]? = some pts:=⟨pt[k],by simp[hlt]⟩
     obtain⟨a5,c5,he5,_,hr5⟩:=hRA.hp
     obtain⟨b,off,x,ha5,hb5,hc5,hx5⟩:=hr5 k pts hpts
     have HX5:Hid (PArg wr x pts):=hx5
     obtain⟨a6,c6,rfl,_,_⟩:=hx5
     rw[ha5] at he5
     have HST:=zLT (l:=l2) hpts
     rw[if_neg hl0,if_neg hl0] at HST
     obtain⟨A,hA⟩:∃A,zBI pts l2=A:=⟨_,rfl⟩
     have HAE:Hid (zBI pts l2=A):=hA
     have HAL:Hid (A≤l2):=by rw[←hA];exact zGv pts l2 hl2.out
     have HAS:Hid (∀i,A.testBit i=true→l2.testBit i=true):=fun i hx=>zDS pts l2 i hl2.out (by rw[hA];exact hx)
     have HAB:Hid (T2.length+zEB A≤36):=by have h1:=hbt2.out;have h2:=zJb A l2 HAS.out;show _≤_;omega
     have HTL:Hid (T2.length≤36):=by have h1:=hbt2.out;show _≤_;omega
     have HAN:Hid (A≠l2→(T2++[(k,l2,A)]).length+zEB A≤36):=fun hq=>by have h1:=hbt2.out;have h2:=zLR A l2 hl2.out HAS.out hq;rw[List.length_append];simp;omega
     have HA36:Hid (A<2 ^ 36):=by have:=HAL.out;have:=hl2.out;show _<_;omega
     rw[hA] at HST
     have HST2:Hid (zAs pt U=zAs (pt.drop (k+1)) A∧T++zCS 0 pt U=T2++((if A=l2 then [] else [(k,l2,A)])++zCS (k+1) (pt.drop (k+1)) A)):=by
      have h1:=hst.out
      rw[HST.1,HST.2] at h1
      exact h1
     injection he5 with he5 _ _
     subst he5
     have hl0':((l2:Int) != 0)=true:=by simpa using hl0
     have hz2:Hid (∀i,A.testBit i=true→(zAC vs).testBit i=true):=fun i hx=>hs2.out i (HAS.out i hx)
     clear HST hA hst hr5 hRA hpts hl0
     go_wp2_with fail
     refine (zLS pts l2 hl2.out _ _ HX5.out HRA.out.tab).mono ?_
     rintro e wr ⟨rfl,rfl⟩
     rw[HAE.out]
     by_cases hAl:A=l2
     ·have HN2:Hid (zAs pt U=zAs (pt.drop (k+1)) A∧T++zCS 0 pt U=T2++zCS (k+1) (pt.drop (k+1)) A):=by
       have h1:=HST2.out
       rw[if_pos hAl,List.nil_append] at h1
       exact h1
      have hne:((A:Int) != (l2:Int))=false:=by simp[hAl]
      clear HST2 hAl
      go_wp2
      go_roundw
      case rel=>exact⟨k+1,A,T2,by omega,by go_num,rfl,HA36,hz2,HN2,HAB,hi⟩
      case measure=>simp[intOf];omega
     ·have HN2:Hid (zAs pt U=zAs (pt.drop (k+1)) A∧T++zCS 0 pt U=(T2++[(k,l2,A)])++zCS (k+1) (pt.drop (k+1)) A):=by
       have h1:=HST2.out
       rw[if_neg hAl,←List.append_assoc] at h1
       exact h1
      have hne:((A:Int) != (l2:Int))=true:=by simp;omega
      have HAN2:Hid ((T2++[(k,l2,A)]).length+zEB A≤36):=HAN.out hAl
      clear HST2 hAl
      have HCL:Hid (Calls Tryz.prog F (#[.int .i64 k,.int .u64 l2,.int .u64 A]++caps) wr fun e w'=>e=.returned (.tuple #[])∧I (T2++[(k,l2,A)]) w'):=HF.out.call T2 k l2 A wr hi.out HTL.out hlt hs2.out HAS.out
      go_wp2_with fail
      rw[HF.out.enters,Oper.upon_enter]
      refine HCL.out.mono ?_
      rintro e w4 ⟨rfl,hi4⟩
      have HI4:Hid (I (T2++[(k,l2,A)]) w4):=hi4
      clear hi4 g0 g1 hc5 HCL
      go_wp2
      go_roundw
      case rel=>exact⟨k+1,A,T2++[(k,l2,A)],by omega,by go_num,rfl,HA36,hz2,HN2,HAN2,HI4⟩
      case measure=>simp[intOf];omega
    ·have HE:Hid (zAs pt U=l2∧T++zCS 0 pt U=T2):=by
      have h1:=hst.out
      by_cases hlt:k<pt.length
      ·have h0:l2=0:=Classical.byContradiction fun hne=>hfin ⟨hlt,hne⟩
       rw[h0,(zHj _ k).1,(zHj _ k).2,List.append_nil] at h1
       rw[h0];exact h1
      ·rw[show k=pt.length by omega,List.drop_length] at h1
       obtain⟨h2,h3⟩:=h1
       have e:T2++zCS pt.length [] l2=T2:=by simp[zCS]
       rw[e] at h3
       exact⟨h2,h3⟩
     have HLE:Hid (l2≤ll):=by
      rw[←HE.out.1]
      exact Nat.le_trans (zGx pt U HU36.out) HUL.out
     have HU2:Hid (if ll=l2 then R=l2∧TT=T2 else R=zBQ vs cs pt (l2+1) l2∧TT=T2++zBB vs cs pt (l2+1) l2):=by
      show (if _ then _ else _)
      obtain⟨h1,h2⟩:=HN.out
      rw[←List.append_assoc,HE.out.2] at h2
      rw[HE.out.1] at h1 h2
      by_cases hq:ll=l2
      ·rw[if_pos hq.symm] at h1 h2
       rw[if_pos hq,h1,h2,List.append_nil]
       exact⟨hq,rfl⟩
      ·rw[if_neg (fun h=>hq h.symm)] at h1 h2
       rw[if_neg hq,h1,h2]
       exact⟨rfl,rfl⟩
     have HM:Hid ((if (ll:Int)=(l2:Int) then 0 else (l2:Int).toNat+1)<(if (bb:Int)=(ll:Int) then 0 else (ll:Int).toNat+1)):=by
      show _<_
      have h1:=HBL.out
      have h2:=HLE.out
      have e:(if (bb:Int)=(ll:Int) then 0 else (ll:Int).toNat+1)=(ll:Int).toNat+1:=if_neg (by omega)
      rw[e]
      split <;> omega
     by_cases hlt:k<pt.length
     ·have h0:l2=0:=Classical.byContradiction fun hne=>hfin ⟨hlt,hne⟩
      subst h0
      clear hst hfin
      go_wp2
      go_roundw
      case rel=>exact⟨ll,0,T2,rfl,rfl,hl2,hs2,HU2,hbt2,hi⟩
      case measure=>exact HM.out
     ·clear hst hfin
      go_wp2
      go_roundw
      case rel=>exact⟨ll,l2,T2,rfl,rfl,hl2,hs2,HU2,hbt2,hi⟩
      case measure=>exact HM.out
end Go.Proofs.YtndcpnlaadikoaaGreatDoor
