/- What the proof leans on, part 24. -/
import Derived.Test.YtndcpnlaadikoaaGreatDoorPartAp
import Derived.Deep.RegionLaw
import Derived.Test.YtndcpnlaadikoaaGreatDoorPartAw
import Derived.Test.YtndcpnlaadikoaaGreatDoorPartAq
import Derived.Test.YtndcpnlaadikoaaGreatDoorPartAv
import Derived.Deep.RegionHeld3
set_option maxRecDepth 100000
set_option maxHeartbeats 3200000
namespace Go.Proofs.YtndcpnlaadikoaaGreatDoor
open Go.RowKit
theorem zA7 {w2 Y w3:World} {A:Prop} (h:Below w2.heap.size w2 Y∧A) (hb:Below Y.heap.size Y w3):Below w2.heap.size w2 w3:=h.1.trans (hb.mono h.1.size)
theorem zJm (vs:List MVar) (hva:zAQ vs) (pts:List Nat) (h:Nat) (hh:h<2 ^ 36) (sv pv:Value) (w:World) (hv:VArg w sv vs) (hp:PArg w pv pts) :
 Calls Tryz.prog 119 #[sv,pv,.int .u64 h] w fun e w'=>e=.returned (.bool (zBv vs pts h))∧Below w.heap.size w w':=by
 have HV:Hid (∀w',Below w.heap.size w w'→VArg w' sv vs):=fun w' h=>VArg.below h hv
 have HP:Hid (∀w',Below w.heap.size w w'→PArg w' pv pts):=fun w' h=>PArg.below h hp
 have HVO:Hid (zAQ vs):=hva;have HH:Hid (h<2 ^ 36):=hh;have H6:Hid (vs.length≤6):=hva.1.1;have HW36:Hid (zAE vs<2 ^ 36):=zFi vs hva.1 _;obtain⟨q,hq⟩:∃q,zAE vs=q:=⟨_,rfl⟩;obtain⟨r,hr⟩:∃r,zAL (zAE vs) h=r:=⟨_,rfl⟩;have HR36:Hid (r<2 ^ 36):=by rw[←hr];exact zB9 36 _ _ HW36.out
 have hbits:=zAg (zAE vs) h (by have:=HW36.out;omega) (by omega)
 rw[hr,hq] at hbits;have HQ:Hid (zAE vs=q):=hq;have HS:Hid (zBv vs pts h=(zBt vs.length r || !pts.any (zEL h))):=by show _=_;unfold zBv;rw[hr]
 rw[HS.out];have HWH:Hid (∀w',Below w.heap.size w w'→Calls Tryz.prog 147 #[sv] w' fun e w''=>e=.returned (.int .u64 (q:Int))∧Below w'.heap.size w' w''):=fun w' hb=>by
  rw[←HQ.out];exact zFj vs HVO.out sv w' (HV.out w' hb)
 have HLA:Hid (∀w',Below w.heap.size w w'→Calls Tryz.prog 194 #[sv,.int .u64 r] w' fun e w''=>e=.returned (.bool (zBt vs.length r))∧Below w'.heap.size w' w''):=fun w' hb =>
  (zHc vs H6.out r HR36.out sv w' (HV.out w' hb)).mono fun e w'' ⟨h1,h2⟩=>⟨h1,by rw[h2];exact Below.refl _ _⟩
 have HCO:Hid (∀w',Below w.heap.size w w'→∀b1,w'.cell? ⟨b1,0,none⟩=some (.int .u64 h)→Calls Tryz.prog 195 #[pv,.func (.func 193) #[] #[.pointer (some ⟨b1,0,none⟩)]] w' fun e w''=>e=.returned (.bool (pts.any (zEL h)))∧Below w'.heap.size w' w''):=fun w' hb b1 hc =>
  (zHd h HH.out b1 pts pv w' (HP.out w' hb) hc).mono fun e w'' ⟨h1,h2⟩=>⟨h1,by rw[h2];exact Below.refl _ _⟩
 obtain⟨a,c,rfl,_,_⟩:=hv;obtain⟨a2,c2,rfl,_,_⟩:=hp;clear hva hh hq hr;obtain⟨L,hL⟩:∃L,zBt vs.length r=L:=⟨_,rfl⟩;obtain⟨S,hS⟩:∃S,pts.any (zEL h)=S:=⟨_,rfl⟩;rw[hL] at HLA ⊢;rw[hS] at HCO ⊢;clear hL hS HS;go_enter Tryz.func119,Tryz.ntmps119
 go_wp2_with fail
 have HB0:Hid (Below w.heap.size w (w.alloc (.cells #[.int .u64 h] 136))):=zAA _ _;have k0:(w.alloc (.cells #[.int .u64 h] 136)).cell? ⟨w.heap.size,0,none⟩=some (.int .u64 h):=World.cell?_alloc_at _ _ _ 0 (by simp)
 have n0:w.heap.size<(w.alloc (.cells #[.int .u64 h] 136)).heap.size:=by simp
 obtain⟨W,hW⟩:∃W,w.alloc (.cells #[.int .u64 h] 136)=W:=⟨_,rfl⟩;rw[hW] at HB0 k0 n0 ⊢;clear hW;have HT:Hid (∀Y,Below W.heap.size W Y→Below w.heap.size w Y):=fun Y hY=>HB0.out.trans (hY.mono HB0.out.size)
 cases L
 ·go_region_held3 (fun w'=>Below W.heap.size W w'∧w'.cell? ⟨w.heap.size,0,none⟩=some (.int .u64 h))
   ((refine (fun (hB:Below W.heap.size W _)=>⟨hB,(hB.cell (p:=⟨w.heap.size,0,none⟩) n0).trans k0⟩:Below W.heap.size W _→_) ?_;first | exact (Below.refl _ _).drew | exact zA7 (by assumption) hbq))
   (first
     | (go_at_call 147;refine (HWH.out _ (HT.out _ (show Below W.heap.size W _∧_ by assumption).1)).mono ?_;rintro e w3 ⟨rfl,hbq⟩;have hB3:=zA7 (by assumption) hbq)
     | (go_at_call 194;refine (HLA.out _ (HT.out _ (show Below W.heap.size W _∧_ by assumption).1)).mono ?_;rintro e w3 ⟨rfl,hbq⟩;have hB3:=zA7 (by assumption) hbq)
     | (go_at_call 195;refine (HCO.out _ (HT.out _ (show Below W.heap.size W _∧_ by assumption).1) _ (show Below W.heap.size W _∧_ by assumption).2).mono ?_;rintro e w3 ⟨rfl,hbq⟩;have hB3:=zA7 (by assumption) hbq))
  have HB3:Hid (Below w.heap.size w w3):=HT.out _ hB3;go_wp2
  go_ret
  exact⟨zAD (by simp),HB3.out⟩
 ·have HS:Hid (∀Y,Below W.heap.size W Y→Below W.heap.size W Y∧Y.cell? ⟨w.heap.size,0,none⟩=some (.int .u64 h)):=fun Y hY=>⟨hY,(hY.cell (p:=⟨w.heap.size,0,none⟩) n0).trans k0⟩
  have hHeld:=HS.out W.drew (Below.refl _ _).drew;refine wp_region_held_drew (S:=fun Y=>Below W.heap.size W Y∧Y.cell? ⟨w.heap.size,0,none⟩=some (.int .u64 h)) (by kernel_rfl) hHeld (fun _=>?_)
  refine wpAnyH_take (i:=0) (v:=?v0) rfl (by kernel_rfl) (by kernel_rfl) (by kernel_rfl) (fun _ _ _ h=>h) (Or.inl ⟨by rfl,?y0⟩) hHeld ?r0
  case y0=>intro wq hSw;obtain⟨q0,q1⟩:=hSw;go_simp;with_reducible rfl
  refine wpAnyH_take (i:=1) (v:=?v1) rfl (by kernel_rfl) (by kernel_rfl) (by kernel_rfl) (fun _ _ _ h=>h) (Or.inl ⟨by rfl,?y1⟩) hHeld ?r1
  case y1=>intro wq hSw;obtain⟨q0,q1⟩:=hSw;go_simp;with_reducible rfl
  refine wpAnyH_take (i:=3) (v:=?v3) rfl (by kernel_rfl) (by kernel_rfl) (by kernel_rfl) (fun _ _ _ h=>h) (Or.inl ⟨by rfl,?y3⟩) hHeld ?r3
  case y3=>intro wq hSw;obtain⟨q0,q1⟩:=hSw;go_simp;with_reducible rfl
  refine wpAnyH_ready (rs:=[2]) (by kernel_rfl) (by simp) ?_
  refine AllReadyH.cons rfl (fun K hK=>?_) AllReadyH.nil
  go_simp
  refine (HWH.out _ (HT.out _ hHeld.1)).mono ?_;rintro e w2 ⟨rfl,hb2⟩;have hB2:Below W.heap.size W w2:=hHeld.1.trans hb2
  dsimp only
  have hHeld2:=HS.out w2 hB2;refine hK.out _ _ hHeld2 (fun _=>?_)
  clear hK;refine wpAnyH_take (i:=4) (v:=?v4) rfl (by kernel_rfl) (by kernel_rfl) (by kernel_rfl) (fun _ _ _ h=>h) (Or.inl ⟨by rfl,?y4⟩) hHeld2 ?r4
  case y4=>intro wq hSw;obtain⟨q0,q1⟩:=hSw;go_simp;with_reducible rfl
  refine wpAnyH_ready (rs:=[5]) (by kernel_rfl) (by simp) ?_
  refine AllReadyH.cons rfl (fun K hK=>?_) AllReadyH.nil
  go_simp
  refine (HLA.out _ (HT.out _ hHeld2.1)).mono ?_;rintro e w3 ⟨rfl,hb3⟩;have hB3:Below W.heap.size W w3:=hB2.trans (hb3.mono hB2.size)
  dsimp only
  have hHeld3:=HS.out w3 hB3;refine hK.out _ _ hHeld3 (fun _=>?_)
  clear hK;refine wpAnyH_take (i:=6) (v:=?v6) rfl (by kernel_rfl) (by kernel_rfl) (by kernel_rfl) (fun _ _ _ h=>h) (Or.inl ⟨by rfl,?y6⟩) hHeld3 ?r6
  case y6=>intro wq hSw;obtain⟨q0,q1⟩:=hSw;go_simp;with_reducible rfl
  refine wpAnyH_take (i:=7) rfl (by kernel_rfl) (by kernel_rfl) (by kernel_rfl) (fun _ _ _ h=>h) (Or.inr ⟨by rfl,rfl⟩) hHeld3 ?_
  refine wpAnyH_take (i:=8) rfl (by kernel_rfl) (by kernel_rfl) (by kernel_rfl) (fun _ _ _ h=>h) (Or.inr ⟨by rfl,rfl⟩) hHeld3 ?_
  refine wpAnyH_take (i:=9) rfl (by kernel_rfl) (by kernel_rfl) (by kernel_rfl) (fun _ _ _ h=>h) (Or.inr ⟨by rfl,rfl⟩) hHeld3 ?_
  refine wpAnyH_take (i:=10) rfl (by kernel_rfl) (by kernel_rfl) (by kernel_rfl) (fun _ _ _ h=>h) (Or.inr ⟨by rfl,rfl⟩) hHeld3 ?_
  refine wpAnyH_take (i:=11) (v:=?v11) rfl (by kernel_rfl) (by kernel_rfl) (by kernel_rfl) (fun _ _ _ h=>h) (Or.inl ⟨by rfl,?y11⟩) hHeld3 ?r11
  case y11=>intro wq hSw;obtain⟨q0,q1⟩:=hSw;go_simp;with_reducible rfl
  refine wpAnyH_take (i:=12) (v:=?v12) rfl (by kernel_rfl) (by kernel_rfl) (by kernel_rfl) (fun _ _ _ h=>h) (Or.inl ⟨by rfl,?y12⟩) hHeld3 ?r12
  case y12=>intro wq hSw;obtain⟨q0,q1⟩:=hSw;go_simp;with_reducible rfl
  refine wpAnyH_done (by kernel_rfl) ?_ _
  have HB3:Hid (Below w.heap.size w w3):=HT.out _ hB3;go_wp2
  go_ret
  exact⟨zAD (by simp),HB3.out⟩
def zFQ (w:World) (v:Value) (pt:List (List Nat)):Prop :=
 ∃a c,v=.slice a pt.length c∧(pt.length≤c∧c≤maxLen)∧∀(i:Nat) (pts:List Nat),pt[i]? = some pts→∃b off x,a=some ⟨b,off,none⟩∧b<w.heap.size∧w.cell? ⟨b,off+i,none⟩=some x∧PArg w x pts
theorem zFQ.below {w w':World} {v:Value} {pt:List (List Nat)} (hb:Below w.heap.size w w') (h:zFQ w v pt):zFQ w' v pt:=by
 obtain⟨a,c,hv,hm,hr⟩:=h;refine⟨a,c,hv,hm,fun i z hz=>?_⟩
 obtain⟨b,off,x,ha,hlt,hc,hx⟩:=hr i z hz;exact⟨b,off,x,ha,Nat.lt_of_lt_of_le hlt hb.size,(hb.cell (p:=⟨b,off+i,none⟩) hlt).trans hc,PArg.below hb hx⟩
structure RulesAt (w:World) (r:Nat) (sv pv cv:Value) (vs:List MVar) (pt:List (List Nat)) (cs:List Nat):Prop where
 lt:r<w.heap.size
 c0:w.cell? ⟨r,0,none⟩=some sv
 c1:w.cell? ⟨r,1,none⟩=some pv
 c2:w.cell? ⟨r,2,none⟩=some cv
 hv:VArg w sv vs
 hp:zFQ w pv pt
 hc:PArg w cv cs
 tab:TabT w
theorem RulesAt.below {w w':World} {r:Nat} {sv pv cv:Value} {vs:List MVar} {pt:List (List Nat)} {cs:List Nat} (hb:Below w.heap.size w w') (h:RulesAt w r sv pv cv vs pt cs):RulesAt w' r sv pv cv vs pt cs :=
 ⟨Nat.lt_of_lt_of_le h.lt hb.size,(hb.cell (p:=⟨r,0,none⟩) h.lt).trans h.c0,(hb.cell (p:=⟨r,1,none⟩) h.lt).trans h.c1,(hb.cell (p:=⟨r,2,none⟩) h.lt).trans h.c2,VArg.below hb h.hv,zFQ.below hb h.hp,PArg.below hb h.hc,h.tab.below hb⟩
structure Teller (F:Nat) (caps:Array Value) (vs:List MVar) (pt:List (List Nat)) (I:List (Nat×Nat×Nat)→World→Prop):Prop where
 enters:∀(args:Array Value) (w':World),Sem.run Tryz.prog (callFunc F args) w'=.ok (.enter F args) w'
 below:∀T w w',I T w→Below w.heap.size w w'→I T w'
 call:∀(T:List (Nat×Nat×Nat)) (con b a:Nat) (w:World),I T w→T.length≤36→con<pt.length→(∀i,b.testBit i=true→(zAE vs).testBit i=true)→(∀i,a.testBit i=true→b.testBit i=true) →
  Calls Tryz.prog F (#[.int .i64 con,.int .u64 b,.int .u64 a]++caps) w fun e w'=>e=.returned (.tuple #[])∧I (T++[(con,b,a)]) w'
theorem zPd {pt:List (List Nat)} {k l:Nat} {pts:List Nat} (h:pt[k]? = some pts):zA2 (pt.drop k) l=(if l=0 then l else zA2 (pt.drop (k+1)) (zBT pts l)) ∧
 zDT k (pt.drop k) l=if l=0 then [] else (if zBT pts l=l then [] else [(k,l,zBT pts l)])++zDT (k+1) (pt.drop (k+1)) (zBT pts l):=by
 have hk:k<pt.length:=(List.getElem?_eq_some_iff.1 h).1;have hc:pt[k]=pts:=by rw[List.getElem?_eq_getElem hk] at h;exact Option.some.inj h
 rw[List.drop_eq_getElem_cons hk,hc];exact⟨rfl,rfl⟩
theorem zKh (pt:List (List Nat)) (k:Nat):zA2 pt 0=0∧zDT k pt 0=[]:=by
 cases pt <;> exact⟨rfl,rfl⟩
theorem zI2 (vs:List MVar) (hva:zAQ vs) (hn1:1≤vs.length) (cs:List Nat) (pt:List (List Nat)) (h:Nat) (hh:h<2 ^ 36) (r:Nat) (sv pv cv:Value) (F:Nat) (caps:Array Value)
 (I:List (Nat×Nat×Nat)→World→Prop) (hF:Teller F caps vs pt I) (hR:∀T w,I T w→RulesAt w r sv pv cv vs pt cs) (w:World) (hI:I [] w) :
 Calls Tryz.prog 150 #[.pointer (some ⟨r,0,none⟩),.int .u64 h,.func (.func F) #[] caps] w fun e w'=>e=.returned (.int .u64 ((zBU vs cs pt h:Nat):Int))∧I (zHk vs cs pt h) w':=by
 have HF:Hid (Teller F caps vs pt I):=hF;have HRU:Hid (∀T w,I T w→RulesAt w r sv pv cv vs pt cs):=hR;have HI:Hid (I [] w):=hI;have HVO:Hid (zAQ vs):=hva;have H6:Hid (vs.length≤6):=hva.1.1;have H1:Hid (1≤vs.length):=hn1;have HW36:Hid (zAE vs<2 ^ 36):=zFi vs hva.1 _;obtain⟨q,hq⟩:∃q,zAE vs=q:=⟨_,rfl⟩;obtain⟨l0,hl0⟩:∃l0,zAL (zAE vs) h=l0:=⟨_,rfl⟩;have HSUB:Hid (∀i,l0.testBit i=true→(zAE vs).testBit i=true):=fun i hi=>by
  rw[←hl0,zAO,Bool.and_eq_true] at hi;exact hi.1
 have HL36:Hid (l0<2 ^ 36):=by rw[←hl0];exact zB9 36 _ _ HW36.out
 have hbits:=zAg (zAE vs) h (by have:=HW36.out;omega) (by omega)
 rw[hl0,hq] at hbits;have HQ:Hid (zAE vs=q):=hq;obtain⟨R,hRR⟩:∃R,zBU vs cs pt h=R:=⟨_,rfl⟩;obtain⟨TT,hTT⟩:∃TT,zHk vs cs pt h=TT:=⟨_,rfl⟩;have HS:Hid (if 0=l0 then R=l0∧TT=[] else R=zBN vs cs pt (l0+1) l0∧TT=[]++zBn vs cs pt (l0+1) l0):=by
  show (if _ then _ else _)
  rw[←hRR,←hTT];unfold zBU zHk;rw[hl0];by_cases h0:l0=0
  ·rw[if_pos h0.symm,if_pos h0,if_pos h0];exact⟨h0.symm,rfl⟩
  ·rw[if_neg (fun e=>h0 e.symm),if_neg h0,if_neg h0];exact⟨rfl,rfl⟩
 rw[hRR,hTT];have hRA:=hR [] w hI;have g0:=hRA.c0;have g1:=hRA.c1;have g2:=hRA.c2;have HRA:Hid (RulesAt w r sv pv cv vs pt cs):=hRA;obtain⟨a,c,rfl,_,_⟩:=hRA.hv;obtain⟨a1,c1,rfl,hm,_⟩:=hRA.hp;obtain⟨a2,c2,rfl,_,_⟩:=hRA.hc;unfold maxLen at hm;obtain⟨hm1,hm⟩:=hm;clear hF hR hI hva hn1 hh hq hl0 hRR hTT hRA;go_enter Tryz.func150,Tryz.ntmps150
 go_wp2_with fail
 refine (zFj vs HVO.out _ _ HRA.out.hv).mono ?_;rintro e w1 ⟨rfl,hb1⟩;rw[HQ.out];have HI1:Hid (I [] w1):=HF.out.below _ _ _ HI.out hb1;clear hb1 g0 g1 g2 HI HRA;go_wp2_with fail
 go_loopw [7,8] (fun l b wr=>∃(bb ll:Nat) (T:List (Nat×Nat×Nat)),l=.int .u64 (ll:Int)∧b=.int .u64 (bb:Int)∧Hid (ll<2 ^ 36)∧Hid (∀i,ll.testBit i=true→(zAE vs).testBit i=true)∧Hid (if bb=ll then R=ll∧TT=T else R=zBN vs cs pt (ll+1) ll∧TT=T++zBn vs cs pt (ll+1) ll)∧Hid (T.length+zFO ll≤36)∧Hid (I T wr)) (fun l b _=>if intOf b=intOf l then 0 else (intOf l).toNat+1)
 case atStart=>exact⟨0,l0,[],rfl,rfl,HL36,HSUB,HS,by show _≤_;have:=zLk l0;simpa using this,HI1⟩
 case round =>
  obtain⟨bb,ll,T,rfl,rfl,hl36,hls,hst,hbt,hi⟩:=hrel;by_cases hbl:bb=ll
  ·have HN:Hid (R=ll∧TT=T):=by have:=hst.out;rw[if_pos hbl] at this;exact this
   have hne:((bb:Int) != (ll:Int))=false:=by simp[hbl]
   clear hst hbl;go_wp2
   go_ret
   exact⟨zGJ HN.out.1.symm,by rw[HN.out.2];exact hi.out⟩
  ·obtain⟨U,hU⟩:∃U,zAa vs cs ll=U:=⟨_,rfl⟩
   have HUE:Hid (zAa vs cs ll=U):=hU;have HN:Hid (R=(if zA2 pt U=ll then ll else zBN vs cs pt (zA2 pt U+1) (zA2 pt U))∧TT=T++(zDT 0 pt U++if zA2 pt U=ll then [] else zBn vs cs pt (zA2 pt U+1) (zA2 pt U))):=by
    show _∧_;have h1:=hst.out;rw[if_neg hbl] at h1;have h2:=zLi vs cs pt ll hl36.out;rw[hU] at h2;rw[h1.1,h1.2,h2.1,h2.2];exact⟨rfl,rfl⟩
   have HUL:Hid (U≤ll):=by rw[←hU];exact zDA vs cs ll
   have HUS:Hid (∀i,U.testBit i=true→(zAE vs).testBit i=true):=fun i hx=>hls.out i (zCs vs cs ll i (by rw[hU];exact hx))
   have HUB:Hid (T.length+zFO U≤36):=by have h1:=hbt.out;have h2:=zM1 U ll (fun i hx=>zCs vs cs ll i (by rw[hU];exact hx));show _≤_;omega
   have HU36:Hid (U<2 ^ 36):=by have:=HUL.out;have:=hl36.out;show _<_;omega
   have HBL:Hid (bb≠ll):=hbl;have hne:((bb:Int) != (ll:Int))=true:=by simp;omega
   have hRA:=HRU.out T wr hi.out;have g0:=hRA.c0;have g2:=hRA.c2;have gl:=hRA.lt;have HUN:Hid (∀Y,Below wr.heap.size wr Y→Calls Tryz.prog 146 #[.slice a (List.length vs) c,.slice a2 (List.length cs) c2,.int .u64 (ll:Int)] Y fun e w'=>e=.returned (.int .u64 (U:Int))∧Below Y.heap.size Y w'):=fun Y hY=>by
    rw[←HUE.out];have hRY:=RulesAt.below hY (HRU.out T wr hi.out);exact (zKg vs H6.out H1.out cs ll hl36.out _ _ _ hRY.hv hRY.hc hRY.tab).mono fun _ _ ⟨h1,h2⟩=>⟨h1,by rw[h2];exact Below.refl _ _⟩
   clear hst hbl hU hRA;go_upto_region 5 with (fail)
   clear hne;go_region_held3 (fun w'=>Below wr.heap.size wr w'∧w'.cell? ⟨r,0,none⟩=some (.slice a (List.length vs) c)∧w'.cell? ⟨r,2,none⟩=some (.slice a2 (List.length cs) c2))
    ((refine (fun (hB:Below wr.heap.size wr _)=>⟨hB,(hB.cell (p:=⟨r,0,none⟩) gl).trans g0,(hB.cell (p:=⟨r,2,none⟩) gl).trans g2⟩:Below wr.heap.size wr _→_) ?_;first | exact (Below.refl _ _).drew | exact zA7 (by assumption) hbq))
    (first
      | (go_at_call 146;refine (HUN.out _ (show Below wr.heap.size wr _∧_ by assumption).1).mono ?_;rintro e w3 ⟨rfl,hbq⟩;have hB3:=zA7 (by assumption) hbq))
   have HI3:Hid (I T w3):=HF.out.below _ _ _ hi.out hB3;clear hbq hB3 g0 g2 gl hi;go_wp2_with fail
   go_loopw [7,9] (fun l i wx=>∃(k l2:Nat) (T2:List (Nat×Nat×Nat)),k≤pt.length∧i=.int .i64 k∧l=.int .u64 (l2:Int)∧Hid (l2<2 ^ 36)∧Hid (∀i,l2.testBit i=true→(zAE vs).testBit i=true)∧Hid (zA2 pt U=zA2 (pt.drop k) l2∧T++zDT 0 pt U=T2++zDT k (pt.drop k) l2)∧Hid (T2.length+zFO l2≤36)∧Hid (I T2 wx)) (fun _ i _=>pt.length - (intOf i).toNat)
   case atStart=>exact⟨0,U,T,by omega,rfl,rfl,HU36,HUS,⟨rfl,rfl⟩,HUB,HI3⟩
   case round =>
    obtain⟨k,l2,T2,hk,rfl,rfl,hl2,hs2,hst,hbt2,hi⟩:=hrel;have hRA:=HRU.out T2 wr hi.out;have HRA:Hid (RulesAt wr r _ _ _ vs pt cs):=hRA;have g0:=hRA.c0;have g1:=hRA.c1;by_cases hfin:k<pt.length∧l2≠0
    ·obtain⟨hlt,hl0⟩:=hfin
     obtain⟨pts,hpts⟩:∃pts,pt[k]? = some pts:=⟨pt[k],by simp[hlt]⟩
     obtain⟨a5,c5,he5,_,hr5⟩:=hRA.hp;obtain⟨b,off,x,ha5,hb5,hc5,hx5⟩:=hr5 k pts hpts;have HX5:Hid (PArg wr x pts):=hx5;obtain⟨a6,c6,rfl,_,_⟩:=hx5;rw[ha5] at he5;have HST:=zPd (l:=l2) hpts;rw[if_neg hl0,if_neg hl0] at HST;obtain⟨A,hA⟩:∃A,zBT pts l2=A:=⟨_,rfl⟩;have HAE:Hid (zBT pts l2=A):=hA;have HAL:Hid (A≤l2):=by rw[←hA];exact zFM pts l2 hl2.out
     have HAS:Hid (∀i,A.testBit i=true→l2.testBit i=true):=fun i hx=>zD9 pts l2 i hl2.out (by rw[hA];exact hx)
     have HAB:Hid (T2.length+zFO A≤36):=by have h1:=hbt2.out;have h2:=zM1 A l2 HAS.out;show _≤_;omega
     have HTL:Hid (T2.length≤36):=by have h1:=hbt2.out;show _≤_;omega
     have HAN:Hid (A≠l2→(T2++[(k,l2,A)]).length+zFO A≤36):=fun hq=>by have h1:=hbt2.out;have h2:=zKZ A l2 hl2.out HAS.out hq;rw[List.length_append];simp;omega
     have HA36:Hid (A<2 ^ 36):=by have:=HAL.out;have:=hl2.out;show _<_;omega
     rw[hA] at HST;have HST2:Hid (zA2 pt U=zA2 (pt.drop (k+1)) A∧T++zDT 0 pt U=T2++((if A=l2 then [] else [(k,l2,A)])++zDT (k+1) (pt.drop (k+1)) A)):=by
      have h1:=hst.out;rw[HST.1,HST.2] at h1;exact h1
     injection he5 with he5 _ _
     subst he5;have hl0':((l2:Int) != 0)=true:=by simpa using hl0
     have hz2:Hid (∀i,A.testBit i=true→(zAE vs).testBit i=true):=fun i hx=>hs2.out i (HAS.out i hx)
     clear HST hA hst hr5 hRA hpts hl0;go_wp2_with fail
     refine (zPc pts l2 hl2.out _ _ HX5.out HRA.out.tab).mono ?_;rintro e wr ⟨rfl,rfl⟩;rw[HAE.out];by_cases hAl:A=l2
     ·have HN2:Hid (zA2 pt U=zA2 (pt.drop (k+1)) A∧T++zDT 0 pt U=T2++zDT (k+1) (pt.drop (k+1)) A):=by
       have h1:=HST2.out;rw[if_pos hAl,List.nil_append] at h1;exact h1
      have hne:((A:Int) != (l2:Int))=false:=by simp[hAl]
      clear HST2 hAl;go_wp2
      go_roundw
      case rel=>exact⟨k+1,A,T2,by omega,by go_num,rfl,HA36,hz2,HN2,HAB,hi⟩
      case measure=>simp[intOf];omega
     ·have HN2:Hid (zA2 pt U=zA2 (pt.drop (k+1)) A∧T++zDT 0 pt U=(T2++[(k,l2,A)])++zDT (k+1) (pt.drop (k+1)) A):=by
       have h1:=HST2.out;rw[if_neg hAl,←List.append_assoc] at h1;exact h1
      have hne:((A:Int) != (l2:Int))=true:=by simp;omega
      have HAN2:Hid ((T2++[(k,l2,A)]).length+zFO A≤36):=HAN.out hAl;clear HST2 hAl;have HCL:Hid (Calls Tryz.prog F (#[.int .i64 k,.int .u64 l2,.int .u64 A]++caps) wr fun e w'=>e=.returned (.tuple #[])∧I (T2++[(k,l2,A)]) w'):=HF.out.call T2 k l2 A wr hi.out HTL.out hlt hs2.out HAS.out
      go_wp2_with fail
      rw[HF.out.enters,Oper.upon_enter];refine HCL.out.mono ?_;rintro e w4 ⟨rfl,hi4⟩;have HI4:Hid (I (T2++[(k,l2,A)]) w4):=hi4;clear hi4 g0 g1 hc5 HCL;go_wp2
      go_roundw
      case rel=>exact⟨k+1,A,T2++[(k,l2,A)],by omega,by go_num,rfl,HA36,hz2,HN2,HAN2,HI4⟩
      case measure=>simp[intOf];omega
    ·have HE:Hid (zA2 pt U=l2∧T++zDT 0 pt U=T2):=by
      have h1:=hst.out;by_cases hlt:k<pt.length
      ·have h0:l2=0:=Classical.byContradiction fun hne=>hfin ⟨hlt,hne⟩
       rw[h0,(zKh _ k).1,(zKh _ k).2,List.append_nil] at h1;rw[h0];exact h1
      ·rw[show k=pt.length by omega,List.drop_length] at h1
       obtain⟨h2,h3⟩:=h1;have e:T2++zDT pt.length [] l2=T2:=by simp[zDT]
       rw[e] at h3;exact⟨h2,h3⟩
     have HLE:Hid (l2≤ll):=by
      rw[←HE.out.1];exact Nat.le_trans (zFo pt U HU36.out) HUL.out
     have HU2:Hid (if ll=l2 then R=l2∧TT=T2 else R=zBN vs cs pt (l2+1) l2∧TT=T2++zBn vs cs pt (l2+1) l2):=by
      show (if _ then _ else _)
      obtain⟨h1,h2⟩:=HN.out;rw[←List.append_assoc,HE.out.2] at h2;rw[HE.out.1] at h1 h2;by_cases hq:ll=l2
      ·rw[if_pos hq.symm] at h1 h2
       rw[if_pos hq,h1,h2,List.append_nil];exact⟨hq,rfl⟩
      ·rw[if_neg (fun h=>hq h.symm)] at h1 h2
       rw[if_neg hq,h1,h2];exact⟨rfl,rfl⟩
     have HM:Hid ((if (ll:Int)=(l2:Int) then 0 else (l2:Int).toNat+1)<(if (bb:Int)=(ll:Int) then 0 else (ll:Int).toNat+1)):=by
      show _<_;have h1:=HBL.out;have h2:=HLE.out;have e:(if (bb:Int)=(ll:Int) then 0 else (ll:Int).toNat+1)=(ll:Int).toNat+1:=if_neg (by omega)
      rw[e]
      split <;> omega
     by_cases hlt:k<pt.length
     ·have h0:l2=0:=Classical.byContradiction fun hne=>hfin ⟨hlt,hne⟩
      subst h0;clear hst hfin;go_wp2
      go_roundw
      case rel=>exact⟨ll,0,T2,rfl,rfl,hl2,hs2,HU2,hbt2,hi⟩
      case measure=>exact HM.out
     ·clear hst hfin
      go_wp2
      go_roundw
      case rel=>exact⟨ll,l2,T2,rfl,rfl,hl2,hs2,HU2,hbt2,hi⟩
      case measure=>exact HM.out
theorem Tryz.infoPart:(Tryz.prog.info? 136).map (fun i=>(i.zero,i.size,i.bytes))=some (some (.int .u64 0),1,8):=by kernel_rfl
theorem Tryz.underParts:Tryz.prog.underlying 139=some (.slice 136):=by kernel_rfl
theorem zKi (w:World) (z:Nat):∀(j:Nat) (u:Value),[Value.int .u64 (z:Int)][j]? = some u→(w.alloc (.cells #[.int .u64 (z:Int)] 136)).cell? ((⟨w.heap.size,0,none⟩:Addr).add j)=some u:=by
 intro j u hj
 match j,hj with
 | 0,hj=>simp at hj;subst hj;simp[Addr.add]
theorem zSX (N bs bm bc:Nat) (m:Mod) (con:Nat) (c:MCon) (vs cs sv:Value) (scope vals:List Int) (a:Nat) (out:List Nat) (w:World)
 (hc:m.cons[con]? = some c) (hce:conE vals.length c=0) (hvb:∀x∈vals,-50≤x∧x≤50) (hbud:out.length≤10000000)
 (hT:PtsS N bs bm bc m con vs cs sv scope vals out w) :
 Calls Tryz.prog 196 #[.int .i64 (scope.length:Int),.int .u64 (a:Int),.pointer (some ⟨bs,0,none⟩),.pointer (some ⟨bm,0,none⟩),.pointer (some ⟨bc,0,none⟩),.pointer (some ⟨N+1,0,none⟩),.pointer (some ⟨N+2,0,none⟩),.pointer (some ⟨N+3,0,none⟩)] w fun e w'=>e=.returned (.tuple #[]) ∧
  PtsS N bs bm bc m con vs cs sv scope vals (out++if zAR c vals then [a] else []) w'∧Below N w w':=by
 obtain⟨hma,hia,d0,d1,d2,d3,l0,l1,l2⟩:=hT.old;obtain⟨⟨av,cv,rfl,_,_⟩,⟨ac,cc,hcs,hmc,hrc⟩⟩:=hma;subst hcs;obtain⟨asv,csv,hsv,hms,_⟩:=hia;subst hsv;obtain⟨bb,off,vv,vc,vr,vl,hax,hbb,c0,c1,c2,c3,c4,c5,hK⟩:=hrc con c hc;subst hax;have HK:Hid (∀w':World,Below w.heap.size w w'→KArg w' vv vc vr vl c):=fun w' h=>KArg.below h hK
 have HVA:Hid (∀w':World,Below w.heap.size w w'→IArg w' (.slice (some ⟨N,0,none⟩) vals.length vals.length) vals):=fun w' h=>IArg.below h hT.vals_arg
 obtain⟨⟨q1,r1,h1,_,_⟩,⟨q2,r2,h2,_,_⟩,⟨q3,r3,h3,_,_⟩,⟨q4,r4,h4,_,_⟩⟩:=hK;subst h1;subst h2;subst h3;subst h4;have hcon:con<m.cons.length:=(List.getElem?_eq_some_iff.1 hc).1;have d4:=hT.2.2.2.1;have l4:N+1<w.heap.size:=by have:=hT.1;omega
 have HNL:Hid (N≤w.heap.size):=by have:=hT.1;exact (by omega:N≤w.heap.size)
 have HT:Hid (PtsS N bs bm bc m con (.slice av m.vars.length cv) (.slice (some ⟨bb,off,none⟩) m.cons.length cc) (.slice asv scope.length csv) scope vals out w):=hT;have HVB:Hid (∀x∈vals,-50≤x∧x≤50):=hvb;have HCE:Hid (conE vals.length c=0):=hce;unfold maxLen at hmc hms;obtain⟨hmc1,hmc⟩:=hmc;obtain⟨hms1,hms⟩:=hms;obtain⟨i0,hi,hz0,hz1,hz2⟩:=info_parts Tryz.infoPart;obtain⟨O,hO⟩:∃O,(out++if zAR c vals then [a] else [])=O:=⟨_,rfl⟩
 have HO:Hid ((out++if zAR c vals then [a] else [])=O):=hO
 rw[hO];clear hT hvb hce hrc hc hO;go_enter Tryz.func196,Tryz.ntmps196
 go_wp2_with fail
 go_region_held3 (fun w'=>Below w.heap.size w w'∧w'.cell? ⟨bm,1,none⟩=some (.slice (some ⟨bb,off,none⟩) m.cons.length cc)∧w'.cell? ⟨bc,0,none⟩=some (.int .i64 con)∧w'.cell? ⟨bb,off+con * 6,none⟩=some (.int .i64 c.kind)∧w'.cell? ⟨bb,off+con * 6+1,none⟩=some (.slice q1 c.vars.length r1)∧w'.cell? ⟨bb,off+con * 6+2,none⟩=some (.slice q2 c.consts.length r2)∧w'.cell? ⟨bb,off+con * 6+3,none⟩=some (.int .i64 c.n)∧w'.cell? ⟨bb,off+con * 6+4,none⟩=some (.slice q3 c.rows.length r3)∧w'.cell? ⟨bb,off+con * 6+5,none⟩=some (.slice q4 c.lits.length r4)∧w'.cell? ⟨N+1,0,none⟩=some (.slice (some ⟨N,0,none⟩) vals.length vals.length))
  ((refine (fun (hB:Below w.heap.size w _)=>⟨hB,(hB.cell (p:=⟨bm,1,none⟩) l1).trans d2,(hB.cell (p:=⟨bc,0,none⟩) l2).trans d3,(hB.cell (p:=⟨bb,off+con * 6,none⟩) hbb).trans c0,(hB.cell (p:=⟨bb,off+con * 6+1,none⟩) hbb).trans c1,(hB.cell (p:=⟨bb,off+con * 6+2,none⟩) hbb).trans c2,(hB.cell (p:=⟨bb,off+con * 6+3,none⟩) hbb).trans c3,(hB.cell (p:=⟨bb,off+con * 6+4,none⟩) hbb).trans c4,(hB.cell (p:=⟨bb,off+con * 6+5,none⟩) hbb).trans c5,(hB.cell (p:=⟨N+1,0,none⟩) l4).trans d4⟩:Below w.heap.size w _→_) ?_;first | exact (Below.refl _ _).drew | exact hbq))
  (first
    | (go_at_call 98;refine (zFg c vals _ _ _ _ _ _ (HK.out _ (Below.refl _ _).drew) (HVA.out _ (Below.refl _ _).drew) HCE.out HVB.out).mono ?_;rintro e w1 ⟨rfl,hbr⟩;have hbq:Below w.heap.size w w1:=⟨hbr.os,hbr.tape,hbr.output,hbr.size,hbr.block⟩))
 have HT1:Hid (PtsS N bs bm bc m con (.slice av m.vars.length cv) (.slice (some ⟨bb,off,none⟩) m.cons.length cc) (.slice asv scope.length csv) scope vals out w1):=HT.out.below hbq;have hbN:Below N w w1:=hbq.mono HNL.out;clear hbr hbq c0 c1 c2 c3 c4 c5 d0 d1 d2 d3 d4 l0 l1 l2 l4 hbb;cases hq:zAR c vals
 ·have HE:Hid (out=O):=by show _=_;have:=HO.out;rw[hq] at this;simpa using this
  clear hq;go_wp2
  (try simp only[Exit.inBlock,Exit.then])
  refine bodyPost_ret (results_none rfl _ _ _) rfl ?_;refine⟨rfl,?_,hbN⟩;rw[←HE.out];exact HT1.out
 ·have HE:Hid (out++[a]=O):=by show _=_;have:=HO.out;rw[hq] at this;simpa using this
  clear hq;obtain⟨hsz,_,_,_,_,ov,ho,hr⟩:=HT1.out;obtain⟨ax,cx,rfl⟩:=zAC hr;have hco:w1.cell? ⟨N+2,0,none⟩=some (.slice ax out.length cx):=ho.cellAt 0 (by omega)
  have hlo:N+2<w1.heap.size:=by omega
  go_wp2_with (at_builtin;refine wpList_append_own _ rfl _ _ 139 rfl (N+4) 136 i0 (.int .u64 0) 1 8 Tryz.underlying139 hi hz0 hz1 hz2 rfl (by decide) _ _ _ rfl (hr.alloc _) ⟨w1.heap.size,0,none⟩ 1 1 [.int .u64 (a:Int)] rfl rfl ?c1 ?c2 ?c3 ?c4 ?c5 ?_)
  case c1=>exact zKi w1 a
  case c2=>intro u hu;rcases List.mem_singleton.1 hu with rfl;rfl
  case c3=>unfold maxLen;omega
  case c4=>omega
  case c5=>simp;omega
  intro v3 w3 hown3 hgrow _;have hown4:w3.ownsRow (N+4) 136 1 v3 (out++[a]).length (u64s (out++[a])):=by
   unfold u64s;rw[List.length_append,List.map_append];exact hown3
  have HPUT:=(HT1.out.below (zAA _ _)).put (ho.alloc _) (hr.alloc _) hown4 hgrow;have HP:Hid (PtsS N bs bm bc m con (.slice av m.vars.length cv) (.slice (some ⟨bb,off,none⟩) m.cons.length cc) (.slice asv scope.length csv) scope vals (out++[a]) (w3.setCell ⟨N+2,0,none⟩ v3)):=HPUT.1;have HB4:Hid (Below N w (w3.setCell ⟨N+2,0,none⟩ v3)):=hbN.trans (((Below.refl _ _).alloc (by omega) _).trans HPUT.2)
  have ht3:w3.ownsRow N 139 1 (.slice (some ⟨N+2,0,none⟩) 1 1) 1 [.slice ax out.length cx]:=(ho.alloc _).kept hgrow (Or.inr (fun h=>by have:=(hr.lt (N+2) h.symm).1;omega))
  have hcB:w3.cell? ⟨N+2,0,none⟩=some (.slice ax out.length cx):=ht3.cellAt 0 (by omega)
  have hfB:w3.frozen? ⟨N+2,0,none⟩=false:=ht3.frozenAt 0;obtain⟨av',cv',rfl⟩:=zAC hown4;rw[show (out++[a]).length=out.length+1 by simp] at HP HB4
  clear hown3 hgrow hown4 hr ho hco ht3 HPUT;go_wp2
  (try simp only[Exit.inBlock,Exit.then])
  refine bodyPost_ret (results_none rfl _ _ _) rfl ?_;exact⟨rfl,by rw[←HE.out];exact HP.out,HB4.out⟩
end Go.Proofs.YtndcpnlaadikoaaGreatDoor
