/- What the proof leans on, part 14. -/
import Derived.Test.YtdjbejlbmaiocagGreatDoorPartAl
import Derived.Deep.RegionLaw
import Derived.Test.YtdjbejlbmaiocagGreatDoorPartAi
import Derived.Test.YtdjbejlbmaiocagGreatDoorPartAa
import Derived.Shelf.Spec.TrailingZeros
import Derived.Test.YtdjbejlbmaiocagGreatDoorPartAe
import Derived.Test.YtdjbejlbmaiocagGreatDoorPartAh
import Derived.Test.YtdjbejlbmaiocagGreatDoorPartAm
set_option maxRecDepth 100000
set_option maxHeartbeats 1600000
namespace Go.Proofs.YtdjbejlbmaiocagGreatDoor
open Go.RowKit
theorem zCa {w2 Y w3:World} {A:Prop} (h:Below w2.heap.size w2 Y∧A) (hb:Below Y.heap.size Y w3):Below w2.heap.size w2 w3:=h.1.trans (hb.mono h.1.size)
theorem zNs (vs:List MVar) (hva:zAW vs) (pts:List Nat) (h:Nat) (hh:h<2 ^ 36) (sv pv:Value) (w:World) (hv:VArg w sv vs) (hp:PArg w pv pts) :
 Calls Tryz.prog 126 #[sv,pv,.int .u64 h] w fun e w'=>e=.returned (.bool (zCy vs pts h))∧Below w.heap.size w w':=by
 have HV:Hid (∀w',Below w.heap.size w w'→VArg w' sv vs):=fun w' h=>VArg.below h hv
 have HP:Hid (∀w',Below w.heap.size w w'→PArg w' pv pts):=fun w' h=>PArg.below h hp
 have HVO:Hid (zAW vs):=hva;have HH:Hid (h<2 ^ 36):=hh;have H6:Hid (vs.length≤6):=hva.1.1;have HW36:Hid (zAD vs<2 ^ 36):=zGN vs hva.1 _;obtain⟨q,hq⟩:∃q,zAD vs=q:=⟨_,rfl⟩;obtain⟨r,hr⟩:∃r,zAL (zAD vs) h=r:=⟨_,rfl⟩;have HR36:Hid (r<2 ^ 36):=by rw[←hr];exact zCe 36 _ _ HW36.out
 have hbits:=zAm (zAD vs) h (by have:=HW36.out;omega) (by omega)
 rw[hr,hq] at hbits;have HQ:Hid (zAD vs=q):=hq;have HS:Hid (zCy vs pts h=(zCO vs.length r || !pts.any (zEc h))):=by show _=_;unfold zCy;rw[hr]
 rw[HS.out];have HWH:Hid (∀w',Below w.heap.size w w'→Calls Tryz.prog 183 #[sv] w' fun e w''=>e=.returned (.int .u64 (q:Int))∧Below w'.heap.size w' w''):=fun w' hb=>by
  rw[←HQ.out];exact zGZ vs HVO.out sv w' (HV.out w' hb)
 have HLA:Hid (∀w',Below w.heap.size w w'→Calls Tryz.prog 182 #[sv,.int .u64 r] w' fun e w''=>e=.returned (.bool (zCO vs.length r))∧Below w'.heap.size w' w''):=fun w' hb =>
  (zIH vs H6.out r HR36.out sv w' (HV.out w' hb)).mono fun e w'' ⟨h1,h2⟩=>⟨h1,by rw[h2];exact Below.refl _ _⟩
 have HCO:Hid (∀w',Below w.heap.size w w'→∀b1,w'.cell? ⟨b1,0,none⟩=some (.int .u64 h)→Calls Tryz.prog 184 #[pv,.func (.func 181) #[] #[.pointer (some ⟨b1,0,none⟩)]] w' fun e w''=>e=.returned (.bool (pts.any (zEc h)))∧Below w'.heap.size w' w''):=fun w' hb b1 hc =>
  (zII h HH.out b1 pts pv w' (HP.out w' hb) hc).mono fun e w'' ⟨h1,h2⟩=>⟨h1,by rw[h2];exact Below.refl _ _⟩
 obtain⟨a,c,rfl,_,_⟩:=hv;obtain⟨a2,c2,rfl,_,_⟩:=hp;clear hva hh hq hr;obtain⟨L,hL⟩:∃L,zCO vs.length r=L:=⟨_,rfl⟩;obtain⟨S,hS⟩:∃S,pts.any (zEc h)=S:=⟨_,rfl⟩;rw[hL] at HLA ⊢;rw[hS] at HCO ⊢;clear hL hS HS;go_enter Tryz.func126,Tryz.ntmps126
 go_wp2_with fail
 have HB0:Hid (Below w.heap.size w (w.alloc (.cells #[.int .u64 h] 183))):=zAA _ _;have k0:(w.alloc (.cells #[.int .u64 h] 183)).cell? ⟨w.heap.size,0,none⟩=some (.int .u64 h):=World.cell?_alloc_at _ _ _ 0 (by simp)
 have n0:w.heap.size<(w.alloc (.cells #[.int .u64 h] 183)).heap.size:=by simp
 obtain⟨W,hW⟩:∃W,w.alloc (.cells #[.int .u64 h] 183)=W:=⟨_,rfl⟩;rw[hW] at HB0 k0 n0 ⊢;clear hW;have HT:Hid (∀Y,Below W.heap.size W Y→Below w.heap.size w Y):=fun Y hY=>HB0.out.trans (hY.mono HB0.out.size)
 cases L
 ·go_region_held3 (fun w'=>Below W.heap.size W w'∧w'.cell? ⟨w.heap.size,0,none⟩=some (.int .u64 h))
   ((refine (fun (hB:Below W.heap.size W _)=>⟨hB,(hB.cell (p:=⟨w.heap.size,0,none⟩) n0).trans k0⟩:Below W.heap.size W _→_) ?_;first | exact (Below.refl _ _).drew | exact zCa (by assumption) hbq))
   (first
     | (go_at_call 183;refine (HWH.out _ (HT.out _ (show Below W.heap.size W _∧_ by assumption).1)).mono ?_;rintro e w3 ⟨rfl,hbq⟩;have hB3:=zCa (by assumption) hbq)
     | (go_at_call 182;refine (HLA.out _ (HT.out _ (show Below W.heap.size W _∧_ by assumption).1)).mono ?_;rintro e w3 ⟨rfl,hbq⟩;have hB3:=zCa (by assumption) hbq)
     | (go_at_call 184;refine (HCO.out _ (HT.out _ (show Below W.heap.size W _∧_ by assumption).1) _ (show Below W.heap.size W _∧_ by assumption).2).mono ?_;rintro e w3 ⟨rfl,hbq⟩;have hB3:=zCa (by assumption) hbq))
  have HB3:Hid (Below w.heap.size w w3):=HT.out _ hB3;go_wp2
  go_ret
  exact⟨zAC (by simp),HB3.out⟩
 ·have HS:Hid (∀Y,Below W.heap.size W Y→Below W.heap.size W Y∧Y.cell? ⟨w.heap.size,0,none⟩=some (.int .u64 h)):=fun Y hY=>⟨hY,(hY.cell (p:=⟨w.heap.size,0,none⟩) n0).trans k0⟩
  have hHeld:=HS.out W.drew (Below.refl _ _).drew;refine wp_region_held_drew (S:=fun Y=>Below W.heap.size W Y∧Y.cell? ⟨w.heap.size,0,none⟩=some (.int .u64 h)) (by kernel_rfl) hHeld (fun _=>?_)
  refine wpAnyH_take (i:=0) (v:=?v0) rfl (by kernel_rfl) (by kernel_rfl) (by kernel_rfl) (fun _ _ _ h=>h) (Or.inl ⟨by rfl,?y0⟩) hHeld ?r0
  case y0=>intro wq hSw;obtain⟨q0,q1⟩:=hSw;go_simp;with_reducible rfl
  refine wpAnyH_take (i:=1) (v:=?v1) rfl (by kernel_rfl) (by kernel_rfl) (by kernel_rfl) (fun _ _ _ h=>h) (Or.inl ⟨by rfl,?y1⟩) hHeld ?r1
  case y1=>intro wq hSw;obtain⟨q0,q1⟩:=hSw;go_simp;with_reducible rfl
  refine wpAnyH_take (i:=3) (v:=?v3) rfl (by kernel_rfl) (by kernel_rfl) (by kernel_rfl) (fun _ _ _ h=>h) (Or.inl ⟨by rfl,?y3⟩) hHeld ?r3
  case y3=>intro wq hSw;obtain⟨q0,q1⟩:=hSw;go_simp;with_reducible rfl
  refine wpAnyH_ready (rs:=[2]) (by kernel_rfl) (by simp) ?_
  refine AllReadyH.cons rfl (fun K hK=>?_) AllReadyH.nil
  go_simp
  refine (HWH.out _ (HT.out _ hHeld.1)).mono ?_;rintro e w2 ⟨rfl,hb2⟩;have hB2:Below W.heap.size W w2:=hHeld.1.trans hb2
  dsimp only
  have hHeld2:=HS.out w2 hB2;refine hK.out _ _ hHeld2 (fun _=>?_)
  clear hK;refine wpAnyH_take (i:=4) (v:=?v4) rfl (by kernel_rfl) (by kernel_rfl) (by kernel_rfl) (fun _ _ _ h=>h) (Or.inl ⟨by rfl,?y4⟩) hHeld2 ?r4
  case y4=>intro wq hSw;obtain⟨q0,q1⟩:=hSw;go_simp;with_reducible rfl
  refine wpAnyH_ready (rs:=[5]) (by kernel_rfl) (by simp) ?_
  refine AllReadyH.cons rfl (fun K hK=>?_) AllReadyH.nil
  go_simp
  refine (HLA.out _ (HT.out _ hHeld2.1)).mono ?_;rintro e w3 ⟨rfl,hb3⟩;have hB3:Below W.heap.size W w3:=hB2.trans (hb3.mono hB2.size)
  dsimp only
  have hHeld3:=HS.out w3 hB3;refine hK.out _ _ hHeld3 (fun _=>?_)
  clear hK;refine wpAnyH_take (i:=6) (v:=?v6) rfl (by kernel_rfl) (by kernel_rfl) (by kernel_rfl) (fun _ _ _ h=>h) (Or.inl ⟨by rfl,?y6⟩) hHeld3 ?r6
  case y6=>intro wq hSw;obtain⟨q0,q1⟩:=hSw;go_simp;with_reducible rfl
  refine wpAnyH_take (i:=7) rfl (by kernel_rfl) (by kernel_rfl) (by kernel_rfl) (fun _ _ _ h=>h) (Or.inr ⟨by rfl,rfl⟩) hHeld3 ?_
  refine wpAnyH_take (i:=8) rfl (by kernel_rfl) (by kernel_rfl) (by kernel_rfl) (fun _ _ _ h=>h) (Or.inr ⟨by rfl,rfl⟩) hHeld3 ?_
  refine wpAnyH_take (i:=9) rfl (by kernel_rfl) (by kernel_rfl) (by kernel_rfl) (fun _ _ _ h=>h) (Or.inr ⟨by rfl,rfl⟩) hHeld3 ?_
  refine wpAnyH_take (i:=10) rfl (by kernel_rfl) (by kernel_rfl) (by kernel_rfl) (fun _ _ _ h=>h) (Or.inr ⟨by rfl,rfl⟩) hHeld3 ?_
  refine wpAnyH_take (i:=11) (v:=?v11) rfl (by kernel_rfl) (by kernel_rfl) (by kernel_rfl) (fun _ _ _ h=>h) (Or.inl ⟨by rfl,?y11⟩) hHeld3 ?r11
  case y11=>intro wq hSw;obtain⟨q0,q1⟩:=hSw;go_simp;with_reducible rfl
  refine wpAnyH_take (i:=12) (v:=?v12) rfl (by kernel_rfl) (by kernel_rfl) (by kernel_rfl) (fun _ _ _ h=>h) (Or.inl ⟨by rfl,?y12⟩) hHeld3 ?r12
  case y12=>intro wq hSw;obtain⟨q0,q1⟩:=hSw;go_simp;with_reducible rfl
  refine wpAnyH_done (by kernel_rfl) ?_ _
  have HB3:Hid (Below w.heap.size w w3):=HT.out _ hB3;go_wp2
  go_ret
  exact⟨zAC (by simp),HB3.out⟩
def TabT (w:World):Prop:=TabAt 1 Lib.deBruijn64tab w
theorem TabT.below {w w':World} (h:TabT w) (hb:Below w.heap.size w w'):TabT w':=fun j hj=>by
 have:=h j hj;exact (hb.cell (World.block_lt_of_cell? w _ this)).trans this
theorem zQE (x k idx:Nat) (w:World) (hx0:((x:Int)==0)=false)
 (key:IntKind.u64.wrap (bits BinOp.and IntKind.u64 (x:Int) (IntKind.u64.wrap (-(x:Int))) * 285870213051353865) / 288230376151711744=(idx:Int))
 (hi:idx<64) (hk:k<64) (hcell:w.cell? ⟨1,idx,none⟩=some (.int .u8 k)) :
 Calls Tryz.prog 258 #[.int .u64 x] w fun e w'=>e=.returned (.int .i64 k)∧w'=w:=by
 go_enter Tryz.func258,Tryz.ntmps258
 go_wp2_with (simp only[key])
 go_ret
 exact⟨rfl,rfl⟩
theorem zQF (w:World):Calls Tryz.prog 258 #[.int .u64 0] w fun e w'=>e=.returned (.int .i64 64)∧w'=w:=by
 go_enter Tryz.func258,Tryz.ntmps258
 go_wp2
 go_ret
 exact⟨rfl,rfl⟩
theorem zNt (x:Nat) (hx:x<18446744073709551616) (w:World) (hT:TabT w) :
 Calls Tryz.prog 258 #[.int .u64 x] w fun e w'=>e=.returned (.int .i64 (Lib.ctz 64 x))∧w'=w:=by
 by_cases hx0:x=0
 ·subst hx0
  exact zQF w
 ·obtain⟨hlow,hk⟩:=Lib.lowest_bit 64 x hx0 hx
  obtain⟨hi,htab⟩:=Lib.deBruijn64_at _ hk;have hcell:=hT _ hi;rw[htab] at hcell;exact zQE x _ _ w (by simp;omega) (tz64_key x _ hx hx0 hlow) hi hk hcell
theorem zT9 (k:Nat) (hk:k<8):IntKind.u64.wrap (63 * 2 ^ (k * 6))=((63 * 2 ^ (6 * k):Nat):Int):=by
 rw[IntKind.wrap_u64,Nat.mul_comm k 6];have:(2:Nat) ^ (6 * k)≤2 ^ 42:=Nat.pow_le_pow_right (by omega) (by omega)
 have e:(63:Int) * ((2:Int) ^ (6 * k))=((63 * 2 ^ (6 * k):Nat):Int):=by simp
 rw[e];exact Int.emod_eq_of_lt (by omega) (by omega)
theorem zGa (p:Nat) (h0:p≠0) (hp:p<2 ^ 36) (w:World) (hT:TabT w) :
 Calls Tryz.prog 249 #[.int .u64 p] w fun e w'=>e=.returned (.int .u64 ((zAl p:Nat):Int))∧w'=w:=by
 have HT:Hid (TabT w):=hT;have hc:=(zFe p h0 hp).2;obtain⟨t,ht⟩:∃t,Lib.ctz 64 p=t:=⟨_,rfl⟩;have HC:Hid (Lib.ctz 64 p=t):=ht;rw[ht] at hc;have HF:Hid (zAl p=63 * 2 ^ (6 * (t / 6))):=by show _=_;unfold zAl;rw[ht]
 have hs:=zT9 (t / 6) (by omega)
 rw[HF.out];obtain⟨q,hq⟩:∃q,63 * 2 ^ (6 * (t / 6))=q:=⟨_,rfl⟩;rw[hq] at hs ⊢;have HP:Hid (p<2 ^ 36):=hp;clear hT ht hq hp h0;go_enter Tryz.func249,Tryz.ntmps249
 go_wp2_with fail
 refine (zNt p (by have:=HP.out;omega) _ HT.out).mono ?_
 rintro e w ⟨rfl,rfl⟩;rw[HC.out];go_wp2
 go_ret
 exact⟨zAE hs,rfl⟩
theorem zOi (cs:List Nat) (k c left:Nat) (h:cs[k]? = some c):zAp (cs.drop k) left=if left &&& c=0 then none
 else if zAL (left &&& c) (zAl (left &&& c))=0 then zAp (cs.drop (k+1)) (zAL left (zAL (zAl (left &&& c)) (left &&& c))) else zAp (cs.drop (k+1)) left:=by
 have hk:k<cs.length:=(List.getElem?_eq_some_iff.1 h).1;have hc:cs[k]=c:=by rw[List.getElem?_eq_getElem hk] at h;exact Option.some.inj h
 rw[List.drop_eq_getElem_cons hk,hc];rfl
theorem zNu (p:Nat) (h0:p≠0) (h:p<2 ^ 36):zAl p<2 ^ 36:=by
 have h1:=(zFe p h0 h).2;unfold zAl;have h2:2 ^ (6 * (Lib.ctz 64 p / 6))≤2 ^ 30:=Nat.pow_le_pow_right (by omega) (by omega)
 omega
theorem zSD {a b:Nat} (ha:a<2 ^ 36):a &&& b<2 ^ 36:=Nat.lt_of_le_of_lt Nat.and_le_left ha
theorem zGu {a b:Nat} (h:a=b):Ending.returned (.int .u64 (a:Int))=Ending.returned (.int .u64 (b:Int)):=by rw[h]
theorem zLE (vs:List MVar) (h6:vs.length≤6) (hn1:1≤vs.length) (cs:List Nat) (r:Nat) (hr36:r<2 ^ 36) (sv pv:Value) (w:World) (hv:VArg w sv vs) (hp:PArg w pv cs) (hT:TabT w) :
 Calls Tryz.prog 190 #[sv,pv,.int .u64 r] w fun e w'=>e=.returned (.int .u64 ((zAf vs cs r:Nat):Int))∧w'=w:=by
 have HV:Hid (VArg w sv vs):=hv;have HT:Hid (TabT w):=hT;have H6:Hid (vs.length≤6):=h6;have HR36:Hid (r<2 ^ 36):=hr36;obtain⟨R,hR⟩:∃R,zAf vs cs r=R:=⟨_,rfl⟩;have HS:Hid (R=if zCO vs.length r then 0 else zBQ cs (r+1) r):=by show _=_;rw[←hR];rfl
 rw[hR];have HR0:Hid (zCO vs.length r=false→r≠0):=fun h0 h1=>by
  rw[zNr vs.length r 0 (by omega) (by rw[h1];rfl)] at h0;cases h0
 obtain⟨a,c,rfl,_,_⟩:=hv;obtain⟨a2,c2,rfl,hm,hrp⟩:=hp;have HP:Hid (∀(i z:Nat),cs[i]? = some z→z<2 ^ 36∧∃b off,a2=some ⟨b,off,none⟩∧b<w.heap.size∧w.cell? ⟨b,off+i,none⟩=some (.int .u64 z)):=hrp;unfold maxLen at hm;obtain⟨hm1,hm⟩:=hm;clear hT hR hrp hn1 h6 hr36;go_enter Tryz.func190,Tryz.ntmps190
 go_wp2_with fail
 refine (zIH vs H6.out r HR36.out _ _ HV.out).mono ?_;rintro e w ⟨rfl,rfl⟩;obtain⟨L,hL⟩:∃L,zCO vs.length r=L:=⟨_,rfl⟩;rw[hL] at HS HR0 ⊢;clear hL;cases L
 ·have HS2:Hid (R=zBQ cs (r+1) r):=HS.out
  have HN0:Hid (r≠0):=HR0.out rfl;clear HS HR0;go_wp2_with fail
  go_loopw [7,8] (fun l b wr=>∃bb ll:Nat,l=.int .u64 (ll:Int)∧b=.int .u64 (bb:Int)∧Hid (ll<2 ^ 36)∧Hid (if bb=ll then R=ll else R=zBQ cs (ll+1) ll)∧wr=w) (fun l b _=>if intOf b=intOf l then 0 else (intOf l).toNat+1)
  case atStart=>exact⟨0,r,rfl,rfl,HR36,by show (if _ then _ else _);rw[if_neg (fun h=>HN0.out h.symm)];exact HS2.out,rfl⟩
  case round =>
   obtain⟨bb,ll,rfl,rfl,hl36,hst,rfl⟩:=hrel;by_cases hbl:bb=ll
   ·have HN:Hid (R=ll):=by have:=hst.out;rw[if_pos hbl] at this;exact this
    have hne:((bb:Int) != (ll:Int))=false:=by simp[hbl]
    clear hst hbl;go_wp2
    go_ret
    exact⟨zGu HN.out.symm,rfl⟩
   ·have HN:Hid (R=zBQ cs (ll+1) ll):=by have:=hst.out;rw[if_neg hbl] at this;exact this
    have HU:Hid (R=match zAp cs ll with
     | none=>0
     | some l=>if l=ll then ll else zBQ cs (l+1) l):=by show _=_;rw[HN.out];exact zJO cs ll
    have HBL:Hid (bb≠ll):=hbl;have hne:((bb:Int) != (ll:Int))=true:=by simp;omega
    clear hst hbl;go_wp2_with fail
    clear hne;go_loopw [7,23] (fun l i wx=>∃k l2:Nat,k≤cs.length∧i=.int .i64 k∧l=.int .u64 (l2:Int)∧Hid (l2<2 ^ 36)∧Hid (zAp cs ll=zAp (cs.drop k) l2)∧wx=wr) (fun _ i _=>cs.length - (intOf i).toNat)
    case atStart=>exact⟨0,ll,by omega,rfl,rfl,hl36,rfl,rfl⟩
    case round =>
     obtain⟨k,l2,hk,rfl,rfl,hl2,hrd,rfl⟩:=hrel;by_cases hlt:k<cs.length
     ·obtain⟨z,hz⟩:∃z,cs[k]? = some z:=⟨cs[k],by simp[hlt]⟩
      obtain⟨hz36,b,off,ha,hb,hc⟩:=HP.out k z hz;subst ha;have HZ:Hid (cs[k]? = some z):=hz;have HRC:Hid (zAp (cs.drop k) l2=if l2 &&& z=0 then none
       else if zAL (l2 &&& z) (zAl (l2 &&& z))=0 then zAp (cs.drop (k+1)) (zAL l2 (zAL (zAl (l2 &&& z)) (l2 &&& z))) else zAp (cs.drop (k+1)) l2):=zOi cs k z l2 hz
      have hand:=bits_and_u64_nat l2 z (by have:=hl2.out;omega) (by omega)
      obtain⟨o,ho⟩:∃o,l2 &&& z=o:=⟨_,rfl⟩;have HO36:Hid (o<2 ^ 36):=by rw[←ho];exact zSD hl2.out
      rw[ho] at hand HRC;clear hz hz36 ho;by_cases ho0:o=0
      ·have HE:Hid (R=0):=by show _=_;rw[HU.out,hrd.out,HRC.out,if_pos ho0]
       subst ho0;clear hrd hl2;go_wp2
       go_ret
       exact⟨zGu HE.out.symm,rfl⟩
      ·have HRC2:Hid (zAp (cs.drop k) l2=if zAL o (zAl o)=0 then zAp (cs.drop (k+1)) (zAL l2 (zAL (zAl o) o)) else zAp (cs.drop (k+1)) l2):=by show _=_;rw[HRC.out,if_neg ho0]
       have HO0:Hid (o≠0):=ho0;have ho1:((o:Int)==0)=false:=by simpa using ho0
       obtain⟨f,hf⟩:∃f,zAl o=f:=⟨_,rfl⟩;have HF36:Hid (f<2 ^ 36):=by rw[←hf];exact zNu o ho0 HO36.out
       have hnt:=zAm o f (by have:=HO36.out;omega) (by have:=HF36.out;omega)
       have HF:Hid (zAl o=f):=hf;rw[hf] at HRC2;obtain⟨g,hg⟩:∃g,zAL o f=g:=⟨_,rfl⟩;rw[hg] at hnt HRC2;clear ho0 hf hg HRC;by_cases hg0:g=0
       ·have hn2:=zAm f o (by have:=HF36.out;omega) (by have:=HO36.out;omega)
        obtain⟨t,ht⟩:∃t,zAL f o=t:=⟨_,rfl⟩;have HT36:Hid (t<2 ^ 36):=by rw[←ht];exact zCe 36 _ _ HF36.out
        have hn3:=zAm l2 t (by have:=hl2.out;omega) (by have:=HT36.out;omega)
        obtain⟨l3,hl3⟩:∃l3,zAL l2 t=l3:=⟨_,rfl⟩;have HL36:Hid (l3<2 ^ 36):=by rw[←hl3];exact zCe 36 _ _ hl2.out
        have HE:Hid (zAp cs ll=zAp (cs.drop (k+1)) l3):=by show _=_;rw[hrd.out,HRC2.out,if_pos hg0,ht,hl3]
        rw[ht] at hn2;rw[hl3] at hn3;subst hg0;clear hrd ht hl3 HRC2 hl2;go_wp2_with fail
        refine (zGa o HO0.out HO36.out _ HT.out).mono ?_;rintro e w ⟨rfl,rfl⟩;rw[HF.out];go_wp2
        go_roundw
        case rel=>exact⟨k+1,l3,by omega,by go_num,rfl,HL36,HE,trivial⟩
        case measure=>simp[intOf];omega
       ·have HE:Hid (zAp cs ll=zAp (cs.drop (k+1)) l2):=by show _=_;rw[hrd.out,HRC2.out,if_neg hg0]
        have hg1:((g:Int)==0)=false:=by simpa using hg0
        clear hrd hg0 HRC2;go_wp2_with fail
        refine (zGa o HO0.out HO36.out _ HT.out).mono ?_;rintro e w ⟨rfl,rfl⟩;rw[HF.out];go_wp2
        go_roundw
        case rel=>exact⟨k+1,l2,by omega,by go_num,rfl,hl2,HE,trivial⟩
        case measure=>simp[intOf];omega
     ·have hke:k=cs.length:=by omega
      have HE:Hid (zAp cs ll=some l2):=by show _=_;rw[hrd.out,hke,List.drop_length];rfl
      have HLE:Hid (l2≤ll):=zC1 cs ll l2 HE.out;have HU2:Hid (if ll=l2 then R=l2 else R=zBQ cs (l2+1) l2):=by
       show (if _ then _ else _)
       have:=HU.out;rw[HE.out] at this;simp only at this;by_cases hq:ll=l2
       ·rw[if_pos hq];rw[if_pos hq.symm] at this;rw[this];exact hq
       ·rw[if_neg hq];rw[if_neg (fun h=>hq h.symm)] at this;exact this
      have HM:Hid ((if (ll:Int)=(l2:Int) then 0 else (l2:Int).toNat+1)<(if (bb:Int)=(ll:Int) then 0 else (ll:Int).toNat+1)):=by
       show _<_;have h1:=HBL.out;have h2:=HLE.out;have e:(if (bb:Int)=(ll:Int) then 0 else (ll:Int).toNat+1)=(ll:Int).toNat+1:=if_neg (by omega)
       rw[e]
       split <;> omega
      clear hrd hke;go_wp2
      go_roundw
      case rel=>exact⟨ll,l2,rfl,rfl,hl2,HU2,trivial⟩
      case measure=>exact HM.out
 ·have HN:Hid (R=0):=HS.out
  go_wp2
  go_ret
  exact⟨zGu HN.out.symm,rfl⟩
theorem zLF (vs:List MVar) (hva:zAW vs) (hn1:1≤vs.length) (cs:List Nat) (h:Nat) (hh:h<2 ^ 36) (sv pv:Value) (w:World) (hv:VArg w sv vs) (hp:PArg w pv cs) (hT:TabT w) :
 Calls Tryz.prog 130 #[sv,pv,.int .u64 h] w fun e w'=>e=.returned (.bool (zDf vs cs h))∧Below w.heap.size w w':=by
 have HV:Hid (∀w',Below w.heap.size w w'→VArg w' sv vs):=fun w' h=>VArg.below h hv
 have HP:Hid (∀w',Below w.heap.size w w'→PArg w' pv cs):=fun w' h=>PArg.below h hp
 have HT:Hid (∀w',Below w.heap.size w w'→TabT w'):=fun w' h=>hT.below h
 have HVO:Hid (zAW vs):=hva;have H6:Hid (vs.length≤6):=hva.1.1;have H1:Hid (1≤vs.length):=hn1;have HW36:Hid (zAD vs<2 ^ 36):=zGN vs hva.1 _;obtain⟨q,hq⟩:∃q,zAD vs=q:=⟨_,rfl⟩;obtain⟨r,hr⟩:∃r,zAL (zAD vs) h=r:=⟨_,rfl⟩;have HR36:Hid (r<2 ^ 36):=by rw[←hr];exact zCe 36 _ _ HW36.out
 have hbits:=zAm (zAD vs) h (by have:=HW36.out;omega) (by omega)
 rw[hr,hq] at hbits;have HQ:Hid (zAD vs=q):=hq;obtain⟨R,hR⟩:∃R,zDf vs cs h=R:=⟨_,rfl⟩;have HS:Hid (R=(((zAf vs cs r:Nat):Int)==0)):=by
  show _=_;rw[←hR];unfold zDf;rw[hr];by_cases h0:zAf vs cs r=0
  ·rw[h0];rfl
  ·have h1:(((zAf vs cs r:Nat):Int)==0)=false:=by simpa using h0
   rw[h1];simpa using h0
 rw[hR];obtain⟨a,c,rfl,_,_⟩:=hv;obtain⟨a2,c2,rfl,_,_⟩:=hp;clear hva hh hq hr hT hR hn1;go_enter Tryz.func130,Tryz.ntmps130
 go_wp2_with fail
 refine (zGZ vs HVO.out _ _ (HV.out _ (Below.refl _ _))).mono ?_;rintro e w1 ⟨rfl,hb1⟩;rw[HQ.out];have HB1:Hid (Below w.heap.size w w1):=hb1;clear hb1;go_wp2_with fail
 refine (zLE vs H6.out H1.out cs r HR36.out _ _ _ (HV.out _ HB1.out) (HP.out _ HB1.out) (HT.out _ HB1.out)).mono ?_;rintro e w1 ⟨rfl,rfl⟩;obtain⟨U,hU⟩:∃U:Int,((zAf vs cs r:Nat):Int)=U:=⟨_,rfl⟩;rw[hU] at HS ⊢;clear hU;go_wp2
 go_ret
 exact⟨zAC HS.out.symm,HB1.out⟩
def zFA (w:World) (v:Value) (l:List Cla):Prop :=
 ∃a c,v=.slice a l.length c∧(l.length≤c∧c≤maxLen)∧∀(i:Nat) (t:Cla),l[i]? = some t→∃b off x,a=some ⟨b,off,none⟩∧b<w.heap.size∧w.cell? ⟨b,off+i,none⟩=some x∧LArg w x t
theorem zFA.below {w w':World} {v:Value} {l:List Cla} (hb:Below w.heap.size w w') (h:zFA w v l):zFA w' v l:=by
 obtain⟨a,c,hv,hm,hr⟩:=h;refine⟨a,c,hv,hm,fun i z hz=>?_⟩
 obtain⟨b,off,x,ha,hlt,hc,hx⟩:=hr i z hz;exact⟨b,off,x,ha,Nat.lt_of_lt_of_le hlt hb.size,(hb.cell (p:=⟨b,off+i,none⟩) hlt).trans hc,LArg.below hb hx⟩
theorem zQG (vs:List MVar) (l:MLit) (v:Value) (w:World) (hv:VArg w v vs) :
 Calls Tryz.prog 180 #[v,.agg #[.int .i64 l.var,.int .i64 l.op,.int .i64 l.n]] w fun e w'=>e=.returned (.int .i64 (litE vs l))∧Below w.heap.size w w':=by
 obtain⟨a,c,rfl,hm,_⟩:=hv;unfold maxLen at hm;obtain⟨hm1,hm⟩:=hm;obtain⟨R,hR⟩:∃R,litE vs l=R:=⟨_,rfl⟩;rw[hR];unfold litE at hR;by_cases q1:l.var<0
 ·have HE:Hid (R=5):=by rw[←hR,if_pos (Or.inl q1)];rfl
  clear hR;go_enter Tryz.func180,Tryz.ntmps180
  go_wp2
  go_ret
  exact⟨zAE HE.out.symm,zAA _ _⟩
 by_cases q2:(vs.length:Int)≤l.var
 ·have HE:Hid (R=5):=by rw[←hR,if_pos (Or.inr q2)];rfl
  clear hR;go_enter Tryz.func180,Tryz.ntmps180
  go_wp2
  go_ret
  exact⟨zAE HE.out.symm,zAA _ _⟩
 rw[if_neg (by omega)] at hR
 by_cases q3:l.op<1
 ·have HE:Hid (R=7):=by rw[←hR,if_pos (Or.inl q3)];rfl
  clear hR;go_enter Tryz.func180,Tryz.ntmps180
  go_wp2
  go_ret
  exact⟨zAE HE.out.symm,zAA _ _⟩
 by_cases q4:4<l.op
 ·have HE:Hid (R=7):=by rw[←hR,if_pos (Or.inr q4)];rfl
  clear hR;go_enter Tryz.func180,Tryz.ntmps180
  go_wp2
  go_ret
  exact⟨zAE HE.out.symm,zAA _ _⟩
 rw[if_neg (by omega)] at hR
 by_cases q5:l.n < -1000
 ·have HE:Hid (R=3):=by rw[←hR,if_pos (Or.inl q5)];rfl
  clear hR;go_enter Tryz.func180,Tryz.ntmps180
  go_wp2
  go_ret
  exact⟨zAE HE.out.symm,zAA _ _⟩
 by_cases q6:1000<l.n
 ·have HE:Hid (R=3):=by rw[←hR,if_pos (Or.inr q6)];rfl
  clear hR;go_enter Tryz.func180,Tryz.ntmps180
  go_wp2
  go_ret
  exact⟨zAE HE.out.symm,zAA _ _⟩
 have HE:Hid (R=0):=by rw[←hR,if_neg (by omega)];rfl
 clear hR;go_enter Tryz.func180,Tryz.ntmps180
 go_wp2
 go_ret
 exact⟨zAE HE.out.symm,zAA _ _⟩
theorem zLG (vs:List MVar) (c:Cla) (v u:Value) (w:World) (hv:VArg w v vs) (hu:LArg w u c) :
 Calls Tryz.prog 125 #[v,u] w fun e w'=>e=.returned (.int .i64 (claE vs c))∧Below w.heap.size w w':=by
 have HVA:Hid (∀w':World,Below w.heap.size w w'→VArg w' v vs):=fun w' h=>VArg.below h hv
 obtain⟨a1,c1,rfl,_,_⟩:=hv;obtain⟨a,cc,rfl,hm,hr⟩:=hu;have HV:Hid (∀(i:Nat) (t:MLit),c[i]? = some t→∃b off,a=some ⟨b,off,none⟩∧b<w.heap.size ∧
  w.cell? ⟨b,off+i * 3,none⟩=some (.int .i64 t.var)∧w.cell? ⟨b,off+i * 3+1,none⟩=some (.int .i64 t.op)∧w.cell? ⟨b,off+i * 3+2,none⟩=some (.int .i64 t.n)):=hr
 unfold maxLen at hm;obtain⟨hm1,hm⟩:=hm;obtain⟨R,hR⟩:∃R,claE vs c=R:=⟨_,rfl⟩;rw[hR];have HE:Hid (R=if 40<c.length then 2 else zAQ (c.map (litE vs))):=by rw[←hR];rfl
 clear hR hr;by_cases h40:40<c.length
 ·have HN:Hid (R=2):=by rw[HE.out,if_pos h40];rfl
  go_enter Tryz.func125,Tryz.ntmps125
  go_wp2
  go_ret
  exact⟨zAE HN.out.symm,Below.refl _ _⟩
 ·have HE2:Hid (R=zAQ (c.map (litE vs))):=by rw[HE.out,if_neg h40];rfl
  go_enter Tryz.func125,Tryz.ntmps125
  go_wp2_with fail
  go_loopw [13] (fun i wr=>∃k:Nat,k≤c.length∧i=.int .i64 k∧Hid (zAQ ((c.map (litE vs)).take k)=0)∧Below w.heap.size w wr) (fun i _=>c.length - (intOf i).toNat)
  case atStart=>exact⟨0,by omega,rfl,rfl,Below.refl _ _⟩
  case round =>
   obtain⟨k,hk,rfl,hall,hbw⟩:=hrel;by_cases hlt:k<c.length
   ·obtain⟨t,hz⟩:∃z,c[k]? = some z:=⟨c[k],by simp[hlt]⟩
    obtain⟨b,off,ha,hb,q0,q1,q2⟩:=HV.out k t hz;have hc0:=(hbw.cell (p:=⟨b,off+k * 3,none⟩) hb).trans q0;have hc1:=(hbw.cell (p:=⟨b,off+k * 3+1,none⟩) hb).trans q1;have hc2:=(hbw.cell (p:=⟨b,off+k * 3+2,none⟩) hb).trans q2;have hsz:=hbw.size;subst ha;obtain⟨er,her⟩:∃er,litE vs t=er:=⟨_,rfl⟩;have HER:Hid (litE vs t=er):=her;have HZ:Hid ((c.map (litE vs))[k]? = some er):=by show _=_;rw[List.getElem?_map,hz,←her];rfl
    clear hz q0 q1 q2 her;go_wp2_with fail
    refine (zQG vs t _ _ ?_).mono ?_
    ·exact HVA.out _ (hbw.alloc hsz _)
    rintro e w2 ⟨rfl,hb2⟩;rw[HER.out];have hB2:Below w.heap.size w w2:=(hbw.alloc hsz _).trans (hb2.mono (by simp;omega))
    clear hb2;by_cases he:er=0
    ·subst he
     have HN:Hid (zAQ ((c.map (litE vs)).take (k+1))=0):=zCB _ k hall.out HZ.out;go_wp2
     go_roundw
     case rel=>exact⟨k+1,by omega,by go_num,HN,hB2⟩
     case measure=>simp[intOf];omega
    ·have HN:Hid (R=er):=by rw[HE2.out];exact zB2 _ k er hall.out HZ.out he
     have he2:(er != 0)=true:=by simpa using he
     clear he;go_wp2
     go_ret
     exact⟨zAE HN.out.symm,hB2⟩
   ·have HN:Hid (R=0):=by
     have:=hall.out;rw[List.take_of_length_le (by simp;omega)] at this
     rw[HE2.out];exact this
    go_wp2
    go_ret
    exact⟨zAE HN.out.symm,hbw⟩
theorem zOj (vs:List MVar) (l:List Cla) (v u:Value) (w:World) (hv:VArg w v vs) (hu:zFA w u l) :
 Calls Tryz.prog 129 #[v,u] w fun e w'=>e=.returned (.int .i64 (zFm vs l))∧Below w.heap.size w w':=by
 have HVA:Hid (∀w':World,Below w.heap.size w w'→VArg w' v vs):=fun w' h=>VArg.below h hv
 obtain⟨a1,c1,rfl,_,_⟩:=hv;obtain⟨a,cc,rfl,hm,hr⟩:=hu;have HV:Hid (∀(i:Nat) (t:Cla),l[i]? = some t→∃b off x,a=some ⟨b,off,none⟩∧b<w.heap.size∧w.cell? ⟨b,off+i,none⟩=some x∧LArg w x t):=hr;unfold maxLen at hm;obtain⟨hm1,hm⟩:=hm;obtain⟨R,hR⟩:∃R,zFm vs l=R:=⟨_,rfl⟩;rw[hR];have HE:Hid (R=if 600<l.length then 2 else zAQ (l.map (claE vs))):=by rw[←hR];rfl
 clear hR hr;by_cases h40:600<l.length
 ·have HN:Hid (R=2):=by rw[HE.out,if_pos h40];rfl
  go_enter Tryz.func129,Tryz.ntmps129
  go_wp2
  go_ret
  exact⟨zAE HN.out.symm,Below.refl _ _⟩
 ·have HE2:Hid (R=zAQ (l.map (claE vs))):=by rw[HE.out,if_neg h40];rfl
  go_enter Tryz.func129,Tryz.ntmps129
  go_wp2_with fail
  go_loopw [13] (fun i wr=>∃k:Nat,k≤l.length∧i=.int .i64 k∧Hid (zAQ ((l.map (claE vs)).take k)=0)∧Below w.heap.size w wr) (fun i _=>l.length - (intOf i).toNat)
  case atStart=>exact⟨0,by omega,rfl,rfl,Below.refl _ _⟩
  case round =>
   obtain⟨k,hk,rfl,hall,hbw⟩:=hrel;by_cases hlt:k<l.length
   ·obtain⟨t,hz⟩:∃z,l[k]? = some z:=⟨l[k],by simp[hlt]⟩
    obtain⟨b,off,x,ha,hb,q0,hx⟩:=HV.out k t hz;have HX:Hid (LArg wr x t):=LArg.below hbw hx;obtain⟨a5,c5,rfl,_,_⟩:=hx;have hc0:=(hbw.cell (p:=⟨b,off+k,none⟩) hb).trans q0;subst ha;obtain⟨er,her⟩:∃er,claE vs t=er:=⟨_,rfl⟩;have HER:Hid (claE vs t=er):=her;have HZ:Hid ((l.map (claE vs))[k]? = some er):=by show _=_;rw[List.getElem?_map,hz,←her];rfl
    clear hz q0 her;go_wp2_with fail
    refine (zLG vs t _ _ _ (HVA.out _ hbw) HX.out).mono ?_;rintro e w2 ⟨rfl,hb2⟩;rw[HER.out];have hB2:Below w.heap.size w w2:=hbw.trans (hb2.mono hbw.size);clear hb2;by_cases he:er=0
    ·subst he
     have HN:Hid (zAQ ((l.map (claE vs)).take (k+1))=0):=zCB _ k hall.out HZ.out;go_wp2
     go_roundw
     case rel=>exact⟨k+1,by omega,by go_num,HN,hB2⟩
     case measure=>simp[intOf];omega
    ·have HN:Hid (R=er):=by rw[HE2.out];exact zB2 _ k er hall.out HZ.out he
     have he2:(er != 0)=true:=by simpa using he
     clear he;go_wp2
     go_ret
     exact⟨zAE HN.out.symm,hB2⟩
   ·have HN:Hid (R=0):=by
     have:=hall.out;rw[List.take_of_length_le (by simp;omega)] at this
     rw[HE2.out];exact this
    go_wp2
    go_ret
    exact⟨zAE HN.out.symm,hbw⟩
theorem zQH (m:Mod) (hm:zAF m=0) (c:Cla):zAH m.vars c<2 ^ 36:=zGN m.vars (zAg m hm) _
theorem Tryz.infoPartP:(Tryz.prog.info? 183).map (fun i=>(i.zero,i.size,i.bytes))=some (some (.int .u64 0),1,8):=by kernel_rfl
theorem zQI (w:World) (n base:Nat) (hn:n≤100000) (hb:base≤w.heap.size):(w.alloc (.cells (madeCells #[.int .u64 0] n) 183)).ownsRow base 183 1 (.slice (some ⟨w.heap.size,0,none⟩) n n) n (List.replicate n (.int .u64 0)):=by
 refine⟨by simp,Or.inr ⟨w.heap.size,n,_,rfl,hb,heap_alloc_new w _,Nat.le_refl _,by unfold maxLen;omega,?_,?_⟩⟩
 ·have h:=congrArg List.length (toList_madeCells_one (.int .u64 0) n)
  simp at h;simpa using h
 ·rw[toList_madeCells_one]
  simp
theorem zQJ (m:Mod) (hm:zAF m=0) (l:List Cla) (hl6:l.length≤600) (vs cs u:Value) (w:World) (hma:MArg w vs cs m) (hu:zFA w u l) :
 Calls Tryz.prog 131 #[modV vs cs m,u] w fun e w'=>∃x,e=.returned x∧w'.ownsRow (w.heap.size+1) 183 1 x l.length (u64s (l.map (zAH m.vars)))∧Below w.heap.size w w':=by
 have HMA:Hid (∀w',Below w.heap.size w w'→MArg w' vs cs m):=fun w' h=>MArg.below h hma
 have HM:Hid (zAF m=0):=hm;have hmk:=run_make_row' (P:=Tryz.prog) 180 183 (.int .u64 0) 8 Tryz.underParts Tryz.infoPartP rfl .i64 .i64 l.length (by omega) (by omega)
 obtain⟨⟨a1,c1,rfl,_,_⟩,⟨a2,c2,rfl,_,_⟩⟩:=hma;obtain⟨a3,c3,rfl,hm3,hr3⟩:=hu;have HR3:Hid (∀(i:Nat) (t:Cla),l[i]? = some t→∃b off x,a3=some ⟨b,off,none⟩∧b<w.heap.size∧w.cell? ⟨b,off+i,none⟩=some x∧LArg w x t):=hr3;unfold maxLen at hm3;obtain⟨hm31,hm3⟩:=hm3;unfold modV;clear hm hr3;go_enter Tryz.func131,Tryz.ntmps131
 go_wp2_with fail
 clear hmk;have HB0:Hid (Below w.heap.size w ((w.alloc (.cells #[.slice a1 m.vars.length c1,.slice a2 m.cons.length c2,.int .i64 m.goal,.int .i64 m.var] 25)).alloc (.cells (madeCells #[.int .u64 0] l.length) 183))):=(zAA _ _).alloc (by simp) _
 have HQ0:Hid (((w.alloc (.cells #[.slice a1 m.vars.length c1,.slice a2 m.cons.length c2,.int .i64 m.goal,.int .i64 m.var] 25)).alloc (.cells (madeCells #[.int .u64 0] l.length) 183)).cell? ⟨w.heap.size,0,none⟩=some (.slice a1 m.vars.length c1)) :=
  (World.cell?_alloc_past _ _ _ (by simp)).trans (World.cell?_alloc_at _ _ _ 0 (by simp))
 have HO0:Hid (((w.alloc (.cells #[.slice a1 m.vars.length c1,.slice a2 m.cons.length c2,.int .i64 m.goal,.int .i64 m.var] 25)).alloc (.cells (madeCells #[.int .u64 0] l.length) 183)).ownsRow (w.heap.size+1) 183 1 (.slice (some ⟨w.heap.size+1,0,none⟩) l.length l.length) l.length (List.replicate l.length (.int .u64 0))):=by
  have h:=zQI (w.alloc (.cells #[.slice a1 m.vars.length c1,.slice a2 m.cons.length c2,.int .i64 m.goal,.int .i64 m.var] 25)) l.length (w.heap.size+1) (by omega) (by simp)
  show World.ownsRow _ _ _ _ _ _ _;simpa using h
 have HS0:Hid (((w.alloc (.cells #[.slice a1 m.vars.length c1,.slice a2 m.cons.length c2,.int .i64 m.goal,.int .i64 m.var] 25)).alloc (.cells (madeCells #[.int .u64 0] l.length) 183)).heap.size=w.heap.size+2):=by show _=_;simp
 obtain⟨W,hW⟩:∃W,(w.alloc (.cells #[.slice a1 m.vars.length c1,.slice a2 m.cons.length c2,.int .i64 m.goal,.int .i64 m.var] 25)).alloc (.cells (madeCells #[.int .u64 0] l.length) 183)=W:=⟨_,rfl⟩;rw[hW] at HB0 HQ0 HO0 HS0 ⊢;clear hW;go_loopw [13] (fun i wr=>∃(k:Nat) (cells:List Value),k≤l.length∧i=.int .i64 k∧wr.ownsRow (w.heap.size+1) 183 1 (.slice (some ⟨w.heap.size+1,0,none⟩) l.length l.length) l.length cells∧Hid (∀j c,j<k→l[j]? = some c→cells[j]? = some (.int .u64 ((zAH m.vars c:Nat):Int)))∧Below (w.heap.size+1) W wr) (fun i _=>l.length - (intOf i).toNat)
 case atStart=>exact⟨0,_,by omega,rfl,HO0.out,fun j c h=>by omega,Below.refl _ _⟩
 case round =>
  obtain⟨k,cells,hk,rfl,hown,hall,hbw⟩:=hrel;have HOW:Hid (wr.ownsRow (w.heap.size+1) 183 1 (.slice (some ⟨w.heap.size+1,0,none⟩) l.length l.length) l.length cells):=hown;have HBW:Hid (Below (w.heap.size+1) W wr):=hbw;have HBN:Hid (Below w.heap.size w wr):=HB0.out.trans (hbw.mono (by omega))
  have hq0:=(hbw.cell (p:=⟨w.heap.size,0,none⟩) (by simp only;omega)).trans HQ0.out
  clear hown hbw;by_cases hlt:k<l.length
  ·obtain⟨c,hc⟩:∃c,l[k]? = some c:=⟨l[k],by simp[hlt]⟩
   obtain⟨b,off,x,hax,hb,hcc0,hxa⟩:=HR3.out k c hc;subst hax;have hcc:=(HBN.out.cell (p:=⟨b,off+k,none⟩) hb).trans hcc0;have HXA:Hid (LArg wr x c):=LArg.below HBN.out hxa;obtain⟨ax,cx,rfl,_,_⟩:=hxa;have HCK:Hid (l[k]? = some c):=hc;have hlen:cells.length=l.length:=by have:=HOW.out.1;omega
   have HLEN:Hid (cells.length=l.length):=hlen;clear hc hlen hcc0 hb;obtain⟨wo,rfl⟩:∃wo:World,wo=wr:=⟨_,rfl⟩;go_wp2_with fail
   refine (zEL m.vars (zDY m HM.out) c _ _ _ (HMA.out _ HBN.out).1 HXA.out).mono ?_;rintro e w1 ⟨rfl,hb1⟩;have HOW1:Hid (w1.ownsRow (w.heap.size+1) 183 1 (.slice (some ⟨w.heap.size+1,0,none⟩) l.length l.length) l.length cells):=zAG HOW.out hb1;have HBW1:Hid (Below (w.heap.size+1) W w1):=HBW.out.trans (hb1.mono (by have:=HBW.out.size;have:=HS0.out;omega))
   obtain⟨y,hy⟩:∃y,cells[k]? = some y:=⟨cells[k]'(by rw[HLEN.out];exact hlt),by simp⟩
   have cN:w1.cell? ⟨w.heap.size+1,k,none⟩=some y:=by rw[HOW1.out.cellAt k (by omega)];exact hy
   have zN:=HOW1.out.frozenAt k;have HST:Hid ((w1.setCell ⟨w.heap.size+1,k,none⟩ (.int .u64 ((zAH m.vars c:Nat):Int))).ownsRow (w.heap.size+1) 183 1 (.slice (some ⟨w.heap.size+1,0,none⟩) l.length l.length) l.length (cells.set k (.int .u64 ((zAH m.vars c:Nat):Int)))):=(HOW1.out.stored k _).1;have HBS:Hid (Below (w.heap.size+1) W (w1.setCell ⟨w.heap.size+1,k,none⟩ (.int .u64 ((zAH m.vars c:Nat):Int)))):=HBW1.out.setCell (show w.heap.size+1≤w.heap.size+1 from Nat.le_refl _) _
   have HAL:Hid (∀j d,j<k+1→l[j]? = some d→(cells.set k (.int .u64 ((zAH m.vars c:Nat):Int)))[j]? = some (.int .u64 ((zAH m.vars d:Nat):Int))):=by
    intro j d hj hd;by_cases hjk:j=k
    ·subst hjk
     rw[HCK.out] at hd;cases hd
     rw[List.getElem?_set_self (by rw[HLEN.out];exact hlt)]
    ·rw[List.getElem?_set_ne (fun h=>hjk h.symm)]
     exact hall.out j d (by omega) hd
   have hlN:w.heap.size+1<w1.heap.size:=by have:=(HOW1.out.lt (w.heap.size+1) rfl).2;exact this
   clear hy hb1 hq0;go_wp2
   go_roundw
   case rel=>exact⟨k+1,_,by omega,by go_num,HST.out,HAL,HBS.out⟩
   case measure=>simp[intOf];omega
  ·have hke:k=l.length:=by omega
   have HE:Hid (cells=u64s (l.map (zAH m.vars))):=by
    show _=_;have hlen:cells.length=l.length:=by have:=HOW.out.1;omega
    apply List.ext_getElem?;intro j;by_cases hj:j<l.length
    ·rw[hall.out j l[j] (by omega) (by simp[hj])]
     unfold u64s;simp[hj]
    ·rw[List.getElem?_eq_none (by omega),List.getElem?_eq_none (by unfold u64s;simp;omega)]
   have HF:Hid (wr.ownsRow (w.heap.size+1) 183 1 (.slice (some ⟨w.heap.size+1,0,none⟩) l.length l.length) l.length (u64s (l.map (zAH m.vars)))):=by rw[←HE.out];exact HOW.out
   clear hke hq0;go_wp2
   go_ret
   exact⟨_,rfl,HF.out,HBN.out⟩
theorem zSE (m:Mod) (hm:zAF m=0) (l:List Cla):∀z∈l.map (zAH m.vars),z<2 ^ 36:=by
 intro z hz;obtain⟨c,_,rfl⟩:=List.mem_map.1 hz;exact zQH m hm c
end Go.Proofs.YtdjbejlbmaiocagGreatDoor
