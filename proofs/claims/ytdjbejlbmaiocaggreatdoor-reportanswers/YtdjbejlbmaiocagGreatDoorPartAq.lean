/- What the proof leans on, part 17. -/
import Derived.Test.YtdjbejlbmaiocagGreatDoorPartAp
import Derived.Test.YtdjbejlbmaiocagGreatDoorPartAn
import Derived.Test.YtdjbejlbmaiocagGreatDoorPartAo
import Derived.Test.YtdjbejlbmaiocagGreatDoorPartAb
import Derived.Test.YtdjbejlbmaiocagGreatDoorPartAm
import Derived.Deep.RegionLaw
import Derived.Deep.CutBlock
set_option maxRecDepth 100000
set_option maxHeartbeats 3200000
namespace Go.Proofs.YtdjbejlbmaiocagGreatDoor
open Go.RowKit
structure RulesAt (w:World) (r:Nat) (sv pv cv:Value) (vs:List MVar) (pt:List (List Nat)) (cs:List Nat):Prop where
 lt:r<w.heap.size
 c0:w.cell? ⟨r,0,none⟩=some sv
 c1:w.cell? ⟨r,1,none⟩=some pv
 c2:w.cell? ⟨r,2,none⟩=some cv
 hv:VArg w sv vs
 hp:zGA w pv pt
 hc:PArg w cv cs
 tab:TabT w
theorem RulesAt.below {w w':World} {r:Nat} {sv pv cv:Value} {vs:List MVar} {pt:List (List Nat)} {cs:List Nat} (hb:Below w.heap.size w w') (h:RulesAt w r sv pv cv vs pt cs):RulesAt w' r sv pv cv vs pt cs :=
 ⟨Nat.lt_of_lt_of_le h.lt hb.size,(hb.cell (p:=⟨r,0,none⟩) h.lt).trans h.c0,(hb.cell (p:=⟨r,1,none⟩) h.lt).trans h.c1,(hb.cell (p:=⟨r,2,none⟩) h.lt).trans h.c2,VArg.below hb h.hv,zGA.below hb h.hp,PArg.below hb h.hc,h.tab.below hb⟩
structure Teller (F:Nat) (caps:Array Value) (vs:List MVar) (pt:List (List Nat)) (I:List (Nat×Nat×Nat)→World→Prop):Prop where
 enters:∀(args:Array Value) (w':World),Sem.run Tryz.prog (callFunc F args) w'=.ok (.enter F args) w'
 below:∀T w w',I T w→Below w.heap.size w w'→I T w'
 call:∀(T:List (Nat×Nat×Nat)) (con b a:Nat) (w:World),I T w→T.length≤36→con<pt.length→(∀i,b.testBit i=true→(zAD vs).testBit i=true)→(∀i,a.testBit i=true→b.testBit i=true) →
  Calls Tryz.prog F (#[.int .i64 con,.int .u64 b,.int .u64 a]++caps) w fun e w'=>e=.returned (.tuple #[])∧I (T++[(con,b,a)]) w'
theorem zQO {pt:List (List Nat)} {k l:Nat} {pts:List Nat} (h:pt[k]? = some pts):zBC (pt.drop k) l=(if l=0 then l else zBC (pt.drop (k+1)) (zBd pts l)) ∧
 zEE k (pt.drop k) l=if l=0 then [] else (if zBd pts l=l then [] else [(k,l,zBd pts l)])++zEE (k+1) (pt.drop (k+1)) (zBd pts l):=by
 have hk:k<pt.length:=(List.getElem?_eq_some_iff.1 h).1;have hc:pt[k]=pts:=by rw[List.getElem?_eq_getElem hk] at h;exact Option.some.inj h
 rw[List.drop_eq_getElem_cons hk,hc];exact⟨rfl,rfl⟩
theorem zLL (pt:List (List Nat)) (k:Nat):zBC pt 0=0∧zEE k pt 0=[]:=by
 cases pt <;> exact⟨rfl,rfl⟩
theorem zJn (vs:List MVar) (hva:zAW vs) (hn1:1≤vs.length) (cs:List Nat) (pt:List (List Nat)) (h:Nat) (hh:h<2 ^ 36) (r:Nat) (sv pv cv:Value) (F:Nat) (caps:Array Value)
 (I:List (Nat×Nat×Nat)→World→Prop) (hF:Teller F caps vs pt I) (hR:∀T w,I T w→RulesAt w r sv pv cv vs pt cs) (w:World) (hI:I [] w) :
 Calls Tryz.prog 191 #[.pointer (some ⟨r,0,none⟩),.int .u64 h,.func (.func F) #[] caps] w fun e w'=>e=.returned (.int .u64 ((zBe vs cs pt h:Nat):Int))∧I (zH4 vs cs pt h) w':=by
 have HF:Hid (Teller F caps vs pt I):=hF;have HRU:Hid (∀T w,I T w→RulesAt w r sv pv cv vs pt cs):=hR;have HI:Hid (I [] w):=hI;have HVO:Hid (zAW vs):=hva;have H6:Hid (vs.length≤6):=hva.1.1;have H1:Hid (1≤vs.length):=hn1;have HW36:Hid (zAD vs<2 ^ 36):=zGN vs hva.1 _;obtain⟨q,hq⟩:∃q,zAD vs=q:=⟨_,rfl⟩;obtain⟨l0,hl0⟩:∃l0,zAL (zAD vs) h=l0:=⟨_,rfl⟩;have HSUB:Hid (∀i,l0.testBit i=true→(zAD vs).testBit i=true):=fun i hi=>by
  rw[←hl0,zAR,Bool.and_eq_true] at hi;exact hi.1
 have HL36:Hid (l0<2 ^ 36):=by rw[←hl0];exact zCe 36 _ _ HW36.out
 have hbits:=zAm (zAD vs) h (by have:=HW36.out;omega) (by omega)
 rw[hl0,hq] at hbits;have HQ:Hid (zAD vs=q):=hq;obtain⟨R,hRR⟩:∃R,zBe vs cs pt h=R:=⟨_,rfl⟩;obtain⟨TT,hTT⟩:∃TT,zH4 vs cs pt h=TT:=⟨_,rfl⟩;have HS:Hid (if 0=l0 then R=l0∧TT=[] else R=zBW vs cs pt (l0+1) l0∧TT=[]++zCF vs cs pt (l0+1) l0):=by
  show (if _ then _ else _)
  rw[←hRR,←hTT];unfold zBe zH4;rw[hl0];by_cases h0:l0=0
  ·rw[if_pos h0.symm,if_pos h0,if_pos h0];exact⟨h0.symm,rfl⟩
  ·rw[if_neg (fun e=>h0 e.symm),if_neg h0,if_neg h0];exact⟨rfl,rfl⟩
 rw[hRR,hTT];have hRA:=hR [] w hI;have g0:=hRA.c0;have g1:=hRA.c1;have g2:=hRA.c2;have HRA:Hid (RulesAt w r sv pv cv vs pt cs):=hRA;obtain⟨a,c,rfl,_,_⟩:=hRA.hv;obtain⟨a1,c1,rfl,hm,_⟩:=hRA.hp;obtain⟨a2,c2,rfl,_,_⟩:=hRA.hc;unfold maxLen at hm;obtain⟨hm1,hm⟩:=hm;clear hF hR hI hva hn1 hh hq hl0 hRR hTT hRA;go_enter Tryz.func191,Tryz.ntmps191
 go_wp2_with fail
 refine (zGZ vs HVO.out _ _ HRA.out.hv).mono ?_;rintro e w1 ⟨rfl,hb1⟩;rw[HQ.out];have HI1:Hid (I [] w1):=HF.out.below _ _ _ HI.out hb1;clear hb1 g0 g1 g2 HI HRA;go_wp2_with fail
 go_loopw [7,8] (fun l b wr=>∃(bb ll:Nat) (T:List (Nat×Nat×Nat)),l=.int .u64 (ll:Int)∧b=.int .u64 (bb:Int)∧Hid (ll<2 ^ 36)∧Hid (∀i,ll.testBit i=true→(zAD vs).testBit i=true)∧Hid (if bb=ll then R=ll∧TT=T else R=zBW vs cs pt (ll+1) ll∧TT=T++zCF vs cs pt (ll+1) ll)∧Hid (T.length+zF7 ll≤36)∧Hid (I T wr)) (fun l b _=>if intOf b=intOf l then 0 else (intOf l).toNat+1)
 case atStart=>exact⟨0,l0,[],rfl,rfl,HL36,HSUB,HS,by show _≤_;have:=zMa l0;simpa using this,HI1⟩
 case round =>
  obtain⟨bb,ll,T,rfl,rfl,hl36,hls,hst,hbt,hi⟩:=hrel;by_cases hbl:bb=ll
  ·have HN:Hid (R=ll∧TT=T):=by have:=hst.out;rw[if_pos hbl] at this;exact this
   have hne:((bb:Int) != (ll:Int))=false:=by simp[hbl]
   clear hst hbl;go_wp2
   go_ret
   exact⟨zGu HN.out.1.symm,by rw[HN.out.2];exact hi.out⟩
  ·obtain⟨U,hU⟩:∃U,zAf vs cs ll=U:=⟨_,rfl⟩
   have HUE:Hid (zAf vs cs ll=U):=hU;have HN:Hid (R=(if zBC pt U=ll then ll else zBW vs cs pt (zBC pt U+1) (zBC pt U))∧TT=T++(zEE 0 pt U++if zBC pt U=ll then [] else zCF vs cs pt (zBC pt U+1) (zBC pt U))):=by
    show _∧_;have h1:=hst.out;rw[if_neg hbl] at h1;have h2:=zMY vs cs pt ll hl36.out;rw[hU] at h2;rw[h1.1,h1.2,h2.1,h2.2];exact⟨rfl,rfl⟩
   have HUL:Hid (U≤ll):=by rw[←hU];exact zDq vs cs ll
   have HUS:Hid (∀i,U.testBit i=true→(zAD vs).testBit i=true):=fun i hx=>hls.out i (zDh vs cs ll i (by rw[hU];exact hx))
   have HUB:Hid (T.length+zF7 U≤36):=by have h1:=hbt.out;have h2:=zNk U ll (fun i hx=>zDh vs cs ll i (by rw[hU];exact hx));show _≤_;omega
   have HU36:Hid (U<2 ^ 36):=by have:=HUL.out;have:=hl36.out;show _<_;omega
   have HBL:Hid (bb≠ll):=hbl;have hne:((bb:Int) != (ll:Int))=true:=by simp;omega
   have hRA:=HRU.out T wr hi.out;have g0:=hRA.c0;have g2:=hRA.c2;have gl:=hRA.lt;have HUN:Hid (∀Y,Below wr.heap.size wr Y→Calls Tryz.prog 190 #[.slice a (List.length vs) c,.slice a2 (List.length cs) c2,.int .u64 (ll:Int)] Y fun e w'=>e=.returned (.int .u64 (U:Int))∧Below Y.heap.size Y w'):=fun Y hY=>by
    rw[←HUE.out];have hRY:=RulesAt.below hY (HRU.out T wr hi.out);exact (zLE vs H6.out H1.out cs ll hl36.out _ _ _ hRY.hv hRY.hc hRY.tab).mono fun _ _ ⟨h1,h2⟩=>⟨h1,by rw[h2];exact Below.refl _ _⟩
   clear hst hbl hU hRA;go_upto_region 5 with (fail)
   clear hne;go_region_held3 (fun w'=>Below wr.heap.size wr w'∧w'.cell? ⟨r,0,none⟩=some (.slice a (List.length vs) c)∧w'.cell? ⟨r,2,none⟩=some (.slice a2 (List.length cs) c2))
    ((refine (fun (hB:Below wr.heap.size wr _)=>⟨hB,(hB.cell (p:=⟨r,0,none⟩) gl).trans g0,(hB.cell (p:=⟨r,2,none⟩) gl).trans g2⟩:Below wr.heap.size wr _→_) ?_;first | exact (Below.refl _ _).drew | exact zCa (by assumption) hbq))
    (first
      | (go_at_call 190;refine (HUN.out _ (show Below wr.heap.size wr _∧_ by assumption).1).mono ?_;rintro e w3 ⟨rfl,hbq⟩;have hB3:=zCa (by assumption) hbq))
   have HI3:Hid (I T w3):=HF.out.below _ _ _ hi.out hB3;clear hbq hB3 g0 g2 gl hi;go_wp2_with fail
   go_loopw [7,9] (fun l i wx=>∃(k l2:Nat) (T2:List (Nat×Nat×Nat)),k≤pt.length∧i=.int .i64 k∧l=.int .u64 (l2:Int)∧Hid (l2<2 ^ 36)∧Hid (∀i,l2.testBit i=true→(zAD vs).testBit i=true)∧Hid (zBC pt U=zBC (pt.drop k) l2∧T++zEE 0 pt U=T2++zEE k (pt.drop k) l2)∧Hid (T2.length+zF7 l2≤36)∧Hid (I T2 wx)) (fun _ i _=>pt.length - (intOf i).toNat)
   case atStart=>exact⟨0,U,T,by omega,rfl,rfl,HU36,HUS,⟨rfl,rfl⟩,HUB,HI3⟩
   case round =>
    obtain⟨k,l2,T2,hk,rfl,rfl,hl2,hs2,hst,hbt2,hi⟩:=hrel;have hRA:=HRU.out T2 wr hi.out;have HRA:Hid (RulesAt wr r _ _ _ vs pt cs):=hRA;have g0:=hRA.c0;have g1:=hRA.c1;by_cases hfin:k<pt.length∧l2≠0
    ·obtain⟨hlt,hl0⟩:=hfin
     obtain⟨pts,hpts⟩:∃pts,pt[k]? = some pts:=⟨pt[k],by simp[hlt]⟩
     obtain⟨a5,c5,he5,_,hr5⟩:=hRA.hp;obtain⟨b,off,x,ha5,hb5,hc5,hx5⟩:=hr5 k pts hpts;have HX5:Hid (PArg wr x pts):=hx5;obtain⟨a6,c6,rfl,_,_⟩:=hx5;rw[ha5] at he5;have HST:=zQO (l:=l2) hpts;rw[if_neg hl0,if_neg hl0] at HST;obtain⟨A,hA⟩:∃A,zBd pts l2=A:=⟨_,rfl⟩;have HAE:Hid (zBd pts l2=A):=hA;have HAL:Hid (A≤l2):=by rw[←hA];exact zF5 pts l2 hl2.out
     have HAS:Hid (∀i,A.testBit i=true→l2.testBit i=true):=fun i hx=>zEt pts l2 i hl2.out (by rw[hA];exact hx)
     have HAB:Hid (T2.length+zF7 A≤36):=by have h1:=hbt2.out;have h2:=zNk A l2 HAS.out;show _≤_;omega
     have HTL:Hid (T2.length≤36):=by have h1:=hbt2.out;show _≤_;omega
     have HAN:Hid (A≠l2→(T2++[(k,l2,A)]).length+zF7 A≤36):=fun hq=>by have h1:=hbt2.out;have h2:=zK2 A l2 hl2.out HAS.out hq;rw[List.length_append];simp;omega
     have HA36:Hid (A<2 ^ 36):=by have:=HAL.out;have:=hl2.out;show _<_;omega
     rw[hA] at HST;have HST2:Hid (zBC pt U=zBC (pt.drop (k+1)) A∧T++zEE 0 pt U=T2++((if A=l2 then [] else [(k,l2,A)])++zEE (k+1) (pt.drop (k+1)) A)):=by
      have h1:=hst.out;rw[HST.1,HST.2] at h1;exact h1
     injection he5 with he5 _ _
     subst he5;have hl0':((l2:Int) != 0)=true:=by simpa using hl0
     have hz2:Hid (∀i,A.testBit i=true→(zAD vs).testBit i=true):=fun i hx=>hs2.out i (HAS.out i hx)
     clear HST hA hst hr5 hRA hpts hl0;go_wp2_with fail
     refine (zQN pts l2 hl2.out _ _ HX5.out HRA.out.tab).mono ?_;rintro e wr ⟨rfl,rfl⟩;rw[HAE.out];by_cases hAl:A=l2
     ·have HN2:Hid (zBC pt U=zBC (pt.drop (k+1)) A∧T++zEE 0 pt U=T2++zEE (k+1) (pt.drop (k+1)) A):=by
       have h1:=HST2.out;rw[if_pos hAl,List.nil_append] at h1;exact h1
      have hne:((A:Int) != (l2:Int))=false:=by simp[hAl]
      clear HST2 hAl;go_wp2
      go_roundw
      case rel=>exact⟨k+1,A,T2,by omega,by go_num,rfl,HA36,hz2,HN2,HAB,hi⟩
      case measure=>simp[intOf];omega
     ·have HN2:Hid (zBC pt U=zBC (pt.drop (k+1)) A∧T++zEE 0 pt U=(T2++[(k,l2,A)])++zEE (k+1) (pt.drop (k+1)) A):=by
       have h1:=HST2.out;rw[if_neg hAl,←List.append_assoc] at h1;exact h1
      have hne:((A:Int) != (l2:Int))=true:=by simp;omega
      have HAN2:Hid ((T2++[(k,l2,A)]).length+zF7 A≤36):=HAN.out hAl;clear HST2 hAl;have HCL:Hid (Calls Tryz.prog F (#[.int .i64 k,.int .u64 l2,.int .u64 A]++caps) wr fun e w'=>e=.returned (.tuple #[])∧I (T2++[(k,l2,A)]) w'):=HF.out.call T2 k l2 A wr hi.out HTL.out hlt hs2.out HAS.out
      go_wp2_with fail
      rw[HF.out.enters,Oper.upon_enter];refine HCL.out.mono ?_;rintro e w4 ⟨rfl,hi4⟩;have HI4:Hid (I (T2++[(k,l2,A)]) w4):=hi4;clear hi4 g0 g1 hc5 HCL;go_wp2
      go_roundw
      case rel=>exact⟨k+1,A,T2++[(k,l2,A)],by omega,by go_num,rfl,HA36,hz2,HN2,HAN2,HI4⟩
      case measure=>simp[intOf];omega
    ·have HE:Hid (zBC pt U=l2∧T++zEE 0 pt U=T2):=by
      have h1:=hst.out;by_cases hlt:k<pt.length
      ·have h0:l2=0:=Classical.byContradiction fun hne=>hfin ⟨hlt,hne⟩
       rw[h0,(zLL _ k).1,(zLL _ k).2,List.append_nil] at h1;rw[h0];exact h1
      ·rw[show k=pt.length by omega,List.drop_length] at h1
       obtain⟨h2,h3⟩:=h1;have e:T2++zEE pt.length [] l2=T2:=by simp[zEE]
       rw[e] at h3;exact⟨h2,h3⟩
     have HLE:Hid (l2≤ll):=by
      rw[←HE.out.1];exact Nat.le_trans (zGQ pt U HU36.out) HUL.out
     have HU2:Hid (if ll=l2 then R=l2∧TT=T2 else R=zBW vs cs pt (l2+1) l2∧TT=T2++zCF vs cs pt (l2+1) l2):=by
      show (if _ then _ else _)
      obtain⟨h1,h2⟩:=HN.out;rw[←List.append_assoc,HE.out.2] at h2;rw[HE.out.1] at h1 h2;by_cases hq:ll=l2
      ·rw[if_pos hq.symm] at h1 h2
       rw[if_pos hq,h1,h2,List.append_nil];exact⟨hq,rfl⟩
      ·rw[if_neg (fun h=>hq h.symm)] at h1 h2
       rw[if_neg hq,h1,h2];exact⟨rfl,rfl⟩
     have HM:Hid ((if (ll:Int)=(l2:Int) then 0 else (l2:Int).toNat+1)<(if (bb:Int)=(ll:Int) then 0 else (ll:Int).toNat+1)):=by
      show _<_;have h1:=HBL.out;have h2:=HLE.out;have e:(if (bb:Int)=(ll:Int) then 0 else (ll:Int).toNat+1)=(ll:Int).toNat+1:=if_neg (by omega)
      rw[e]
      split <;> omega
     by_cases hlt:k<pt.length
     ·have h0:l2=0:=Classical.byContradiction fun hne=>hfin ⟨hlt,hne⟩
      subst h0;clear hst hfin;go_wp2
      go_roundw
      case rel=>exact⟨ll,0,T2,rfl,rfl,hl2,hs2,HU2,hbt2,hi⟩
      case measure=>exact HM.out
     ·clear hst hfin
      go_wp2
      go_roundw
      case rel=>exact⟨ll,l2,T2,rfl,rfl,hl2,hs2,HU2,hbt2,hi⟩
      case measure=>exact HM.out
structure Fr (X:Nat→Prop) (w w':World):Prop where
 os:w'.os=w.os
 tape:w'.tape=w.tape
 output:w'.output=w.output
 size:w.heap.size≤w'.heap.size
 block:∀k,k<w.heap.size→¬X k→w'.heap[k]? = w.heap[k]?
theorem Fr.refl (X:Nat→Prop) (w:World):Fr X w w:=⟨rfl,rfl,rfl,Nat.le_refl _,fun _ _ _=>rfl⟩
theorem Fr.trans {X:Nat→Prop} {a b c:World} (h:Fr X a b) (k:Fr X b c):Fr X a c :=
 ⟨k.os.trans h.os,k.tape.trans h.tape,k.output.trans h.output,Nat.le_trans h.size k.size,fun i hi hx=>(k.block i (Nat.lt_of_lt_of_le hi h.size) hx).trans (h.block i hi hx)⟩
theorem Fr.below {X:Nat→Prop} {w w':World} (h:Below w.heap.size w w'):Fr X w w':=⟨h.os,h.tape,h.output,h.size,fun k hk _=>h.block k hk⟩
theorem Fr.cell {X:Nat→Prop} {w w':World} (h:Fr X w w') {p:Addr} (hp:p.block<w.heap.size) (hx:¬X p.block):w'.cell? p=w.cell? p:=World.cell?_of_block (w:=w) (h.block p.block hp hx)
theorem Fr.setX {X:Nat→Prop} {a w:World} (h:Fr X a w) {p:Addr} (hp:X p.block) (u:Value):Fr X a (w.setCell p u) :=
 ⟨h.os,h.tape,h.output,by simpa using h.size,fun k hk hx=>(Below.heap_setCell _ _ _ _ (fun e=>hx (by rw[e];exact hp))).trans (h.block k hk hx)⟩
theorem Fr.setNew {X:Nat→Prop} {a w:World} (h:Fr X a w) {p:Addr} (hp:a.heap.size≤p.block) (u:Value):Fr X a (w.setCell p u) :=
 ⟨h.os,h.tape,h.output,by simpa using h.size,fun k hk hx=>(Below.heap_setCell _ _ _ _ (by omega)).trans (h.block k hk hx)⟩
theorem Fr.alloc {X:Nat→Prop} {a w:World} (h:Fr X a w) (o:Obj):Fr X a (w.alloc o):=h.trans (Fr.below (zAA _ _))
theorem blk9 {w:World} {b:Nat} {cs:Array Value} {t:TypeId} (h:w.heap[b]? = some (.cells cs t)) (i:Nat) (v:Value) (hv:cs[i]? = some v):w.cell? ⟨b,i,none⟩=some v:=by
 rw[Lib.cell_of_heap h];exact hv
theorem frz9 {w:World} {b:Nat} {cs:Array Value} {t:TypeId} (h:w.heap[b]? = some (.cells cs t)) (i:Nat):w.frozen? ⟨b,i,none⟩=false:=by
 unfold World.frozen?;simp only[h];simp
theorem zAu {w:World} {B:Nat} {e t:TypeId} {size n:Nat} {v:Value} {xs:List Value} (h:w.ownsRow B e size v n xs) {C:Nat} {cs:Array Value} (hC:w.heap[C]? = some (.cells cs t)) (ht:t≠e) (i:Nat) (u:Value):(w.setCell ⟨C,i,none⟩ u).ownsRow B e size v n xs:=by
 refine⟨h.1,?_⟩;rcases h.2 with hn | ⟨g,cap,cur,hv,hg,hh,r⟩
 ·exact .inl hn
 ·have hne:g≠C:=by
   intro e1;rw[e1,hC] at hh
   injection hh with h1
   injection h1 with _ h2
   exact ht h2
  exact .inr ⟨g,cap,cur,hv,hg,(Below.heap_setCell _ _ _ _ hne).trans hh,r⟩
theorem Fr.weak {X Y:Nat→Prop} {w w':World} (h:Fr X w w') (hXY:∀k,X k→Y k):Fr Y w w':=⟨h.os,h.tape,h.output,h.size,fun k hk hx=>h.block k hk fun hX=>hx (hXY k hX)⟩
theorem Fr.grown {X:Nat→Prop} {a w w':World} {row:Option Nat} (h:Fr X a w) (hg:w.grownBy w' row) (hr:∀k,row=some k→X k∨a.heap.size≤k):Fr X a w' :=
 ⟨hg.os.trans h.os,hg.tape.trans h.tape,hg.output.trans h.output,Nat.le_trans h.size hg.size,fun k hk hx=>(hg.block k (Nat.lt_of_lt_of_le hk h.size) (fun e=>(hr k e.symm).elim hx (fun h2=>by omega))).trans (h.block k hk hx)⟩
theorem Fr.toBelow {w w':World} (h:Fr (fun k=>w.heap.size≤k) w w'):Below w.heap.size w w':=⟨h.os,h.tape,h.output,h.size,fun k hk=>h.block k hk (by omega)⟩
theorem zFN {w:World} {B B':Nat} {e e':TypeId} {s s' n n':Nat} {v v':Value} {xs xs':List Value} (h:w.ownsRow B e s v n xs) (h':w.ownsRow B' e' s' v' n' xs') (hne:e≠e'):v.ownBlock=none∨v.ownBlock≠v'.ownBlock:=by
 rcases h.2 with ⟨rfl,_⟩ | ⟨g,cap,cur,rfl,hg,hh,_⟩
 ·exact Or.inl rfl
 ·right
  intro he;rcases h'.2 with ⟨rfl,_⟩ | ⟨g',cap',cur',rfl,hg',hh',_⟩
  ·cases he
  ·have:g=g':=by injection he
   subst this;rw[hh] at hh'
   injection hh' with h1
   injection h1 with _ h2
   exact hne h2
theorem zBb {w w':World} {B B':Nat} {e e':TypeId} {s s' n n':Nat} {v v':Value} {xs xs':List Value} (h:w.ownsRow B e s v n xs) (hg:w.grownBy w' v'.ownBlock) (h':w.ownsRow B' e' s' v' n' xs') (hne:e≠e'):w'.ownsRow B e s v n xs :=
 h.kept hg (zFN h h' hne)
theorem zA6 {w w':World} {B:Nat} {e:TypeId} {s n:Nat} {v:Value} {xs:List Value} {r:Nat} {cs:Array Value} {t:TypeId} (h:w.heap[r]? = some (.cells cs t)) (hg:w.grownBy w' v.ownBlock) (h':w.ownsRow B e s v n xs) (hne:t≠e):w'.heap[r]? = some (.cells cs t):=by
 have hlt:r<w.heap.size:=(Array.getElem?_eq_some_iff.1 h).1;refine (hg.block r hlt ?_).trans h
 ·intro he
  rcases h'.2 with ⟨rfl,_⟩ | ⟨g,cap,cur,rfl,_,hh,_⟩
  ·cases he
  ·have:g=r:=by injection he with e1;exact e1.symm
   subst this;rw[hh] at h
   injection h with h1
   injection h1 with _ h2
   exact hne h2.symm
theorem Tryz.infoPts:(Tryz.prog.info? 180).map (fun i=>(i.zero,i.size,i.bytes))=some (some (.slice none 0 0),1,24):=by kernel_rfl
theorem Tryz.underPts:Tryz.prog.underlying 198=some (.slice 180):=by kernel_rfl
theorem Tryz.underPart:Tryz.prog.underlying 180=some (.slice 183):=by kernel_rfl
def PRow (B:Nat) (w:World) (pv:Value) (L:List (List Nat)):Prop :=
 ∃cells,w.ownsRow B 180 1 pv L.length cells∧∀(i:Nat) (pts:List Nat),L[i]? = some pts→∃x,cells[i]? = some x∧w.ownsRow B 183 1 x pts.length (u64s pts)
theorem PRow.below {B:Nat} {w w':World} {pv:Value} {L:List (List Nat)} (h:PRow B w pv L) (hb:Below w.heap.size w w'):PRow B w' pv L:=by
 obtain⟨cells,h1,h2⟩:=h;refine⟨cells,zAG h1 hb,fun i pts hi=>?_⟩
 obtain⟨x,h3,h4⟩:=h2 i pts hi;exact⟨x,h3,zAG h4 hb⟩
theorem zGv {X:Nat→Prop} {w w':World} {B:Nat} {e:TypeId} {s n:Nat} {v:Value} {xs:List Value} (h:w.ownsRow B e s v n xs) (hf:Fr X w w') (hx:∀g,v.ownBlock=some g→¬X g):w'.ownsRow B e s v n xs:=by
 refine⟨h.1,?_⟩;rcases h.2 with hn | ⟨g,cap,cur,hv,hg,hh,r⟩
 ·exact .inl hn
 ·exact .inr ⟨g,cap,cur,hv,hg,(hf.block g (Array.getElem?_eq_some_iff.1 hh).1 (hx g (by rw[hv];rfl))).trans hh,r⟩
theorem PRow.fr {X:Nat→Prop} {B:Nat} {w w':World} {pv:Value} {L:List (List Nat)} (h:PRow B w pv L) (hf:Fr X w w') (hx:∀g,X g→g<B):PRow B w' pv L:=by
 obtain⟨cells,h1,h2⟩:=h;refine⟨cells,zGv h1 hf (fun g hg hX=>?_),fun i pts hi=>?_⟩
 ·have:=(h1.lt g hg).1
  have:=hx g hX;omega
 ·obtain⟨x,h3,h4⟩:=h2 i pts hi
  refine⟨x,h3,zGv h4 hf (fun g hg hX=>?_)⟩
  have:=(h4.lt g hg).1;have:=hx g hX;omega
theorem PRow.arg {B:Nat} {w:World} {pv:Value} {L:List (List Nat)} (h:PRow B w pv L) (hl:∀pts∈L,∀z∈pts,z<2 ^ 36):zGA w pv L:=by
 obtain⟨cells,h1,h2⟩:=h;rcases h1.2 with ⟨rfl,hn⟩ | ⟨g,cap,cur,rfl,hg,hh,hc1,hc2,_,_⟩
 ·have:L=[]:=List.eq_nil_of_length_eq_zero hn
  subst this;exact⟨none,0,rfl,⟨Nat.le_refl _,Nat.zero_le _⟩,fun i z hz=>by simp at hz⟩
 ·refine⟨_,cap,rfl,⟨hc1,hc2⟩,fun i pts hi=>?_⟩
  obtain⟨x,h3,h4⟩:=h2 i pts hi;have hil:i<L.length:=(List.getElem?_eq_some_iff.1 hi).1;exact⟨g,0,x,rfl,(Array.getElem?_eq_some_iff.1 hh).1,by rw[Nat.zero_add,h1.cellAt i (by omega)];exact h3,zEh h4 (hl pts (List.mem_of_getElem? hi))⟩
theorem PRow.push {B:Nat} {w w':World} {pv v' x:Value} {L:List (List Nat)} {cells:List Value} {pts:List Nat} {n:Nat} (hc:w.ownsRow B 180 1 pv L.length cells) (h2:∀(i:Nat) (p:List Nat),L[i]? = some p→∃x,cells[i]? = some x∧w.ownsRow B 183 1 x p.length (u64s p))
 (hx:w.ownsRow B 183 1 x pts.length (u64s pts)) (hg:w.grownBy w' pv.ownBlock) (hn:n=L.length+1) (ho:w'.ownsRow B 180 1 v' n (cells++[x])):PRow B w' v' (L++[pts]):=by
 have hcl:cells.length=L.length:=by have:=hc.1;omega
 refine⟨cells++[x],by rw[List.length_append];rw[hn] at ho;exact ho,fun i p hi=>?_⟩
 by_cases hil:i<L.length
 ·rw[List.getElem?_append_left hil] at hi
  obtain⟨y,h3,h4⟩:=h2 i p hi;exact⟨y,by rw[List.getElem?_append_left (by omega)];exact h3,zBb h4 hg hc (by decide)⟩
 ·have hlen:=(List.getElem?_eq_some_iff.1 hi).1
  rw[List.length_append] at hlen;have:i=L.length:=by simp at hlen;omega
  subst this;rw[List.getElem?_append_right (Nat.le_refl _),Nat.sub_self] at hi;have:pts=p:=by simpa using hi
  subst this;exact⟨x,by rw[List.getElem?_append_right (by omega),hcl,Nat.sub_self];rfl,zBb hx hg hc (by decide)⟩
structure Rul (W:World) (r:Nat) (sv pv:Value) (vs:List MVar) (pt:List (List Nat)):Prop where
 lt:r<W.heap.size
 keep:∀w',Fr (fun k=>k=r) W w'→VArg w' sv vs∧zGA w' pv pt∧TabT w'
structure RulD (W w:World) (r:Nat) (sv pv cv:Value) (cs:List Nat):Prop where
 blk:w.heap[r]? = some (.cells #[sv,pv,cv] 204)
 own:w.ownsRow W.heap.size 183 1 cv cs.length (u64s cs)
 lt36:∀z∈cs,z<2 ^ 36
 fr:Fr (fun k=>k=r) W w
theorem RulD.at {W w:World} {r:Nat} {sv pv cv:Value} {vs:List MVar} {pt:List (List Nat)} {cs:List Nat} (h:RulD W w r sv pv cv cs) (hr:Rul W r sv pv vs pt):RulesAt w r sv pv cv vs pt cs :=
 ⟨(Array.getElem?_eq_some_iff.1 h.blk).1,blk9 h.blk 0 _ rfl,blk9 h.blk 1 _ rfl,blk9 h.blk 2 _ rfl,(hr.keep w h.fr).1,(hr.keep w h.fr).2.1,zEh h.own h.lt36,(hr.keep w h.fr).2.2⟩
theorem RulD.below {W w w':World} {r:Nat} {sv pv cv:Value} {cs:List Nat} (h:RulD W w r sv pv cv cs) (hb:Below w.heap.size w w'):RulD W w' r sv pv cv cs :=
 ⟨(hb.block r (Array.getElem?_eq_some_iff.1 h.blk).1).trans h.blk,zAG h.own hb,h.lt36,h.fr.trans (Fr.below hb)⟩
theorem zJo (w:World) (z:Nat):∀(j:Nat) (u:Value),([Value.int .u64 (z:Int)]:List Value)[j]? = some u→(w.alloc (.cells #[.int .u64 (z:Int)] 183)).cell? ((⟨w.heap.size,0,none⟩:Addr).add j)=some u:=by
 intro j u hj
 match j,hj with
 | 0,hj=>simp at hj;subst hj;simp[Addr.add]
theorem zSI (w:World) (x:Value):∀(j:Nat) (u:Value),([x]:List Value)[j]? = some u→(w.alloc (.cells #[x] 180)).cell? ((⟨w.heap.size,0,none⟩:Addr).add j)=some u:=by
 intro j u hj
 match j,hj with
 | 0,hj=>simp at hj;subst hj;simp[Addr.add]
theorem RulD.push {W w w1 w2:World} {r:Nat} {sv pv cv v':Value} {cs:List Nat} {z n:Nat} (h:RulD W w r sv pv cv cs) (hz:z<2 ^ 36) (hb:Below w.heap.size w w1) (hg:w1.grownBy w2 cv.ownBlock) (hn:n=cs.length+1) (ho:w2.ownsRow W.heap.size 183 1 v' n (u64s cs++[.int .u64 (z:Int)])) :
 RulD W (w2.setCell ⟨r,2,none⟩ v') r sv pv v' (cs++[z])∧Fr (fun k=>k=r∨cv.ownBlock=some k) w (w2.setCell ⟨r,2,none⟩ v'):=by
 have h1:=h.below hb;have hb2:w2.heap[r]? = some (.cells #[sv,pv,cv] 204):=zA6 h1.blk hg h1.own (by decide)
 have ho2:w2.ownsRow W.heap.size 183 1 v' (cs++[z]).length (u64s (cs++[z])):=by
  rw[List.length_append,List.length_singleton,←hn];unfold u64s at *;rw[List.map_append];exact ho
 refine⟨⟨?_,zAu ho2 hb2 (by decide) 2 _,fun y hy=>?_,?_⟩,?_⟩
 ·rw[heap_setCell_same w2 r 2 _ _ v' hb2];rfl
 ·rcases List.mem_append.1 hy with h3 | h3
  ·exact h.lt36 y h3
  ·rw[List.mem_singleton.1 h3];exact hz
 ·exact (h1.fr.grown hg (fun k hk=>Or.inr ((h1.own.lt k hk).1))).setX (p:=⟨r,2,none⟩) rfl _
 ·exact Fr.setX (X:=fun k=>k=r∨cv.ownBlock=some k) ((Fr.below hb).grown hg (fun k hk=>Or.inl (Or.inr hk))) (p:=⟨r,2,none⟩) (Or.inl rfl) _
theorem zQP (vs:List MVar) (hva:zAW vs) (pt:List (List Nat)) (cs:List Nat) (hcs:cs.length≤100000) (cl:Cla) (W:World) (r:Nat) (sv pv cv u:Value) (w:World) (hR:Rul W r sv pv vs pt) (hD:RulD W w r sv pv cv cs) (hu:LArg w u cl) :
 Calls Tryz.prog 88 #[.pointer (some ⟨r,0,none⟩),u] w fun e w'=>e=.returned (.tuple #[])∧∃cv',RulD W w' r sv pv cv' (cs++[zAH vs cl])∧Fr (fun k=>k=r∨cv.ownBlock=some k) w w':=by
 obtain⟨i0,hi0,hz0,hz1,hz2⟩:=info_parts Tryz.infoPart;have HD:Hid (RulD W w r sv pv cv cs):=hD;have hRA:=hD.at hR;have HU:Hid (∀Y,Below w.heap.size w Y→LArg Y u cl):=fun Y hY=>LArg.below hY hu
 have HV:Hid (∀Y,Below w.heap.size w Y→VArg Y sv vs):=fun Y hY=>VArg.below hY hRA.hv
 have HVO:Hid (zAW vs):=hva;have hcv:Hid (∃a c,cv=.slice a cs.length c):=zAB hD.own;obtain⟨ac,cc,rfl⟩:=hcv.out;have g0:=hRA.c0;have g2:=hRA.c2;have gl:=hRA.lt;have gz:w.frozen? ⟨r,2,none⟩=false:=frz9 hD.blk 2;obtain⟨h,hh⟩:∃h,zAH vs cl=h:=⟨_,rfl⟩;have HH:Hid (zAH vs cl=h):=hh;have HH36:Hid (h<2 ^ 36):=by rw[←hh];exact zGN vs hva.1 _
 rw[hh];obtain⟨a,c,rfl,_,_⟩:=hRA.hv;obtain⟨a2,c2,rfl,_,_⟩:=hu;have HHE:Hid (∀Y,Below w.heap.size w Y→Calls Tryz.prog 128 #[.slice a (List.length vs) c,.slice a2 (List.length cl) c2] Y fun e w'=>e=.returned (.int .u64 (h:Int))∧Below Y.heap.size Y w'):=fun Y hY=>by
  rw[←HH.out];exact zEL vs HVO.out cl _ _ Y (HV.out _ hY) (HU.out _ hY)
 have HDR:Hid (W.heap.size≤w.heap.size):=hD.fr.size;clear hD hva hh hRA hR hcv;go_enter Tryz.func88,Tryz.ntmps88
 go_wp2_with fail
 go_region_law
  (first
    | (rw[if_pos (by rfl)];refine wp_append_own _ _ _ 180 rfl W.heap.size 183 i0 _ 1 8 Tryz.underPart hi0 hz0 hz1 hz2 rfl (by decide) _ _ _ rfl (hw3.alloc _) ⟨w3.heap.size,0,none⟩ 1 1 [.int .u64 (h:Int)] rfl rfl (zJo w3 h) (by intro u hu;simp at hu;subst hu;rfl) ?_ ?_ ?_ ?_;(unfold maxLen;omega);omega;(have:=hB3.size;have:=HDR.out;simp;omega);intro v4 w4 hown4 hg4 _;have hP:=RulD.push HD.out HH36.out (hB3.alloc hB3.size (.cells #[.int .u64 (h:Int)] 183)) hg4 rfl hown4;obtain⟨a9,b9,hv9⟩:=zAB hown4;subst hv9;have d2:w4.cell? ⟨r,2,none⟩=some (.slice ac cs.length cc):=blk9 (zA6 (HD.out.below (hB3.alloc hB3.size (.cells #[.int .u64 (h:Int)] 183))).blk hg4 (hw3.alloc _) (by decide)) 2 _ rfl;have z2:w4.frozen? ⟨r,2,none⟩=false:=frz9 (zA6 (HD.out.below (hB3.alloc hB3.size (.cells #[.int .u64 (h:Int)] 183))).blk hg4 (hw3.alloc _) (by decide)) 2)
    | (rw[if_pos (by rfl)];go_simp;go_at_call 128;refine (HHE.out _ (Below.refl _ _).drew).mono ?_;rintro e w3 ⟨rfl,hb3⟩;have hB3:Below w.heap.size w w3:=(Below.refl _ _).drew.trans hb3;have c3:w3.cell? ⟨r,2,none⟩=some (.slice ac cs.length cc):=(hB3.cell (p:=⟨r,2,none⟩) gl).trans g2;have hw3:w3.ownsRow W.heap.size 183 1 (.slice ac cs.length cc) cs.length (u64s cs):=zAG HD.out.own hB3;have l3:r<w3.heap.size:=Nat.lt_of_lt_of_le gl hB3.size;dsimp only))
 all_goals
  go_wp2
  go_end0
  exact⟨rfl,_,hP.1,hP.2⟩
theorem Tryz.infoLit:(Tryz.prog.info? 88).map (fun i=>(i.zero,i.size,i.bytes))=some (some (.agg #[.int .i64 0,.int .i64 0,.int .i64 0]),3,24):=by kernel_rfl
theorem Tryz.underClauseE:Tryz.prog.underlying 38=some (.slice 88):=by kernel_rfl
def zEF (t:MLit):List Value:=[.int .i64 t.var,.int .i64 t.op,.int .i64 t.n]
def zBx (l:Cla):List Value:=l.flatMap zEF
theorem zJp (l:Cla):(zBx l).length=l.length * 3:=by
 induction l with
 | nil=>rfl
 | cons t r ih=>unfold zBx at *;rw[List.flatMap_cons,List.length_append,ih,List.length_cons];simp[zEF];omega
theorem zJq (l:Cla) (i:Nat) (t:MLit) (h:l[i]? = some t):(zBx l)[i * 3]? = some (.int .i64 t.var)∧(zBx l)[i * 3+1]? = some (.int .i64 t.op)∧(zBx l)[i * 3+2]? = some (.int .i64 t.n):=by
 induction l generalizing i with
 | nil=>cases h
 | cons a r ih =>
   unfold zBx at *;rw[List.flatMap_cons];have hl:(zEF a).length=3:=rfl;cases i with
   | zero=>cases h;exact⟨rfl,rfl,rfl⟩
   | succ i =>
     obtain⟨h1,h2,h3⟩:=ih i (by simpa using h)
     refine⟨?_,?_,?_⟩
     ·rw[List.getElem?_append_right (by rw[hl];omega),hl,show (i+1) * 3 - 3=i * 3 by omega];exact h1
     ·rw[List.getElem?_append_right (by rw[hl];omega),hl,show (i+1) * 3+1 - 3=i * 3+1 by omega];exact h2
     ·rw[List.getElem?_append_right (by rw[hl];omega),hl,show (i+1) * 3+2 - 3=i * 3+2 by omega];exact h3
def LOwn (base:Nat) (w:World) (v:Value) (l:Cla):Prop:=w.ownsRow base 88 3 v l.length (zBx l)
theorem LOwn.arg {base:Nat} {w:World} {v:Value} {l:Cla} (h:LOwn base w v l):LArg w v l:=by
 have h':w.ownsRow base 88 3 v l.length (zBx l):=h;rcases h'.2 with ⟨rfl,hn⟩ | ⟨g,cap,cur,rfl,hg,hh,hc1,hc2,_,_⟩
 ·have:l=[]:=List.eq_nil_of_length_eq_zero hn
  subst this;exact⟨none,0,rfl,⟨Nat.le_refl _,Nat.zero_le _⟩,fun i z hz=>by simp at hz⟩
 ·refine⟨_,cap,rfl,⟨hc1,hc2⟩,fun i t ht=>?_⟩
  have hi:i<l.length:=(List.getElem?_eq_some_iff.1 ht).1;obtain⟨g1,g2,g3⟩:=zJq l i t ht;exact⟨g,0,rfl,(Array.getElem?_eq_some_iff.1 hh).1,by rw[Nat.zero_add,h'.cellAt (i * 3) (by omega)];exact g1,by rw[Nat.zero_add,h'.cellAt (i * 3+1) (by omega)];exact g2,by rw[Nat.zero_add,h'.cellAt (i * 3+2) (by omega)];exact g3⟩
theorem zNv (w:World) (t:MLit):∀(j:Nat) (u:Value),(zEF t)[j]? = some u→(w.alloc (.cells #[.int .i64 t.var,.int .i64 t.op,.int .i64 t.n] 88)).cell? ((⟨w.heap.size,0,none⟩:Addr).add j)=some u:=by
 intro j u hj
 match j,hj with
 | 0,hj=>simp[zEF] at hj;subst hj;simp[Addr.add]
 | 1,hj=>simp[zEF] at hj;subst hj;simp[Addr.add]
 | 2,hj=>simp[zEF] at hj;subst hj;simp[Addr.add]
theorem zIN (vs:List MVar) (hva:zAW vs) (p:Nat) (hp:∀i,p.testBit i=true→(zAD vs).testBit i=true) (sv:Value) (w:World) (hv:VArg w sv vs) (hT:TabT w) :
 Calls Tryz.prog 197 #[sv,.int .u64 p] w fun e w'=>∃x,e=.returned x∧LOwn w.heap.size w' x (zBj vs p)∧Below w.heap.size w w':=by
 have HVO:Hid (zAW vs):=hva;have HT:Hid (∀w',Below w.heap.size w w'→TabT w'):=fun w' h=>hT.below h
 have HP36:Hid (p<2 ^ 36):=by
  show p<2 ^ 36;apply Nat.lt_pow_two_of_testBit;intro i hi;cases hb:p.testBit i
  ·rfl
  ·have:=hp i hb
   unfold zAD at this;rw[Nat.testBit_lt_two_pow (Nat.lt_of_lt_of_le (zGN vs hva.1 _) (Nat.pow_le_pow_right (by omega) hi))] at this
   cases this
 have HPW:Hid (∀i,p.testBit i=true→(zAD vs).testBit i=true):=hp;obtain⟨a,c,rfl,hm,hr⟩:=hv;have HV:Hid (∀(i:Nat) (t:MVar),vs[i]? = some t→t.name.size≤maxLen∧∃b off,a=some ⟨b,off,none⟩∧b<w.heap.size ∧
  w.cell? ⟨b,off+i * 3,none⟩=some (.string t.name)∧w.cell? ⟨b,off+i * 3+1,none⟩=some (.int .i64 t.lo)∧w.cell? ⟨b,off+i * 3+2,none⟩=some (.int .i64 t.hi)):=hr
 unfold maxLen at hm;obtain⟨hm1,hm⟩:=hm;have h6:=hva.1.1;obtain⟨i0,hi,hz0,hz1,hz2⟩:=info_parts Tryz.infoLit;clear hr hva hp hT;go_enter Tryz.func197,Tryz.ntmps197
 go_wp2_with fail
 go_loopw [5,6] (fun v r wr=>∃(q:Nat) (done:Cla),r=.int .u64 (q:Int)∧LOwn w.heap.size wr v done∧Hid (zBj vs p=done++zBj vs q)∧Hid (q<2 ^ 36)∧Hid (∀i,q.testBit i=true→p.testBit i=true)∧Below w.heap.size w wr) (fun _ r _=>(intOf r).toNat)
 case atStart=>exact⟨p,[],rfl,World.ownsRow_nil _ _ _ _,rfl,HP36,fun _ h=>h,Below.refl _ _⟩
 case round =>
  obtain⟨q,done,rfl,hown,hsp,hq36,hqs,hbw⟩:=hrel;have HOW:Hid (LOwn w.heap.size wr u5 done):=hown;have HBW:Hid (Below w.heap.size w wr):=hbw;obtain⟨ao,co,rfl⟩:=zAB (show wr.ownsRow _ _ _ _ _ _ from hown)
  clear hown hbw;by_cases hq0:q=0
  ·subst hq0
   have HE:Hid (LOwn w.heap.size wr (.slice ao (List.length done) co) (zBj vs p)):=by
    have:zBj vs p=done:=by rw[hsp.out];simp[zBj,zJQ]
    rw[this];exact HOW.out
   clear hsp hqs;go_wp2
   go_ret
   exact⟨_,rfl,HE.out,HBW.out⟩
  ·obtain⟨hst,hk36⟩:=zFe q hq0 hq36.out
   obtain⟨k,hk⟩:∃k,Lib.ctz 64 q=k:=⟨_,rfl⟩;have hbits:=zEJ q hq0 (by have:=hq36.out;omega)
   have hless:=zHf q hq0 (by have:=hq36.out;omega)
   obtain⟨q2,hq2⟩:∃q2,q &&& (q - 1)=q2:=⟨_,rfl⟩;have HQS:Hid (∀i,q2.testBit i=true→p.testBit i=true):=fun i hi=>by
    rw[←hq2,(hbits i).2.2,Bool.and_eq_true] at hi;exact hqs.out i hi.1
   have hkb:=(hbits k).2.1 hk.symm;have hkw:=HPW.out k (hqs.out k hkb);unfold zAD ofP at hkw;rw[zAc vs HVO.out.1] at hkw;simp only[Bool.and_eq_true,decide_eq_true_eq] at hkw;have hkl:k / 6<vs.length:=hkw.1;have hbn:=HVO.out.2 (k / 6) hkl;obtain⟨lo,hlo⟩:∃lo,(zAK vs (k / 6)).lo=lo:=⟨_,rfl⟩;have HN:Hid (zBj vs p=(done++[⟨((k / 6:Nat):Int),3,lo+((k % 6:Nat):Int)⟩])++zBj vs q2):=by
    show _=_;rw[hsp.out,List.append_assoc]
    congr 1
    unfold zBj;rw[hst,hk,hq2,List.map_cons,hlo];rfl
   rw[hk] at hk36;rw[hq2] at hless;obtain⟨_,b,off,hax,hb,_,c1,_⟩:=HV.out (k / 6) _ (zJe hkl);subst hax;have hc1:=(HBW.out.cell (p:=⟨b,off+k / 6 * 3+1,none⟩) hb).trans c1;rw[hlo] at hc1 hbn;have HK:Hid (Lib.ctz 64 q=k):=hk;have hdl:done.length≤36:=by
    have h1:=zEr vs p;rw[hsp.out,List.length_append] at h1;omega
   have HQ36:Hid (q<2 ^ 36):=hq36.out;have HQ2:Hid (q2<2 ^ 36):=by have:=hq36.out;show _<_;omega
   have hsub:IntKind.u64.wrap ((q:Int) - 1)=((q - 1:Nat):Int):=by rw[IntKind.wrap_u64];have:=hq36.out;omega
   have hand:=bits_and_u64_nat q (q - 1) (by have:=hq36.out;omega) (by have:=hq36.out;omega)
   rw[hq2] at hand;have hne:((q:Int) != 0)=true:=by simpa using hq0
   have HLS:Hid (q2<q):=hless;have hsm:-100≤lo+((k % 6:Nat):Int)∧lo+((k % 6:Nat):Int)≤100:=by omega
   clear hst hbits hqs hq36 hkb hkw hsp hlo hq2 hk c1 hless hq0;go_wp2_with fail
   refine (zNt q (by have:=HQ36.out;omega) _ (HT.out _ HBW.out)).mono ?_
   rintro e w1 ⟨rfl,rfl⟩;rw[HK.out];obtain⟨t,ht⟩:∃t:MLit,t=⟨(k:Int) / 6,3,lo+(k:Int) % 6⟩:=⟨_,rfl⟩;have hown:w1.ownsRow w.heap.size 88 3 (.slice ao (List.length done) co) (List.length done) (zBx done):=HOW.out;have HN2:Hid (zBj vs p=(done++[t])++zBj vs q2):=by show _=_;rw[ht];exact HN.out
   have hbs:=HBW.out.size;go_wp2_with (at_builtin;refine wpList_append_own _ rfl _ _ 38 rfl w.heap.size 88 i0 (.agg #[.int .i64 0,.int .i64 0,.int .i64 0]) 3 24 Tryz.underClauseE hi hz0 hz1 hz2 rfl (by decide) _ _ _ rfl (hown.alloc _) ⟨w1.heap.size,0,none⟩ 1 1 (zEF ⟨(k:Int) / 6,3,lo+(k:Int) % 6⟩) rfl rfl ?c1 ?c2 ?c3 ?c4 ?c5 ?_)
   case c1=>exact zNv w1 ⟨(k:Int) / 6,3,lo+(k:Int) % 6⟩
   case c2=>intro u hu;simp[zEF] at hu;rcases hu with rfl | rfl | rfl <;> rfl
   case c3=>unfold maxLen;omega
   case c4=>omega
   case c5=>simp;omega
   intro v3 w3 hown3 hgrow _;have HOW3:Hid (LOwn w.heap.size w3 v3 (done++[t])):=by
    show World.ownsRow _ _ _ _ _ _ _;unfold zBx;rw[List.length_append,List.flatMap_append,ht];simpa[zBx] using hown3
   have HB3:Hid (Below w.heap.size w w3):=(HBW.out.alloc hbs _).grown hgrow (by simp;omega) (fun g h=>(hown.lt g h).1)
   clear hown3 hgrow hown hc1;go_wp2
   go_roundw
   case rel=>exact⟨q2,done++[t],rfl,HOW3.out,HN2,HQ2,HQS,HB3.out⟩
   case measure=>simp[intOf];exact HLS.out
end Go.Proofs.YtdjbejlbmaiocagGreatDoor
