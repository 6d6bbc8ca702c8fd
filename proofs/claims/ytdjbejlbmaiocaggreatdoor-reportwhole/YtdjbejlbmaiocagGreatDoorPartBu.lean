/- What the proof leans on, part 47. -/
import Derived.Test.YtdjbejlbmaiocagGreatDoorPartBm
import Derived.Test.YtdjbejlbmaiocagGreatDoorPartBt
import Derived.Test.YtdjbejlbmaiocagGreatDoorPartAe
import Derived.Test.YtdjbejlbmaiocagGreatDoorPartAm
import Derived.Test.YtdjbejlbmaiocagGreatDoorPartAo
import Derived.Test.YtdjbejlbmaiocagGreatDoorPartAp
namespace Go.Proofs.YtdjbejlbmaiocagGreatDoor
open Go.RowKit
theorem zLv (m:Mod) (vals:List Int) (l:List MStep) (h0:vals.length≠0) (hv:zCS m vals l=(true,0)):allA m vals=(true,0):=by
 unfold zCS at hv
 rw[if_neg h0] at hv
 split at hv
 ·cases hp:(zAy m [(zA2 m vals).1] l).1
  ·rw[hp] at hv
   simp only[Bool.false_eq_true,if_false] at hv
   rw[hv] at hp;cases hp
  ·rw[hp] at hv
   simpa using hv
 ·cases hv
structure WholeP (m:Mod) (A:Ans×Int) (V1:Bool×Int) (vals:List Int) (V2:Bool×Int) (others:List Int) (O:Bool×Int):Prop where
 fst:A.2=0→(A.1.verdict=2∨(A.1.verdict=1∧m.goal≠0))→V1=(true,0)
 snd:V2=(true,0)→O=(true,0)→vals.length≠0∧(m.goal=1→zAO vals m.var≤zAO others m.var)∧(m.goal=2→zAO others m.var≤zAO vals m.var)∧0≤m.var∧m.var<(vals.length:Int)∧m.var<(others.length:Int)
theorem zM8 (s:ByteArray) (m:Mod) (at0:Int) (hp:zAu s=(m,at0,0)) (fuel:Int) (vals:List Int) (l:List MStep) (others:List Int) :
 WholeP m (zB0 m fuel) (zBD s (zB0 m fuel).1.values (zB0 m fuel).1.proof) vals (zBD s vals l) others (allA m others):=by
 have hva:∀x y,zBD s x y=zCS m x y:=fun x y=>by unfold zBD;rw[hp,if_pos rfl]
 rw[hva,hva]
 refine⟨fun h1 h2=>zET m fuel h1 h2,fun h1 h2=>?_⟩
 obtain⟨v1,v2,v3⟩:=zKE m vals l others h1 h2
 obtain⟨hm,hs⟩:=zJs m others h2
 obtain⟨_,hs2⟩:=zJs m vals (zLv m vals l v1 h1)
 obtain⟨g1,g2,_⟩:=zC0 m hm
 have e1:=hs.1.1
 have e2:=hs2.1.1
 exact⟨v1,v2,v3,g1,by omega,by omega⟩
set_option maxHeartbeats 6400000 in
set_option maxRecDepth 100000 in
theorem zLw (N:Nat) (s:ByteArray) (fuel:Int) (vals:List Int) (l:List MStep) (others:List Int) (v u o:Value) (w:World) (hs:s.size≤maxLen) (hv:IArg w v vals) (hu:zEl w u l) (ho:IArg w o others) (hT:TabT w) (hN:TabN N w) (hNw:N≤w.heap.size) :
 Calls Tryz.prog 7 #[.string s,.int .i64 fuel,v,u,o] w fun e w'=>e=.returned (.bool true)∧Below w.heap.size w w':=by
 have HV:Hid (∀w',Below w.heap.size w w'→IArg w' v vals):=fun w' h=>IArg.below h hv
 have HO:Hid (∀w',Below w.heap.size w w'→IArg w' o others):=fun w' h=>IArg.below h ho
 have HU:Hid (∀w',Below w.heap.size w w'→zEl w' u l):=fun w' h=>zEl.below h hu
 have HT:Hid (∀w',Below w.heap.size w w'→TabT w'):=fun w' h=>hT.below h
 have HN:Hid (∀w',Below w.heap.size w w'→TabN N w'∧N≤w'.heap.size):=fun w' h=>⟨hN.below h,Nat.le_trans hNw h.size⟩
 have HS:Hid (s.size≤maxLen):=hs
 have HVE:Hid (∀(Y:World) (x:List Int) (y:List MStep) (vx vy:Value),Below w.heap.size w Y→IArg Y vx x→zEl Y vy y→Calls Tryz.prog 25 #[.string s,vx,vy] Y fun e w'=>e=.returned (.tuple #[.bool (zBD s x y).1,.int .i64 (zBD s x y).2])∧Below Y.heap.size Y w'):=fun Y x y vx vy h1 h2 h3 =>
  zJd s hs x y vx vy Y h2 h3 (hT.below h1)
 obtain⟨av,cv,rfl,_,hvr⟩:=hv
 obtain⟨ao,co,rfl,_,hor⟩:=ho
 obtain⟨au,cu,rfl,_,_⟩:=hu
 have HVR:Hid (∀(i:Nat) (z:Int),vals[i]? = some z→∃b off,av=some ⟨b,off,none⟩∧b<w.heap.size∧w.cell? ⟨b,off+i,none⟩=some (.int .i64 z)):=hvr
 have HOR:Hid (∀(i:Nat) (z:Int),others[i]? = some z→∃b off,ao=some ⟨b,off,none⟩∧b<w.heap.size∧w.cell? ⟨b,off+i,none⟩=some (.int .i64 z)):=hor
 have HWP:Hid (∀m at0,zAu s=(m,at0,0)→WholeP m (zB0 m fuel) (zBD s (zB0 m fuel).1.values (zB0 m fuel).1.proof) vals (zBD s vals l) others (allA m others)):=fun m at0 hp=>zM8 s m at0 hp fuel vals l others
 obtain⟨⟨m,at0,er⟩,hp⟩:∃P,zAu s=P:=⟨_,rfl⟩
 have HPA:Hid (zAu s=(m,at0,er)):=hp
 clear hvr hor hT hN hNw hs hp
 go_enter Tryz.func7,Tryz.ntmps7
 go_wp2_with fail
 refine (zLc _ (HT.out _ (Below.refl _ _)) (HN.out _ (Below.refl _ _)).1.1).mono ?_
 rintro e w1 ⟨rfl,hb1⟩
 have HB1:Hid (Below w.heap.size w w1):=hb1
 clear hb1
 go_wp2_with fail
 refine (zOl _ (HT.out _ HB1.out)).mono ?_
 rintro e w2 ⟨rfl,hb2⟩
 have HB2:Hid (Below w.heap.size w w2):=HB1.out.trans (hb2.mono HB1.out.size)
 clear hb2
 go_wp2_with fail
 refine (zPG N _ (HN.out _ HB2.out).1 (HN.out _ HB2.out).2).mono ?_
 rintro e w3 ⟨rfl,hb3⟩
 have HB3:Hid (Below w.heap.size w w3):=HB2.out.trans (hb3.mono HB2.out.size)
 clear hb3
 go_wp2_with fail
 refine (zM7 _).mono ?_
 rintro e w4 ⟨rfl,hb4⟩
 have HB4:Hid (Below w.heap.size w w4):=HB3.out.trans (hb4.mono HB3.out.size)
 clear hb4
 go_wp2_with fail
 refine (zGT s HS.out _).mono ?_
 rintro e w5 ⟨vs,cs,rfl,hm5,hb5⟩
 rw[HPA.out] at hm5 ⊢
 dsimp only at hm5 ⊢
 have HMA:Hid (∀w',Below w5.heap.size w5 w'→MArg w' vs cs m):=fun w' h=>MArg.below h hm5.marg
 have HB5:Hid (Below w.heap.size w w5):=HB4.out.trans (hb5.mono HB4.out.size)
 obtain⟨⟨a1,c1,rfl,_,_⟩,⟨a2,c2,rfl,_,_⟩⟩:=hm5.marg
 unfold modV
 clear hm5 hb5
 by_cases he:er=0
 ·subst he
  have HW:=(show Hid _ from HWP.out m at0 HPA.out)
  clear HWP
  obtain⟨⟨⟨RV,RX,RP⟩,RE⟩,hB⟩:∃B,zB0 m fuel=B:=⟨_,rfl⟩
  have HBA:Hid (zB0 m fuel=(⟨RV,RX,RP⟩,RE)):=hB
  rw[hB] at HW
  dsimp only at HW
  obtain⟨⟨V1B,V1E⟩,hV1⟩:∃V,zBD s RX RP=V:=⟨_,rfl⟩
  have HV1:Hid (zBD s RX RP=(V1B,V1E)):=hV1
  rw[hV1] at HW
  obtain⟨⟨V2B,V2E⟩,hV2⟩:∃V,zBD s vals l=V:=⟨_,rfl⟩
  have HV2:Hid (zBD s vals l=(V2B,V2E)):=hV2
  rw[hV2] at HW
  obtain⟨⟨OB,OE⟩,hO⟩:∃V,allA m others=V:=⟨_,rfl⟩
  have HOA:Hid (allA m others=(OB,OE)):=hO
  rw[hO] at HW
  clear hB hV1 hV2 hO
  go_wp2_with fail
  have hbY:Below w5.heap.size w5 (w5.alloc (.cells #[.slice a1 m.vars.length c1,.slice a2 m.cons.length c2,.int .i64 m.goal,.int .i64 m.var] 25)):=zAA _ _
  have hblY:=heap_alloc_new w5 (.cells #[.slice a1 m.vars.length c1,.slice a2 m.cons.length c2,.int .i64 m.goal,.int .i64 m.var] 25)
  refine (zHN m fuel (.slice a1 m.vars.length c1) (.slice a2 m.cons.length c2) _ (HMA.out _ hbY) (HT.out _ (HB5.out.trans (hbY.mono HB5.out.size)))).mono ?_
  rintro e w6 ⟨vv,pp,rfl,hq,hb6⟩
  rw[HBA.out] at hq ⊢
  dsimp only at hq ⊢
  obtain⟨L,hst,hLe⟩:=hq.prf
  simp only at hLe
  obtain⟨ax,cx,rfl⟩:=zAB hq.val
  obtain⟨ap,cp,rfl⟩:=zAB hst.1
  have HX:Hid (∀Y,Below w6.heap.size w6 Y→IArg Y (.slice ax RX.length cx) RX):=fun Y hY=>IArg.below hY (zDY hq.val)
  have HL:Hid (∀Y,Below w6.heap.size w6 Y→zEl Y (.slice ap L.length cp) RP):=fun Y hY=>by
   have h1:=(hst.below hY).starg
   rw[hLe] at h1
   exact h1
  have HQ6:Hid (w6.heap[w5.heap.size]? = some (.cells #[.slice a1 m.vars.length c1,.slice a2 m.cons.length c2,.int .i64 m.goal,.int .i64 m.var] 25)):=(hb6.block _ (by simp)).trans hblY
  have HB56:Hid (Below w5.heap.size w5 w6):=hbY.trans (hb6.mono (by simp))
  have HB6:Hid (Below w.heap.size w w6):=HB5.out.trans (HB56.out.mono HB5.out.size)
  simp only
  clear hb6 hbY hblY hq hst hLe
  have hbZ:Below w6.heap.size w6 (w6.alloc (.cells #[.int .i64 RV,.slice ax RX.length cx,.slice ap L.length cp] 29)):=zAA _ _
  have hblZ:=heap_alloc_new w6 (.cells #[.int .i64 RV,.slice ax RX.length cx,.slice ap L.length cp] 29)
  have HZQ:Hid (∀Y,Below (w6.heap.size+1) (w6.alloc (.cells #[.int .i64 RV,.slice ax RX.length cx,.slice ap L.length cp] 29)) Y→Y.heap[w6.heap.size]? = some (.cells #[.int .i64 RV,.slice ax RX.length cx,.slice ap L.length cp] 29)∧Below w6.heap.size w6 Y∧Y.heap[w5.heap.size]? = some (.cells #[.slice a1 m.vars.length c1,.slice a2 m.cons.length c2,.int .i64 m.goal,.int .i64 m.var] 25)∧Below w5.heap.size w5 Y∧Below w.heap.size w Y):=fun Y hY=>by
   have h1:Below w6.heap.size w6 Y:=hbZ.trans (hY.mono (by omega))
   exact⟨(hY.block _ (by omega)).trans hblZ,h1,(h1.block _ (Array.getElem?_eq_some_iff.1 HQ6.out).1).trans HQ6.out,HB56.out.trans (h1.mono HB56.out.size),HB6.out.trans (h1.mono HB6.out.size)⟩
  clear hbZ hblZ
  have k0:=blk9 HQ6.out 0 _ rfl
  have k1:=blk9 HQ6.out 1 _ rfl
  have k2:=blk9 HQ6.out 2 _ rfl
  have k3:=blk9 HQ6.out 3 _ rfl
  have kl:=(Array.getElem?_eq_some_iff.1 HQ6.out).1
  have HFST:Hid (RE=0→(RV=2∨(RV=1∧m.goal≠0))→((V1B,V1E):Bool×Int)=(true,0)):=HW.out.fst
  have HSND:=(show Hid _ from HW.out.snd)
  by_cases hRE:RE=0
  ·subst hRE
   by_cases h2:RV=2
   ·subst h2
    have hf:=HFST.out rfl (.inl rfl)
    injection hf with hf1 hf2
    subst hf1 hf2
    clear HFST
    go_wp2_with fail
    refine (HVE.out _ RX RP _ _ (HZQ.out _ (Below.refl _ _)).2.2.2.2 (HX.out _ (HZQ.out _ (Below.refl _ _)).2.1) (HL.out _ (HZQ.out _ (Below.refl _ _)).2.1)).mono ?_
    rintro e w7 ⟨rfl,hb7⟩
    rw[HV1.out]
    dsimp only
    have HZ7:Hid (Below (w6.heap.size+1) (w6.alloc (.cells #[.int .i64 2,.slice ax RX.length cx,.slice ap L.length cp] 29)) w7):=hb7.mono (by simp)
    clear hb7
    go_wp2_with fail
    refine (HVE.out w7 vals l _ _ (HZQ.out _ HZ7.out).2.2.2.2 (HV.out _ (HZQ.out _ HZ7.out).2.2.2.2) (HU.out _ (HZQ.out _ HZ7.out).2.2.2.2)).mono ?_
    rintro e w8 ⟨rfl,hb8⟩
    have HZ8:Hid (Below (w6.heap.size+1) (w6.alloc (.cells #[.int .i64 2,.slice ax RX.length cx,.slice ap L.length cp] 29)) w8):=HZ7.out.trans (hb8.mono (Nat.le_trans (by simp) HZ7.out.size))
    clear hb8 HZ7
    obtain⟨z1,z2,z3,z4,z5⟩:=HZQ.out _ HZ8.out
    rw[HV2.out]
    dsimp only
    clear k0 k1 k2 k3 kl
    have k0:=blk9 z3 0 _ rfl
    have k1:=blk9 z3 1 _ rfl
    have k2:=blk9 z3 2 _ rfl
    have k3:=blk9 z3 3 _ rfl
    have kl:=(Array.getElem?_eq_some_iff.1 z3).1
    have HQ8:=(show Hid _ from z3)
    clear z1 z3
    have HB8:=(show Hid _ from z5)
    have HB58:=(show Hid _ from z4)
    clear z2 z4 z5
    go_wp2_with fail
    refine (zEZ m others (.slice a1 m.vars.length c1) (.slice a2 m.cons.length c2) _ _ (HMA.out _ HB58.out) (HO.out _ HB8.out)).mono ?_
    rintro e w9 ⟨rfl,hb9⟩
    rw[HOA.out]
    dsimp only
    have HQ9:=(show Hid _ from (hb9.block _ kl).trans HQ8.out)
    have HB9:Hid (Below w.heap.size w w9):=HB8.out.trans (hb9.mono HB8.out.size)
    clear hb9 k0 k1 k2 k3 kl
    have k2:=blk9 HQ9.out 2 _ rfl
    have k3:=blk9 HQ9.out 3 _ rfl
    have kl:=(Array.getElem?_eq_some_iff.1 HQ9.out).1
    clear HQ8 HB58 HB8 HZ8 HZQ HX HL HB56 HB6 HB5 HB4 HB3 HB2 HB1 HV1
    by_cases e1:V2E=0
    ·subst e1
     cases V2B
     ·clear HSND
      go_wp2
      go_ret
      exact⟨rfl,HB9.out⟩
     ·by_cases e2:OE=0
      ·subst e2
       cases OB
       ·clear HSND
        go_wp2
        go_ret
        exact⟨rfl,HB9.out⟩
       ·obtain⟨b0,b3,b4,g1,g2,g3⟩:=HSND.out rfl rfl
        obtain⟨k,hk⟩:∃k:Nat,m.var=(k:Int):=⟨m.var.toNat,by omega⟩
        have hkv:k<vals.length:=by omega
        have hkx:k<others.length:=by omega
        obtain⟨z,hz⟩:∃z,vals[k]? = some z:=⟨vals[k],by rw[List.getElem?_eq_getElem hkv]⟩
        obtain⟨y,hy⟩:∃y,others[k]? = some y:=⟨others[k],by rw[List.getElem?_eq_getElem hkx]⟩
        have hvz:zAO vals m.var=z:=by unfold zAO;rw[hk,Int.toNat_natCast,List.getD_eq_getElem?_getD,hz];rfl
        have hvy:zAO others m.var=y:=by unfold zAO;rw[hk,Int.toNat_natCast,List.getD_eq_getElem?_getD,hy];rfl
        rw[hvz,hvy] at b3 b4
        obtain⟨bz,oz,ha,hlz,cz⟩:=HVR.out k z hz
        obtain⟨bx,ox,hax,hlx,cx'⟩:=HOR.out k y hy
        subst ha hax
        have dz:=(HB9.out.cell (p:=⟨bz,oz+k,none⟩) hlz).trans cz
        have lz:bz<w9.heap.size:=Nat.lt_of_lt_of_le hlz HB9.out.size
        have dx:=(HB9.out.cell (p:=⟨bx,ox+k,none⟩) hlx).trans cx'
        have lx:bx<w9.heap.size:=Nat.lt_of_lt_of_le hlx HB9.out.size
        rw[hk] at k3
        have q1:(k:Int)<(vals.length:Int):=by omega
        have q2:(k:Int)<(others.length:Int):=by omega
        have q3:((vals.length:Int)==0)=false:=by simp only[beq_eq_false_iff_ne,ne_eq];omega
        have B3:Hid (m.goal=1→z≤y):=b3
        have B4:Hid (m.goal=2→y≤z):=b4
        have HGO:Hid (m.goal≠1→m.goal≠2→True):=fun _ _=>trivial
        clear HSND b0 b3 b4 hvz hvy hz hy cz cx' g1 g2 g3 hk hlz hlx HVR HOR HW
        by_cases hg1:m.goal=1
        ·have hyz:=B3.out hg1
         rw[hg1] at k2
         have hyz':decide (z≤y)=true:=by simpa using hyz
         clear hg1 B3 B4 hyz
         go_wp2_with fail
         go_quiet (fail)
         go_wp2
         go_ret
         exact⟨rfl,below_drewN HB9.out _⟩
        ·by_cases hg2:m.goal=2
         ·have hyz:=B4.out hg2
          rw[hg2] at k2
          have hyz':decide (z≥y)=true:=by simpa using hyz
          clear hg1 hg2 B3 B4 hyz
          go_wp2_with fail
          go_quiet (fail)
          go_wp2
          go_ret
          exact⟨rfl,below_drewN HB9.out _⟩
         ·have hg1':(m.goal==1)=false:=by simpa using hg1
          have hg2':(m.goal==2)=false:=by simpa using hg2
          clear hg1 hg2 B3 B4
          go_wp2
          go_ret
          exact⟨rfl,HB9.out⟩
      ·have he:(OE != 0)=true:=by simpa using e2
       clear e2 HSND
       go_wp2
       go_ret
       exact⟨rfl,HB9.out⟩
    ·have he:(V2E != 0)=true:=by simpa using e1
     clear e1 HSND
     go_wp2
     go_ret
     exact⟨rfl,HB9.out⟩
   ·have h2':(RV==2)=false:=by simpa using h2
    by_cases h1:RV=1
    ·subst h1
     clear h2'
     by_cases hg:m.goal=0
     ·have HG:Hid (m.goal=0):=hg
      have hg':(m.goal != 0)=false:=by simpa using hg
      clear h2 hg
      clear HFST
      go_wp2_with fail
      refine (HVE.out _ vals l _ _ (HZQ.out _ (Below.refl _ _)).2.2.2.2 (HV.out _ (HZQ.out _ (Below.refl _ _)).2.2.2.2) (HU.out _ (HZQ.out _ (Below.refl _ _)).2.2.2.2)).mono ?_
      rintro e w8 ⟨rfl,hb8⟩
      have HZ8:Hid (Below (w6.heap.size+1) (w6.alloc (.cells #[.int .i64 1,.slice ax RX.length cx,.slice ap L.length cp] 29)) w8):=hb8.mono (by simp)
      clear hb8
      obtain⟨z1,z2,z3,z4,z5⟩:=HZQ.out _ HZ8.out
      rw[HV2.out]
      dsimp only
      clear k0 k1 k2 k3 kl
      have k0:=blk9 z3 0 _ rfl
      have k1:=blk9 z3 1 _ rfl
      have k2:=blk9 z3 2 _ rfl
      have k3:=blk9 z3 3 _ rfl
      have kl:=(Array.getElem?_eq_some_iff.1 z3).1
      have HQ8:=(show Hid _ from z3)
      clear z1 z3
      have HB8:=(show Hid _ from z5)
      have HB58:=(show Hid _ from z4)
      clear z2 z4 z5
      go_wp2_with fail
      refine (zEZ m others (.slice a1 m.vars.length c1) (.slice a2 m.cons.length c2) _ _ (HMA.out _ HB58.out) (HO.out _ HB8.out)).mono ?_
      rintro e w9 ⟨rfl,hb9⟩
      rw[HOA.out]
      dsimp only
      have HQ9:=(show Hid _ from (hb9.block _ kl).trans HQ8.out)
      have HB9:Hid (Below w.heap.size w w9):=HB8.out.trans (hb9.mono HB8.out.size)
      clear hb9 k0 k1 k2 k3 kl
      have k2:=blk9 HQ9.out 2 _ rfl
      have k3:=blk9 HQ9.out 3 _ rfl
      have kl:=(Array.getElem?_eq_some_iff.1 HQ9.out).1
      clear HQ8 HB58 HB8 HZ8 HZQ HX HL HB56 HB6 HB5 HB4 HB3 HB2 HB1 HV1
      by_cases e1:V2E=0
      ·subst e1
       cases V2B
       ·clear HSND
        go_wp2
        go_ret
        exact⟨rfl,HB9.out⟩
       ·by_cases e2:OE=0
        ·subst e2
         cases OB
         ·clear HSND
          go_wp2
          go_ret
          exact⟨rfl,HB9.out⟩
         ·obtain⟨b0,b3,b4,g1,g2,g3⟩:=HSND.out rfl rfl
          obtain⟨k,hk⟩:∃k:Nat,m.var=(k:Int):=⟨m.var.toNat,by omega⟩
          have hkv:k<vals.length:=by omega
          have hkx:k<others.length:=by omega
          obtain⟨z,hz⟩:∃z,vals[k]? = some z:=⟨vals[k],by rw[List.getElem?_eq_getElem hkv]⟩
          obtain⟨y,hy⟩:∃y,others[k]? = some y:=⟨others[k],by rw[List.getElem?_eq_getElem hkx]⟩
          have hvz:zAO vals m.var=z:=by unfold zAO;rw[hk,Int.toNat_natCast,List.getD_eq_getElem?_getD,hz];rfl
          have hvy:zAO others m.var=y:=by unfold zAO;rw[hk,Int.toNat_natCast,List.getD_eq_getElem?_getD,hy];rfl
          rw[hvz,hvy] at b3 b4
          obtain⟨bz,oz,ha,hlz,cz⟩:=HVR.out k z hz
          obtain⟨bx,ox,hax,hlx,cx'⟩:=HOR.out k y hy
          subst ha hax
          have dz:=(HB9.out.cell (p:=⟨bz,oz+k,none⟩) hlz).trans cz
          have lz:bz<w9.heap.size:=Nat.lt_of_lt_of_le hlz HB9.out.size
          have dx:=(HB9.out.cell (p:=⟨bx,ox+k,none⟩) hlx).trans cx'
          have lx:bx<w9.heap.size:=Nat.lt_of_lt_of_le hlx HB9.out.size
          rw[hk] at k3
          have q1:(k:Int)<(vals.length:Int):=by omega
          have q2:(k:Int)<(others.length:Int):=by omega
          have q3:((vals.length:Int)==0)=false:=by simp only[beq_eq_false_iff_ne,ne_eq];omega
          have B3:Hid (m.goal=1→z≤y):=b3
          have B4:Hid (m.goal=2→y≤z):=b4
          have HGO:Hid (m.goal≠1→m.goal≠2→True):=fun _ _=>trivial
          clear HSND b0 b3 b4 hvz hvy hz hy cz cx' g1 g2 g3 hk hlz hlx HVR HOR HW
          by_cases hg1:m.goal=1
          ·have hyz:=B3.out hg1
           rw[hg1] at k2
           have hyz':decide (z≤y)=true:=by simpa using hyz
           clear hg1 B3 B4 hyz
           go_wp2_with fail
           go_quiet (fail)
           go_wp2
           go_ret
           exact⟨rfl,below_drewN HB9.out _⟩
          ·by_cases hg2:m.goal=2
           ·have hyz:=B4.out hg2
            rw[hg2] at k2
            have hyz':decide (z≥y)=true:=by simpa using hyz
            clear hg1 hg2 B3 B4 hyz
            go_wp2_with fail
            go_quiet (fail)
            go_wp2
            go_ret
            exact⟨rfl,below_drewN HB9.out _⟩
           ·have hg1':(m.goal==1)=false:=by simpa using hg1
            have hg2':(m.goal==2)=false:=by simpa using hg2
            clear hg1 hg2 B3 B4
            go_wp2
            go_ret
            exact⟨rfl,HB9.out⟩
        ·have he:(OE != 0)=true:=by simpa using e2
         clear e2 HSND
         go_wp2
         go_ret
         exact⟨rfl,HB9.out⟩
      ·have he:(V2E != 0)=true:=by simpa using e1
       clear e1 HSND
       go_wp2
       go_ret
       exact⟨rfl,HB9.out⟩
     ·have hg':(m.goal != 0)=true:=by simpa using hg
      have hf:=HFST.out rfl (.inr ⟨rfl,hg⟩)
      injection hf with hf1 hf2
      subst hf1 hf2
      clear HFST hg h2
      go_wp2_with fail
      refine (HVE.out _ RX RP _ _ (HZQ.out _ (Below.refl _ _)).2.2.2.2 (HX.out _ (HZQ.out _ (Below.refl _ _)).2.1) (HL.out _ (HZQ.out _ (Below.refl _ _)).2.1)).mono ?_
      rintro e w7 ⟨rfl,hb7⟩
      rw[HV1.out]
      dsimp only
      have HZ7:Hid (Below (w6.heap.size+1) (w6.alloc (.cells #[.int .i64 1,.slice ax RX.length cx,.slice ap L.length cp] 29)) w7):=hb7.mono (by simp)
      clear hb7
      go_wp2_with fail
      refine (HVE.out w7 vals l _ _ (HZQ.out _ HZ7.out).2.2.2.2 (HV.out _ (HZQ.out _ HZ7.out).2.2.2.2) (HU.out _ (HZQ.out _ HZ7.out).2.2.2.2)).mono ?_
      rintro e w8 ⟨rfl,hb8⟩
      have HZ8:Hid (Below (w6.heap.size+1) (w6.alloc (.cells #[.int .i64 1,.slice ax RX.length cx,.slice ap L.length cp] 29)) w8):=HZ7.out.trans (hb8.mono (Nat.le_trans (by simp) HZ7.out.size))
      clear hb8 HZ7
      obtain⟨z1,z2,z3,z4,z5⟩:=HZQ.out _ HZ8.out
      rw[HV2.out]
      dsimp only
      clear k0 k1 k2 k3 kl
      have k0:=blk9 z3 0 _ rfl
      have k1:=blk9 z3 1 _ rfl
      have k2:=blk9 z3 2 _ rfl
      have k3:=blk9 z3 3 _ rfl
      have kl:=(Array.getElem?_eq_some_iff.1 z3).1
      have HQ8:=(show Hid _ from z3)
      clear z1 z3
      have HB8:=(show Hid _ from z5)
      have HB58:=(show Hid _ from z4)
      clear z2 z4 z5
      go_wp2_with fail
      refine (zEZ m others (.slice a1 m.vars.length c1) (.slice a2 m.cons.length c2) _ _ (HMA.out _ HB58.out) (HO.out _ HB8.out)).mono ?_
      rintro e w9 ⟨rfl,hb9⟩
      rw[HOA.out]
      dsimp only
      have HQ9:=(show Hid _ from (hb9.block _ kl).trans HQ8.out)
      have HB9:Hid (Below w.heap.size w w9):=HB8.out.trans (hb9.mono HB8.out.size)
      clear hb9 k0 k1 k2 k3 kl
      have k2:=blk9 HQ9.out 2 _ rfl
      have k3:=blk9 HQ9.out 3 _ rfl
      have kl:=(Array.getElem?_eq_some_iff.1 HQ9.out).1
      clear HQ8 HB58 HB8 HZ8 HZQ HX HL HB56 HB6 HB5 HB4 HB3 HB2 HB1 HV1
      by_cases e1:V2E=0
      ·subst e1
       cases V2B
       ·clear HSND
        go_wp2
        go_ret
        exact⟨rfl,HB9.out⟩
       ·by_cases e2:OE=0
        ·subst e2
         cases OB
         ·clear HSND
          go_wp2
          go_ret
          exact⟨rfl,HB9.out⟩
         ·obtain⟨b0,b3,b4,g1,g2,g3⟩:=HSND.out rfl rfl
          obtain⟨k,hk⟩:∃k:Nat,m.var=(k:Int):=⟨m.var.toNat,by omega⟩
          have hkv:k<vals.length:=by omega
          have hkx:k<others.length:=by omega
          obtain⟨z,hz⟩:∃z,vals[k]? = some z:=⟨vals[k],by rw[List.getElem?_eq_getElem hkv]⟩
          obtain⟨y,hy⟩:∃y,others[k]? = some y:=⟨others[k],by rw[List.getElem?_eq_getElem hkx]⟩
          have hvz:zAO vals m.var=z:=by unfold zAO;rw[hk,Int.toNat_natCast,List.getD_eq_getElem?_getD,hz];rfl
          have hvy:zAO others m.var=y:=by unfold zAO;rw[hk,Int.toNat_natCast,List.getD_eq_getElem?_getD,hy];rfl
          rw[hvz,hvy] at b3 b4
          obtain⟨bz,oz,ha,hlz,cz⟩:=HVR.out k z hz
          obtain⟨bx,ox,hax,hlx,cx'⟩:=HOR.out k y hy
          subst ha hax
          have dz:=(HB9.out.cell (p:=⟨bz,oz+k,none⟩) hlz).trans cz
          have lz:bz<w9.heap.size:=Nat.lt_of_lt_of_le hlz HB9.out.size
          have dx:=(HB9.out.cell (p:=⟨bx,ox+k,none⟩) hlx).trans cx'
          have lx:bx<w9.heap.size:=Nat.lt_of_lt_of_le hlx HB9.out.size
          rw[hk] at k3
          have q1:(k:Int)<(vals.length:Int):=by omega
          have q2:(k:Int)<(others.length:Int):=by omega
          have q3:((vals.length:Int)==0)=false:=by simp only[beq_eq_false_iff_ne,ne_eq];omega
          have B3:Hid (m.goal=1→z≤y):=b3
          have B4:Hid (m.goal=2→y≤z):=b4
          have HGO:Hid (m.goal≠1→m.goal≠2→True):=fun _ _=>trivial
          clear HSND b0 b3 b4 hvz hvy hz hy cz cx' g1 g2 g3 hk hlz hlx HVR HOR HW
          by_cases hg1:m.goal=1
          ·have hyz:=B3.out hg1
           rw[hg1] at k2
           have hyz':decide (z≤y)=true:=by simpa using hyz
           clear hg1 B3 B4 hyz
           go_wp2_with fail
           go_quiet (fail)
           go_wp2
           go_ret
           exact⟨rfl,below_drewN HB9.out _⟩
          ·by_cases hg2:m.goal=2
           ·have hyz:=B4.out hg2
            rw[hg2] at k2
            have hyz':decide (z≥y)=true:=by simpa using hyz
            clear hg1 hg2 B3 B4 hyz
            go_wp2_with fail
            go_quiet (fail)
            go_wp2
            go_ret
            exact⟨rfl,below_drewN HB9.out _⟩
           ·have hg1':(m.goal==1)=false:=by simpa using hg1
            have hg2':(m.goal==2)=false:=by simpa using hg2
            clear hg1 hg2 B3 B4
            go_wp2
            go_ret
            exact⟨rfl,HB9.out⟩
        ·have he:(OE != 0)=true:=by simpa using e2
         clear e2 HSND
         go_wp2
         go_ret
         exact⟨rfl,HB9.out⟩
      ·have he:(V2E != 0)=true:=by simpa using e1
       clear e1 HSND
       go_wp2
       go_ret
       exact⟨rfl,HB9.out⟩
    ·have h1':(RV==1)=false:=by simpa using h1
     clear h1 h2
     clear HFST
     go_wp2_with fail
     refine (HVE.out _ vals l _ _ (HZQ.out _ (Below.refl _ _)).2.2.2.2 (HV.out _ (HZQ.out _ (Below.refl _ _)).2.2.2.2) (HU.out _ (HZQ.out _ (Below.refl _ _)).2.2.2.2)).mono ?_
     rintro e w8 ⟨rfl,hb8⟩
     have HZ8:Hid (Below (w6.heap.size+1) (w6.alloc (.cells #[.int .i64 RV,.slice ax RX.length cx,.slice ap L.length cp] 29)) w8):=hb8.mono (by simp)
     clear hb8
     obtain⟨z1,z2,z3,z4,z5⟩:=HZQ.out _ HZ8.out
     rw[HV2.out]
     dsimp only
     clear k0 k1 k2 k3 kl
     have k0:=blk9 z3 0 _ rfl
     have k1:=blk9 z3 1 _ rfl
     have k2:=blk9 z3 2 _ rfl
     have k3:=blk9 z3 3 _ rfl
     have kl:=(Array.getElem?_eq_some_iff.1 z3).1
     have HQ8:=(show Hid _ from z3)
     clear z1 z3
     have HB8:=(show Hid _ from z5)
     have HB58:=(show Hid _ from z4)
     clear z2 z4 z5
     go_wp2_with fail
     refine (zEZ m others (.slice a1 m.vars.length c1) (.slice a2 m.cons.length c2) _ _ (HMA.out _ HB58.out) (HO.out _ HB8.out)).mono ?_
     rintro e w9 ⟨rfl,hb9⟩
     rw[HOA.out]
     dsimp only
     have HQ9:=(show Hid _ from (hb9.block _ kl).trans HQ8.out)
     have HB9:Hid (Below w.heap.size w w9):=HB8.out.trans (hb9.mono HB8.out.size)
     clear hb9 k0 k1 k2 k3 kl
     have k2:=blk9 HQ9.out 2 _ rfl
     have k3:=blk9 HQ9.out 3 _ rfl
     have kl:=(Array.getElem?_eq_some_iff.1 HQ9.out).1
     clear HQ8 HB58 HB8 HZ8 HZQ HX HL HB56 HB6 HB5 HB4 HB3 HB2 HB1 HV1
     by_cases e1:V2E=0
     ·subst e1
      cases V2B
      ·clear HSND
       go_wp2
       go_ret
       exact⟨rfl,HB9.out⟩
      ·by_cases e2:OE=0
       ·subst e2
        cases OB
        ·clear HSND
         go_wp2
         go_ret
         exact⟨rfl,HB9.out⟩
        ·obtain⟨b0,b3,b4,g1,g2,g3⟩:=HSND.out rfl rfl
         obtain⟨k,hk⟩:∃k:Nat,m.var=(k:Int):=⟨m.var.toNat,by omega⟩
         have hkv:k<vals.length:=by omega
         have hkx:k<others.length:=by omega
         obtain⟨z,hz⟩:∃z,vals[k]? = some z:=⟨vals[k],by rw[List.getElem?_eq_getElem hkv]⟩
         obtain⟨y,hy⟩:∃y,others[k]? = some y:=⟨others[k],by rw[List.getElem?_eq_getElem hkx]⟩
         have hvz:zAO vals m.var=z:=by unfold zAO;rw[hk,Int.toNat_natCast,List.getD_eq_getElem?_getD,hz];rfl
         have hvy:zAO others m.var=y:=by unfold zAO;rw[hk,Int.toNat_natCast,List.getD_eq_getElem?_getD,hy];rfl
         rw[hvz,hvy] at b3 b4
         obtain⟨bz,oz,ha,hlz,cz⟩:=HVR.out k z hz
         obtain⟨bx,ox,hax,hlx,cx'⟩:=HOR.out k y hy
         subst ha hax
         have dz:=(HB9.out.cell (p:=⟨bz,oz+k,none⟩) hlz).trans cz
         have lz:bz<w9.heap.size:=Nat.lt_of_lt_of_le hlz HB9.out.size
         have dx:=(HB9.out.cell (p:=⟨bx,ox+k,none⟩) hlx).trans cx'
         have lx:bx<w9.heap.size:=Nat.lt_of_lt_of_le hlx HB9.out.size
         rw[hk] at k3
         have q1:(k:Int)<(vals.length:Int):=by omega
         have q2:(k:Int)<(others.length:Int):=by omega
         have q3:((vals.length:Int)==0)=false:=by simp only[beq_eq_false_iff_ne,ne_eq];omega
         have B3:Hid (m.goal=1→z≤y):=b3
         have B4:Hid (m.goal=2→y≤z):=b4
         have HGO:Hid (m.goal≠1→m.goal≠2→True):=fun _ _=>trivial
         clear HSND b0 b3 b4 hvz hvy hz hy cz cx' g1 g2 g3 hk hlz hlx HVR HOR HW
         by_cases hg1:m.goal=1
         ·have hyz:=B3.out hg1
          rw[hg1] at k2
          have hyz':decide (z≤y)=true:=by simpa using hyz
          clear hg1 B3 B4 hyz
          go_wp2_with fail
          go_quiet (fail)
          go_wp2
          go_ret
          exact⟨rfl,below_drewN HB9.out _⟩
         ·by_cases hg2:m.goal=2
          ·have hyz:=B4.out hg2
           rw[hg2] at k2
           have hyz':decide (z≥y)=true:=by simpa using hyz
           clear hg1 hg2 B3 B4 hyz
           go_wp2_with fail
           go_quiet (fail)
           go_wp2
           go_ret
           exact⟨rfl,below_drewN HB9.out _⟩
          ·have hg1':(m.goal==1)=false:=by simpa using hg1
           have hg2':(m.goal==2)=false:=by simpa using hg2
           clear hg1 hg2 B3 B4
           go_wp2
           go_ret
           exact⟨rfl,HB9.out⟩
       ·have he:(OE != 0)=true:=by simpa using e2
        clear e2 HSND
        go_wp2
        go_ret
        exact⟨rfl,HB9.out⟩
     ·have he:(V2E != 0)=true:=by simpa using e1
      clear e1 HSND
      go_wp2
      go_ret
      exact⟨rfl,HB9.out⟩
  ·have hRE':(RE==0)=false:=by simpa using hRE
   clear hRE
   clear HFST
   go_wp2_with fail
   refine (HVE.out _ vals l _ _ (HZQ.out _ (Below.refl _ _)).2.2.2.2 (HV.out _ (HZQ.out _ (Below.refl _ _)).2.2.2.2) (HU.out _ (HZQ.out _ (Below.refl _ _)).2.2.2.2)).mono ?_
   rintro e w8 ⟨rfl,hb8⟩
   have HZ8:Hid (Below (w6.heap.size+1) (w6.alloc (.cells #[.int .i64 RV,.slice ax RX.length cx,.slice ap L.length cp] 29)) w8):=hb8.mono (by simp)
   clear hb8
   obtain⟨z1,z2,z3,z4,z5⟩:=HZQ.out _ HZ8.out
   rw[HV2.out]
   dsimp only
   clear k0 k1 k2 k3 kl
   have k0:=blk9 z3 0 _ rfl
   have k1:=blk9 z3 1 _ rfl
   have k2:=blk9 z3 2 _ rfl
   have k3:=blk9 z3 3 _ rfl
   have kl:=(Array.getElem?_eq_some_iff.1 z3).1
   have HQ8:=(show Hid _ from z3)
   clear z1 z3
   have HB8:=(show Hid _ from z5)
   have HB58:=(show Hid _ from z4)
   clear z2 z4 z5
   go_wp2_with fail
   refine (zEZ m others (.slice a1 m.vars.length c1) (.slice a2 m.cons.length c2) _ _ (HMA.out _ HB58.out) (HO.out _ HB8.out)).mono ?_
   rintro e w9 ⟨rfl,hb9⟩
   rw[HOA.out]
   dsimp only
   have HQ9:=(show Hid _ from (hb9.block _ kl).trans HQ8.out)
   have HB9:Hid (Below w.heap.size w w9):=HB8.out.trans (hb9.mono HB8.out.size)
   clear hb9 k0 k1 k2 k3 kl
   have k2:=blk9 HQ9.out 2 _ rfl
   have k3:=blk9 HQ9.out 3 _ rfl
   have kl:=(Array.getElem?_eq_some_iff.1 HQ9.out).1
   clear HQ8 HB58 HB8 HZ8 HZQ HX HL HB56 HB6 HB5 HB4 HB3 HB2 HB1 HV1
   by_cases e1:V2E=0
   ·subst e1
    cases V2B
    ·clear HSND
     go_wp2
     go_ret
     exact⟨rfl,HB9.out⟩
    ·by_cases e2:OE=0
     ·subst e2
      cases OB
      ·clear HSND
       go_wp2
       go_ret
       exact⟨rfl,HB9.out⟩
      ·obtain⟨b0,b3,b4,g1,g2,g3⟩:=HSND.out rfl rfl
       obtain⟨k,hk⟩:∃k:Nat,m.var=(k:Int):=⟨m.var.toNat,by omega⟩
       have hkv:k<vals.length:=by omega
       have hkx:k<others.length:=by omega
       obtain⟨z,hz⟩:∃z,vals[k]? = some z:=⟨vals[k],by rw[List.getElem?_eq_getElem hkv]⟩
       obtain⟨y,hy⟩:∃y,others[k]? = some y:=⟨others[k],by rw[List.getElem?_eq_getElem hkx]⟩
       have hvz:zAO vals m.var=z:=by unfold zAO;rw[hk,Int.toNat_natCast,List.getD_eq_getElem?_getD,hz];rfl
       have hvy:zAO others m.var=y:=by unfold zAO;rw[hk,Int.toNat_natCast,List.getD_eq_getElem?_getD,hy];rfl
       rw[hvz,hvy] at b3 b4
       obtain⟨bz,oz,ha,hlz,cz⟩:=HVR.out k z hz
       obtain⟨bx,ox,hax,hlx,cx'⟩:=HOR.out k y hy
       subst ha hax
       have dz:=(HB9.out.cell (p:=⟨bz,oz+k,none⟩) hlz).trans cz
       have lz:bz<w9.heap.size:=Nat.lt_of_lt_of_le hlz HB9.out.size
       have dx:=(HB9.out.cell (p:=⟨bx,ox+k,none⟩) hlx).trans cx'
       have lx:bx<w9.heap.size:=Nat.lt_of_lt_of_le hlx HB9.out.size
       rw[hk] at k3
       have q1:(k:Int)<(vals.length:Int):=by omega
       have q2:(k:Int)<(others.length:Int):=by omega
       have q3:((vals.length:Int)==0)=false:=by simp only[beq_eq_false_iff_ne,ne_eq];omega
       have B3:Hid (m.goal=1→z≤y):=b3
       have B4:Hid (m.goal=2→y≤z):=b4
       have HGO:Hid (m.goal≠1→m.goal≠2→True):=fun _ _=>trivial
       clear HSND b0 b3 b4 hvz hvy hz hy cz cx' g1 g2 g3 hk hlz hlx HVR HOR HW
       by_cases hg1:m.goal=1
       ·have hyz:=B3.out hg1
        rw[hg1] at k2
        have hyz':decide (z≤y)=true:=by simpa using hyz
        clear hg1 B3 B4 hyz
        go_wp2_with fail
        go_quiet (fail)
        go_wp2
        go_ret
        exact⟨rfl,below_drewN HB9.out _⟩
       ·by_cases hg2:m.goal=2
        ·have hyz:=B4.out hg2
         rw[hg2] at k2
         have hyz':decide (z≥y)=true:=by simpa using hyz
         clear hg1 hg2 B3 B4 hyz
         go_wp2_with fail
         go_quiet (fail)
         go_wp2
         go_ret
         exact⟨rfl,below_drewN HB9.out _⟩
        ·have hg1':(m.goal==1)=false:=by simpa using hg1
         have hg2':(m.goal==2)=false:=by simpa using hg2
         clear hg1 hg2 B3 B4
         go_wp2
         go_ret
         exact⟨rfl,HB9.out⟩
     ·have he:(OE != 0)=true:=by simpa using e2
      clear e2 HSND
      go_wp2
      go_ret
      exact⟨rfl,HB9.out⟩
   ·have he:(V2E != 0)=true:=by simpa using e1
    clear e1 HSND
    go_wp2
    go_ret
    exact⟨rfl,HB9.out⟩
 ·have he':(er != 0)=true:=by simpa using he
  clear he HWP
  go_wp2
  go_ret
  exact⟨rfl,HB5.out.alloc HB5.out.size _⟩
open Go.ChangeShapes Go.WideShapes Go.ChangeAt Go.RowKit Go.Deep
theorem Tryz.underClause:Tryz.prog.underlying 38=some (.slice 88):=by kernel_rfl
section
variable {H:Type} {enc:TypeId×Value→H} {w:World} {base:Nat} {spare:Nat→Bool} {held:Bool}
theorem zSa {fuel:Nat} {cs:List Value} {x:DataW H×List MemPlace} (h:DataW.trod enc Tryz.prog w base spare held fuel 38 cs=some x) :
 ∃v l,cs=[v]∧LArg w v l:=by
 have hinh:Inhabited MLit:=⟨⟨0,0,0⟩⟩
 obtain⟨l,a,c,hcs,hm,hr⟩:=zGd (α:=MLit) Tryz.underClause Tryz.cLit (by decide) (fun t=>[.int .i64 t.var,.int .i64 t.op,.int .i64 t.n]) (fun _=>True)
  (fun n cs' x' h'=>by obtain⟨t,ht⟩:=zSv h';exact⟨t,ht,trivial⟩) h
 refine⟨_,l,hcs,a,c,rfl,hm,fun i z hz=>?_⟩
 obtain⟨_,b,off,ha,hb,hc⟩:=hr i z hz
 have e0:=hc 0 _ rfl
 have e1:=hc 1 _ rfl
 have e2:=hc 2 _ rfl
 rw[←Nat.add_assoc] at e0 e1 e2
 exact⟨b,off,ha,hb,e0,e1,e2⟩
end
theorem Tryz.cClause:Tryz.prog.cellsOf 38=1:=by kernel_rfl
theorem Tryz.underSteps:Tryz.prog.underlying 27=some (.slice 93):=by kernel_rfl
theorem Tryz.cStep:Tryz.prog.cellsOf 93=3:=by kernel_rfl
section
variable {H:Type} {enc:TypeId×Value→H} {w:World} {base:Nat} {spare:Nat→Bool} {held:Bool}
set_option maxRecDepth 100000 in
theorem zSb {n:Nat} {cs:List Value} {x:DataW H×List MemPlace} (h:DataW.trod enc Tryz.prog w base spare held n 93 cs=some x) :
 ∃(k c:Int) (v:Value) (l:Cla),cs=[.int .i64 k,.int .i64 c,v]∧LArg w v l:=by
 obtain⟨xs,k,_,_,hl,hxl,hf⟩:=DataW.trod_struct Tryz.underlying93 h
 rw[Tryz.cStep] at hl
 match cs,hl,xs,hxl with
 | [c0,c1,c2],_,[y0,y1,y2],_ =>
   have g0:=hf 0 _ rfl
   have g1:=hf 1 _ rfl
   have g2:=hf 2 _ rfl
   obtain⟨k,hk,_,_⟩:=DataW.trod_int Tryz.underlying3 g0
   obtain⟨p,hp,_,_⟩:=DataW.trod_int Tryz.underlying3 g1
   obtain⟨v,l,hv,hi⟩:=zSa g2
   change List.take (Tryz.prog.cellsOf 3) [c0,c1,c2]=_ at hk
   change List.take (Tryz.prog.cellsOf 3) [c1,c2]=_ at hp
   change List.take (Tryz.prog.cellsOf 38) [c2]=_ at hv
   rw[Tryz.cInt] at hk hp
   rw[Tryz.cClause] at hv
   simp at hk hp hv
   exact⟨k,p,v,l,by rw[hk,hp,hv],hi⟩
theorem zPH {fuel:Nat} {cs:List Value} {x:DataW H×List MemPlace} (h:DataW.trod enc Tryz.prog w base spare held fuel 27 cs=some x) :
 ∃v l,cs=[v]∧zEl w v l:=by
 have hinh:Inhabited (Value×MStep):=⟨(.nilFunc,⟨0,0,[]⟩)⟩
 obtain⟨l,a,c,hcs,hm,hr⟩:=zGd (α:=Value×MStep) Tryz.underSteps Tryz.cStep (by decide) (fun z=>[.int .i64 z.2.kind,.int .i64 z.2.con,z.1]) (fun z=>LArg w z.1 z.2.cla)
  (fun n cs' x' h'=>by obtain⟨k,p,v,r,hz,hi⟩:=zSb h';exact⟨(v,⟨k,p,r⟩),hz,hi⟩) h
 refine⟨_,l.map (·.2),hcs,a,c,by simp,by simpa using hm,fun i r hr'=>?_⟩
 rw[List.getElem?_map] at hr'
 obtain⟨⟨v,r2⟩,hz,rfl⟩:=Option.map_eq_some_iff.1 hr'
 obtain⟨hg,b,off,ha,hb,hc⟩:=hr i _ hz
 have e0:=hc 0 _ rfl
 have e1:=hc 1 _ rfl
 have e2:=hc 2 _ rfl
 rw[←Nat.add_assoc] at e0 e1 e2
 exact⟨b,off,v,ha,hb,e0,e1,e2,hg⟩
end
end Go.Proofs.YtdjbejlbmaiocagGreatDoor
