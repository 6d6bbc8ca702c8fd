/- What the proof leans on, part 47. -/
import Derived.Test.YtdjbejlbmaiocafGreatDoorPartBt
namespace Go.Proofs.YtdjbejlbmaiocafGreatDoor
open Go.RowKit
theorem AnsQ.forms7 {base:Nat} {w:World} {vv pp:Value} {a:Ans} (h:AnsQ base w vv pp a):∃L:List SV,L.map (·.1)=a.proof∧(∃ax cx,vv=.slice ax a.values.length cx)∧(∃ap cp,pp=.slice ap L.length cp)∧IArg w vv a.values∧zAt base w pp L:=by
 obtain⟨L,h1,h2⟩:=h.prf
 exact⟨L,h2,zAC h.val,zAC h1.1,zCf h.val,h1⟩
set_option maxHeartbeats 3200000 in
set_option maxRecDepth 100000 in
theorem zEy (m:Mod) (fuel more:Int) (vs cs:Value) (w:World) (hma:MArg w vs cs m) (hT:TabT w) :
 Calls Tryz.prog 4 #[modV vs cs m,.int .i64 fuel,.int .i64 more] w fun e w'=>e=.returned (.bool true)∧Below w.heap.size w w':=by
 have HMA:Hid (∀w',Below w.heap.size w w'→MArg w' vs cs m):=fun w' h=>MArg.below h hma
 have HT:Hid (∀w',Below w.heap.size w w'→TabT w'):=fun w' h=>hT.below h
 obtain⟨⟨a1,c1,rfl,_,_⟩,⟨a2,c2,rfl,_,_⟩⟩:=hma
 have HSM:Hid ((zAa m fuel).2=0→(zAa m more).2=0→fuel≤more→(zAa m fuel).1.verdict≠3→(zAa m more).1=(zAa m fuel).1):=zIb m fuel more
 obtain⟨⟨⟨V,X,P⟩,E⟩,hR⟩:∃R,zAa m fuel=R:=⟨_,rfl⟩
 obtain⟨⟨⟨V2,X2,P2⟩,E2⟩,hR2⟩:∃R,zAa m more=R:=⟨_,rfl⟩
 have HR:Hid (zAa m fuel=(⟨V,X,P⟩,E)):=hR
 have HR2:Hid (zAa m more=(⟨V2,X2,P2⟩,E2)):=hR2
 rw[hR,hR2] at HSM
 clear hR hR2 hT
 unfold modV
 go_enter Tryz.func4,Tryz.ntmps4
 go_wp2_with fail
 have hbY:Below w.heap.size w (w.alloc (.cells #[.slice a1 m.vars.length c1,.slice a2 m.cons.length c2,.int .i64 m.goal,.int .i64 m.var] 25)):=zAA _ _
 refine (zDS m fuel _ _ _ (HMA.out _ hbY) (HT.out _ hbY)).mono ?_
 rintro e w1 ⟨vv,pp,rfl,hq,hb1⟩
 rw[HR.out] at hq ⊢
 dsimp only at hq ⊢
 have HQ1:Hid (w1.heap[w.heap.size]? = some (.cells #[.slice a1 m.vars.length c1,.slice a2 m.cons.length c2,.int .i64 m.goal,.int .i64 m.var] 25)):=(hb1.block _ (by simp)).trans (heap_alloc_new _ _)
 have HB1:Hid (Below w.heap.size w w1):=hbY.trans (hb1.mono (by simp))
 obtain⟨L,hLP,⟨ax,cx,rfl⟩,⟨ap,cp,rfl⟩,hxi,hst⟩:=hq.forms7
 dsimp only at hLP hxi
 have HXI:Hid (∀Y,Below w1.heap.size w1 Y→IArg Y (.slice ax X.length cx) X):=fun Y h=>IArg.below h hxi
 have HST:Hid (∀Y,Below w1.heap.size w1 Y→zAt _ Y (.slice ap L.length cp) L):=fun Y h=>hst.below h
 have HLP:Hid (L.map (·.1)=P):=hLP
 clear hq hb1 hbY hxi hst hLP
 have k0:=blk9 HQ1.out 0 _ rfl
 have k1:=blk9 HQ1.out 1 _ rfl
 have k2:=blk9 HQ1.out 2 _ rfl
 have k3:=blk9 HQ1.out 3 _ rfl
 have kl:=(Array.getElem?_eq_some_iff.1 HQ1.out).1
 go_wp2_with fail
 have hbZ:Below w1.heap.size w1 (w1.alloc (.cells #[.int .i64 V,.slice ax X.length cx,.slice ap L.length cp] 29)):=zAA _ _
 refine (zDS m more _ _ _ (HMA.out _ (HB1.out.trans (hbZ.mono HB1.out.size))) (HT.out _ (HB1.out.trans (hbZ.mono HB1.out.size)))).mono ?_
 rintro e w2 ⟨vv,pp,rfl,hq,hb2⟩
 rw[HR2.out] at hq ⊢
 dsimp only at hq ⊢
 have HZ2:Hid (w2.heap[w1.heap.size]? = some (.cells #[.int .i64 V,.slice ax X.length cx,.slice ap L.length cp] 29)):=(hb2.block _ (by simp)).trans (heap_alloc_new _ _)
 have HB12:Hid (Below w1.heap.size w1 w2):=hbZ.trans (hb2.mono (by simp))
 obtain⟨L2,hLP,⟨bx,dx,rfl⟩,⟨bp,dp,rfl⟩,hxi,hst⟩:=hq.forms7
 dsimp only at hLP hxi
 have HXI2:Hid (∀Y,Below w2.heap.size w2 Y→IArg Y (.slice bx X2.length dx) X2):=fun Y h=>IArg.below h hxi
 have HST2:Hid (∀Y,Below w2.heap.size w2 Y→zAt _ Y (.slice bp L2.length dp) L2):=fun Y h=>hst.below h
 have HLP2:Hid (L2.map (·.1)=P2):=hLP
 clear hq hb2 hbZ hxi hst hLP k0 k1 k2 k3 kl
 have HB2:Hid (Below w.heap.size w w2):=HB1.out.trans (HB12.out.mono HB1.out.size)
 go_wp2_with fail
 have hbV:Below w2.heap.size w2 (w2.alloc (.cells #[.int .i64 V2,.slice bx X2.length dx,.slice bp L2.length dp] 29)):=zAA _ _
 refine (zDv _ (HT.out _ (HB2.out.trans (hbV.mono HB2.out.size)))).mono ?_
 rintro e w3 ⟨rfl,hb3⟩
 have HB23:Hid (Below w2.heap.size w2 w3):=hbV.trans (hb3.mono (by simp))
 have HB13:Hid (Below w1.heap.size w1 w3):=HB12.out.trans (HB23.out.mono HB12.out.size)
 have HB3:Hid (Below w.heap.size w w3):=HB2.out.trans (HB23.out.mono HB2.out.size)
 have hU3:w3.heap[w2.heap.size]? = some (.cells #[.int .i64 V2,.slice bx X2.length dx,.slice bp L2.length dp] 29):=(hb3.block _ (by simp)).trans (heap_alloc_new _ _)
 have hZ3:=(HB23.out.block _ (Array.getElem?_eq_some_iff.1 HZ2.out).1).trans HZ2.out
 have i0:=blk9 hZ3 0 _ rfl
 have i1:=blk9 hZ3 1 _ rfl
 have i2:=blk9 hZ3 2 _ rfl
 have il:=(Array.getElem?_eq_some_iff.1 hZ3).1
 have j0:=blk9 hU3 0 _ rfl
 have j1:=blk9 hU3 1 _ rfl
 have j2:=blk9 hU3 2 _ rfl
 have jl:=(Array.getElem?_eq_some_iff.1 hU3).1
 clear hb3 hbV hU3 hZ3 HZ2 HQ1
 by_cases h1:E=0
 ·by_cases h2:E2=0
  ·by_cases h3:more<fuel
   ·subst h1 h2
    go_wp2
    go_ret
    exact⟨rfl,HB3.out⟩
   ·by_cases h4:V=3
    ·subst h1 h2 h4
     go_wp2
     go_ret
     exact⟨rfl,HB3.out⟩
    ·have hsm:=HSM.out h1 h2 (by omega) h4
     injection hsm with e1 e2 e3
     subst h1 h2 e1 e2 e3
     have h4b:(V2==3)=false:=by simpa using h4
     go_wp2_with fail
     refine (zCd X2 X2 _ _ _ (HXI.out _ HB13.out) (HXI2.out _ HB23.out)).mono ?_
     rintro e w4 ⟨rfl,n4,rfl⟩
     rw[decide_eq_true (show X2=X2 from rfl)]
     go_wp2_with fail
     refine (zGY P2 L L2 _ _ _ _ _ (HST.out _ (below_drewN HB13.out _)) (HST2.out _ (below_drewN HB23.out _)) HLP.out HLP2.out).mono ?_
     rintro e w5 ⟨rfl,n5,rfl⟩
     go_wp2
     go_ret
     exact⟨rfl,below_drewN HB3.out _⟩
  ·have h2b:(E2 != 0)=true:=by simpa using h2
   subst h1
   go_wp2
   go_ret
   exact⟨rfl,HB3.out⟩
 ·have h1b:(E != 0)=true:=by simpa using h1
  go_wp2
  go_ret
  exact⟨rfl,HB3.out⟩
theorem zHH (m:Mod) (fuel:Int):zJB m (fun _=>True) (zBT fuel):=fun x _ _ c hc=>by simp[zBT] at hc
theorem zIc (m:Mod) (fuel:Int) (h:(zAa m fuel).2=0):zAI m=0∧((zAa m fuel).1.verdict=2→allL m=[])∧((zAa m fuel).1.verdict=1→(zAa m fuel).1.values∈allL m):=by
 unfold zAa at h ⊢
 by_cases hm:zAI m=0
 ·rw[if_pos hm] at h ⊢
  by_cases hf:fuel<0∨300<fuel
  ·rw[if_pos hf] at h;cases h
  ·rw[if_neg hf] at h ⊢
   obtain⟨_,s2,s3,_⟩:=zDc m hm (fun _=>True) _ (zBT fuel) (Nat.lt_succ_self _) (zHH m fuel)
   have e:zA4 m.vars (ptsM m) (zBT fuel)=zBz m fuel:=rfl
   rw[e] at s2 s3
   by_cases h2:(zBz m fuel).1=2
   ·rw[if_pos h2] at h ⊢
    refine⟨hm,fun _=>List.eq_nil_iff_forall_not_mem.2 fun x hx=>s3 h2 x ((zJG m hm x).1 hx) trivial,fun hv=>by cases hv⟩
   ·rw[if_neg h2] at h ⊢
    exact⟨hm,fun hv=>absurd hv h2,fun hv=>(zJG m hm _).2 (s2 hv).1⟩
 ·rw[if_neg hm] at h;exact absurd h hm
theorem zLo (l:List (List Int)) (x:List Int) (h:x∈l) (hn:x∉l.take 200):decide (l.length≤200)=false:=by
 refine decide_eq_false fun hl=>hn ?_
 rw[List.take_of_length_le hl];exact h
set_option maxHeartbeats 3200000 in
set_option maxRecDepth 100000 in
theorem zDy (m:Mod) (fuel:Int) (vs cs:Value) (w:World) (hma:MArg w vs cs m) (hT:TabT w) :
 Calls Tryz.prog 6 #[modV vs cs m,.int .i64 fuel] w fun e w'=>e=.returned (.bool true)∧Below w.heap.size w w':=by
 have HMA:Hid (∀w',Below w.heap.size w w'→MArg w' vs cs m):=fun w' h=>MArg.below h hma
 have HT:Hid (∀w',Below w.heap.size w w'→TabT w'):=fun w' h=>hT.below h
 obtain⟨⟨a1,c1,rfl,_,_⟩,⟨a2,c2,rfl,_,_⟩⟩:=hma
 have HSL:Hid ((zAa m fuel).2=0→zAI m=0∧((zAa m fuel).1.verdict=2→allL m=[])∧((zAa m fuel).1.verdict=1→(zAa m fuel).1.values∈allL m)):=zIc m fuel
 obtain⟨⟨⟨V,X,P⟩,E⟩,hR⟩:∃R,zAa m fuel=R:=⟨_,rfl⟩
 have HR:Hid (zAa m fuel=(⟨V,X,P⟩,E)):=hR
 rw[hR] at HSL
 obtain⟨⟨LL,AL,F⟩,hR2⟩:∃R,zDx m=R:=⟨_,rfl⟩
 have HR2:Hid (zDx m=(LL,AL,F)):=hR2
 have HLL:Hid (E=0→(V=2→LL=[]∧AL=true)∧(V=1→X∈LL∨AL=false)):=fun he=>by
  obtain⟨g0,g1,g2⟩:=HSL.out he
  have h:=HR2.out
  unfold zDx at h
  rw[if_pos g0] at h
  injection h with h1 h2
  injection h2 with h2 _
  refine⟨fun hv=>?_,fun hv=>?_⟩
  ·rw[←h1,←h2,g1 hv];exact⟨rfl,rfl⟩
  ·by_cases hx:X∈LL
   ·exact Or.inl hx
   ·right
    rw[←h2]
    rw[←h1] at hx
    exact zLo _ _ (g2 hv) hx
 clear hR hR2 hT HSL
 unfold modV
 go_enter Tryz.func6,Tryz.ntmps6
 go_wp2_with fail
 have hbY:Below w.heap.size w (w.alloc (.cells #[.slice a1 m.vars.length c1,.slice a2 m.cons.length c2,.int .i64 m.goal,.int .i64 m.var] 25)):=zAA _ _
 refine (zDS m fuel _ _ _ (HMA.out _ hbY) (HT.out _ hbY)).mono ?_
 rintro e w1 ⟨vv,pp,rfl,hq,hb1⟩
 rw[HR.out] at hq ⊢
 dsimp only at hq ⊢
 have HQ1:Hid (w1.heap[w.heap.size]? = some (.cells #[.slice a1 m.vars.length c1,.slice a2 m.cons.length c2,.int .i64 m.goal,.int .i64 m.var] 25)):=(hb1.block _ (by simp)).trans (heap_alloc_new _ _)
 have HB1:Hid (Below w.heap.size w w1):=hbY.trans (hb1.mono (by simp))
 obtain⟨L,_,⟨ax,cx,rfl⟩,⟨ap,cp,rfl⟩,hxi,_⟩:=hq.forms7
 dsimp only at hxi
 have HXI:Hid (∀Y,Below w1.heap.size w1 Y→IArg Y (.slice ax X.length cx) X):=fun Y h=>IArg.below h hxi
 clear hq hb1 hbY hxi
 have k0:=blk9 HQ1.out 0 _ rfl
 have k1:=blk9 HQ1.out 1 _ rfl
 have k2:=blk9 HQ1.out 2 _ rfl
 have k3:=blk9 HQ1.out 3 _ rfl
 have kl:=(Array.getElem?_eq_some_iff.1 HQ1.out).1
 go_wp2_with fail
 have hbZ:Below w1.heap.size w1 (w1.alloc (.cells #[.int .i64 V,.slice ax X.length cx,.slice ap L.length cp] 29)):=zAA _ _
 refine (zGW m _ _ _ (HMA.out _ (HB1.out.trans (hbZ.mono HB1.out.size)))).mono ?_
 rintro e w2 ⟨hb2,x,rfl,hx⟩
 rw[HR2.out] at hx ⊢
 dsimp only at hx ⊢
 have HZ2:Hid (w2.heap[w1.heap.size]? = some (.cells #[.int .i64 V,.slice ax X.length cx,.slice ap L.length cp] 29)):=(hb2.block _ (by simp)).trans (heap_alloc_new _ _)
 have HB12:Hid (Below w1.heap.size w1 w2):=hbZ.trans (hb2.mono (by simp))
 have HX:Hid (∀Y,Below w2.heap.size w2 Y→RArg Y x LL):=fun Y h=>RArg.below h hx.arg
 obtain⟨aL,cL,hxf⟩:=hx.form
 subst hxf
 clear hbZ hb2 hx k0 k1 k2 k3 kl
 have HB2:Hid (Below w.heap.size w w2):=HB1.out.trans (HB12.out.mono HB1.out.size)
 go_wp2_with fail
 refine (zDv _ (HT.out _ HB2.out)).mono ?_
 rintro e w3 ⟨rfl,hb3⟩
 have HB13:Hid (Below w1.heap.size w1 w3):=HB12.out.trans (hb3.mono HB12.out.size)
 have HB3:Hid (Below w.heap.size w w3):=HB2.out.trans (hb3.mono HB2.out.size)
 have hZ3:=(hb3.block _ (Array.getElem?_eq_some_iff.1 HZ2.out).1).trans HZ2.out
 have i0:=blk9 hZ3 0 _ rfl
 have i1:=blk9 hZ3 1 _ rfl
 have il:=(Array.getElem?_eq_some_iff.1 hZ3).1
 have hx3:=HX.out _ hb3
 have HX3:Hid (RArg w3 (.slice aL LL.length cL) LL):=hx3
 obtain⟨_,_,hxe,⟨hm1,hm2⟩,_⟩:=hx3
 cases hxe
 unfold maxLen at hm2
 clear hb3 hZ3 HZ2 HQ1 HX
 by_cases h1:E=0
 ·obtain⟨g1,g2⟩:=HLL.out h1
  by_cases h2:F=0
  ·by_cases h3:V=2
   ·obtain⟨rfl,rfl⟩:=g1 h3
    subst h1 h2 h3
    clear g1 g2
    go_wp2
    go_ret
    exact⟨rfl,HB3.out⟩
   ·by_cases h4:V=1
    ·have HG:Hid (X∈LL∨AL=false):=g2 h4
     subst h1 h2 h4
     clear g1 g2 h3
     go_wp2_with fail
     go_loopw [10] (fun i wr=>∃k:Nat,k≤LL.length∧i=.int .i64 k∧Hid (X∉LL.take k)∧∃n,wr=w3.drewN n) (fun i _=>LL.length - (intOf i).toNat)
     case atStart=>exact⟨0,by omega,rfl,(by simp[Hid]),0,rfl⟩
     case round =>
      obtain⟨k,hk,rfl,HN,nq,rfl⟩:=hrel
      by_cases hlt:k<LL.length
      ·obtain⟨y,hy⟩:∃y,LL[k]? = some y:=⟨LL[k],by simp[hlt]⟩
       obtain⟨b,off,vx,rfl,hb,hc,hix⟩:=RArg.at HX3.out k y hy
       have HIX:Hid (IArg w3 vx y):=hix
       obtain⟨a5,c5,rfl,_,_⟩:=hix
       obtain⟨Z,hZ⟩:∃Z,decide (y=X)=Z:=⟨_,rfl⟩
       have HNX:Hid (Z=false→X∉LL.take (k+1)):=fun hf=>by
        rw[List.take_add_one,hy]
        intro hm
        rcases List.mem_append.1 hm with hm | hm
        ·exact HN.out hm
        ·have:X=y:=by simpa using hm
         rw[hf,decide_eq_false_iff_not] at hZ
         exact hZ this.symm
       have HS:Hid (∀p q,Calls Tryz.prog 18 #[.slice a5 y.length c5,.slice ax X.length cx] (w3.drewN (p+q)) fun e w'=>e=.returned (.bool Z)∧∃n,w'=w3.drewN (p+n)):=by
        intro p q
        refine (zCd y X _ _ (w3.drewN (p+q)) (IArg.below (below_drewN (Below.refl _ _) _) HIX.out) (HXI.out _ (below_drewN HB13.out _))).mono ?_
        rintro e w' ⟨rfl,n,rfl⟩
        exact⟨by rw[hZ],q+n,by rw[zBj,Nat.add_assoc]⟩
       clear hy hZ
       cases Z
       ·have HN2:Hid (X∉LL.take (k+1)):=HNX.out rfl
        clear HNX
        go_wp2
        go_quiet ((go_at_call 18;exact HS.out _ _))
        go_wp2
        go_roundw
        case rel=>exact⟨k+1,by omega,by go_num,HN2,_,rfl⟩
        case measure=>simp[intOf];omega
       ·go_wp2
        go_quiet ((go_at_call 18;exact HS.out _ _))
        go_wp2
        go_ret
        exact⟨rfl,below_drewN (below_drewN HB3.out _) _⟩
      ·have hAL:AL=false:=by
        rcases HG.out with hg | hg
        ·have:=HN.out
         rw[List.take_of_length_le (by omega)] at this
         exact absurd hg this
        ·exact hg
       subst hAL
       go_wp2
       go_ret
       exact⟨rfl,below_drewN HB3.out _⟩
    ·have h3b:(V==2)=false:=by simpa using h3
     have h4b:(V==1)=false:=by simpa using h4
     subst h1 h2
     go_wp2
     go_ret
     exact⟨rfl,HB3.out⟩
  ·have h2b:(F != 0)=true:=by simpa using h2
   subst h1
   go_wp2
   go_ret
   exact⟨rfl,HB3.out⟩
 ·have h1b:(E != 0)=true:=by simpa using h1
  go_wp2
  go_ret
  exact⟨rfl,HB3.out⟩
end Go.Proofs.YtdjbejlbmaiocafGreatDoor
