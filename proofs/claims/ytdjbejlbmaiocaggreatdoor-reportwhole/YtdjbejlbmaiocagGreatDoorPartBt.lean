/- What the proof leans on, part 46. -/
import Derived.Test.YtdjbejlbmaiocagGreatDoorPartBk
import Derived.Test.YtdjbejlbmaiocagGreatDoorPartBc
import Derived.Test.YtdjbejlbmaiocagGreatDoorPartBs
import Derived.Deep.RegionHeld3
import Derived.Test.YtdjbejlbmaiocagGreatDoorPartAf
import Derived.Test.YtdjbejlbmaiocagGreatDoorPartAh
import Derived.Test.YtdjbejlbmaiocagGreatDoorPartBl
import Derived.Test.YtdjbejlbmaiocagGreatDoorPartBd
namespace Go.Proofs.YtdjbejlbmaiocagGreatDoor
open Go.RowKit
theorem VArg.nth {w:World} {a:Option Addr} {n c:Nat} {l:List MVar} (h:VArg w (.slice a n c) l) (i:Nat) (t:MVar) (hr:l[i]? = some t):t.name.size≤maxLen∧∃b off,a=some ⟨b,off,none⟩∧b<w.heap.size ∧
 w.cell? ⟨b,off+i * 3,none⟩=some (.string t.name)∧w.cell? ⟨b,off+i * 3+1,none⟩=some (.int .i64 t.lo)∧w.cell? ⟨b,off+i * 3+2,none⟩=some (.int .i64 t.hi):=by
 obtain⟨a',c',hv,_,hh⟩:=h
 cases hv
 exact hh i t hr
theorem CArg.nth {w:World} {a:Option Addr} {n c:Nat} {l:List MCon} (h:CArg w (.slice a n c) l) (i:Nat) (t:MCon) (hr:l[i]? = some t):∃b off vv vc vr vl,a=some ⟨b,off,none⟩∧b<w.heap.size ∧
 w.cell? ⟨b,off+i * 6,none⟩=some (.int .i64 t.kind)∧w.cell? ⟨b,off+i * 6+1,none⟩=some vv∧w.cell? ⟨b,off+i * 6+2,none⟩=some vc ∧
 w.cell? ⟨b,off+i * 6+3,none⟩=some (.int .i64 t.n)∧w.cell? ⟨b,off+i * 6+4,none⟩=some vr∧w.cell? ⟨b,off+i * 6+5,none⟩=some vl∧KArg w vv vc vr vl t:=by
 obtain⟨a',c',hv,_,hh⟩:=h
 cases hv
 exact hh i t hr
set_option maxHeartbeats 3200000 in
set_option maxRecDepth 100000 in
theorem zPD (c:MCon) (vv vc vr vl uv uc ur ul:Value) (w:World) (hv:KArg w vv vc vr vl c) (hu:KArg w uv uc ur ul c) :
 Calls Tryz.prog 82 #[conV vv vc vr vl c,conV uv uc ur ul c] w fun e w'=>e=.returned (.bool true)∧Below w.heap.size w w':=by
 have HA:Hid (KArg w vv vc vr vl c):=hv
 have HB:Hid (KArg w uv uc ur ul c):=hu
 obtain⟨⟨a1,c1,rfl,_,_⟩,⟨a2,c2,rfl,_,_⟩,⟨a3,c3,rfl,_,_⟩,⟨a4,c4,rfl,_,_⟩⟩:=hv
 obtain⟨⟨b1,d1,rfl,_,_⟩,⟨b2,d2,rfl,_,_⟩,⟨b3,d3,rfl,_,_⟩,⟨b4,d4,rfl,_,_⟩⟩:=hu
 obtain⟨W,hW⟩:∃W,W=(w.alloc (.cells #[.int .i64 c.kind,.slice a1 c.vars.length c1,.slice a2 c.consts.length c2,.int .i64 c.n,.slice a3 c.rows.length c3,.slice a4 c.lits.length c4] 73)).alloc (.cells #[.int .i64 c.kind,.slice b1 c.vars.length d1,.slice b2 c.consts.length d2,.int .i64 c.n,.slice b3 c.rows.length d3,.slice b4 c.lits.length d4] 73):=⟨_,rfl⟩
 have HW:Hid (W=(w.alloc (.cells #[.int .i64 c.kind,.slice a1 c.vars.length c1,.slice a2 c.consts.length c2,.int .i64 c.n,.slice a3 c.rows.length c3,.slice a4 c.lits.length c4] 73)).alloc (.cells #[.int .i64 c.kind,.slice b1 c.vars.length d1,.slice b2 c.consts.length d2,.int .i64 c.n,.slice b3 c.rows.length d3,.slice b4 c.lits.length d4] 73)):=hW
 have HBW:Hid (Below w.heap.size w W):=by show Below _ _ _;rw[hW];exact (zAA _ _).alloc (zAA _ _).size _
 have q1:W.heap[w.heap.size]? = some (.cells #[.int .i64 c.kind,.slice a1 c.vars.length c1,.slice a2 c.consts.length c2,.int .i64 c.n,.slice a3 c.rows.length c3,.slice a4 c.lits.length c4] 73):=by
  rw[hW]
  have h:=(zAA (w.alloc (.cells #[.int .i64 c.kind,.slice a1 c.vars.length c1,.slice a2 c.consts.length c2,.int .i64 c.n,.slice a3 c.rows.length c3,.slice a4 c.lits.length c4] 73)) (.cells #[.int .i64 c.kind,.slice b1 c.vars.length d1,.slice b2 c.consts.length d2,.int .i64 c.n,.slice b3 c.rows.length d3,.slice b4 c.lits.length d4] 73)).block w.heap.size (by simp)
  rw[h];exact heap_alloc_new _ _
 have q2:W.heap[w.heap.size+1]? = some (.cells #[.int .i64 c.kind,.slice b1 c.vars.length d1,.slice b2 c.consts.length d2,.int .i64 c.n,.slice b3 c.rows.length d3,.slice b4 c.lits.length d4] 73):=by
  rw[hW]
  have h:=heap_alloc_new (w.alloc (.cells #[.int .i64 c.kind,.slice a1 c.vars.length c1,.slice a2 c.consts.length c2,.int .i64 c.n,.slice a3 c.rows.length c3,.slice a4 c.lits.length c4] 73)) (.cells #[.int .i64 c.kind,.slice b1 c.vars.length d1,.slice b2 c.consts.length d2,.int .i64 c.n,.slice b3 c.rows.length d3,.slice b4 c.lits.length d4] 73)
  simpa using h
 have HI1:Hid (∀n,Calls Tryz.prog 37 #[.slice a1 c.vars.length c1,.slice b1 c.vars.length d1] (W.drewN n) fun e w'=>e=.returned (.bool true)∧∃k,w'=W.drewN k):=fun n=>by
  refine (zDA c.vars c.vars _ _ (W.drewN n) (IArg.below (below_drewN HBW.out n) HA.out.1) (IArg.below (below_drewN HBW.out n) HB.out.1)).mono ?_
  rintro e w' ⟨rfl,k,rfl⟩
  exact⟨by simp,n+k,zCN _ _ _⟩
 have HI2:Hid (∀n,Calls Tryz.prog 37 #[.slice a2 c.consts.length c2,.slice b2 c.consts.length d2] (W.drewN n) fun e w'=>e=.returned (.bool true)∧∃k,w'=W.drewN k):=fun n=>by
  refine (zDA c.consts c.consts _ _ (W.drewN n) (IArg.below (below_drewN HBW.out n) HA.out.2.1) (IArg.below (below_drewN HBW.out n) HB.out.2.1)).mono ?_
  rintro e w' ⟨rfl,k,rfl⟩
  exact⟨by simp,n+k,zCN _ _ _⟩
 have HI3:Hid (∀n,Calls Tryz.prog 70 #[.slice a3 c.rows.length c3,.slice b3 c.rows.length d3] (W.drewN n) fun e w'=>e=.returned (.bool true)∧∃k,w'=W.drewN k):=fun n=>by
  refine (zLt c.rows _ _ (W.drewN n) (RArg.below (below_drewN HBW.out n) HA.out.2.2.1) (RArg.below (below_drewN HBW.out n) HB.out.2.2.1)).mono ?_
  rintro e w' ⟨rfl,k,rfl⟩
  exact⟨rfl,n+k,zCN _ _ _⟩
 have HI4:Hid (∀n,Calls Tryz.prog 48 #[.slice a4 c.lits.length c4,.slice b4 c.lits.length d4] (W.drewN n) fun e w'=>e=.returned (.bool true)∧∃k,w'=W.drewN k):=fun n=>by
  refine (zGQ c.lits _ _ (W.drewN n) (LArg.below (below_drewN HBW.out n) HA.out.2.2.2) (LArg.below (below_drewN HBW.out n) HB.out.2.2.2)).mono ?_
  rintro e w' ⟨rfl,k,rfl⟩
  exact⟨rfl,n+k,zCN _ _ _⟩
 have HEN:Hid (∀n,Below w.heap.size w (W.drewN n)):=fun n=>below_drewN HBW.out n
 have k0:W.cell? ⟨w.heap.size,0,none⟩=some (.int .i64 c.kind):=blk9 q1 0 _ rfl
 have k1:W.cell? ⟨w.heap.size,1,none⟩=some (.slice a1 c.vars.length c1):=blk9 q1 1 _ rfl
 have k2:W.cell? ⟨w.heap.size,2,none⟩=some (.slice a2 c.consts.length c2):=blk9 q1 2 _ rfl
 have k3:W.cell? ⟨w.heap.size,3,none⟩=some (.int .i64 c.n):=blk9 q1 3 _ rfl
 have k4:W.cell? ⟨w.heap.size,4,none⟩=some (.slice a3 c.rows.length c3):=blk9 q1 4 _ rfl
 have k5:W.cell? ⟨w.heap.size,5,none⟩=some (.slice a4 c.lits.length c4):=blk9 q1 5 _ rfl
 have m0:W.cell? ⟨w.heap.size+1,0,none⟩=some (.int .i64 c.kind):=blk9 q2 0 _ rfl
 have m1:W.cell? ⟨w.heap.size+1,1,none⟩=some (.slice b1 c.vars.length d1):=blk9 q2 1 _ rfl
 have m2:W.cell? ⟨w.heap.size+1,2,none⟩=some (.slice b2 c.consts.length d2):=blk9 q2 2 _ rfl
 have m3:W.cell? ⟨w.heap.size+1,3,none⟩=some (.int .i64 c.n):=blk9 q2 3 _ rfl
 have m4:W.cell? ⟨w.heap.size+1,4,none⟩=some (.slice b3 c.rows.length d3):=blk9 q2 4 _ rfl
 have m5:W.cell? ⟨w.heap.size+1,5,none⟩=some (.slice b4 c.lits.length d4):=blk9 q2 5 _ rfl
 clear hW q1 q2
 unfold conV
 go_enter Tryz.func82,Tryz.ntmps82
 go_wp2_with fail
 rw[←HW.out]
 refine (HI1.out 0).mono ?_
 rintro e w1 ⟨rfl,n1,rfl⟩
 go_wp2_with fail
 refine (HI2.out n1).mono ?_
 rintro e w2 ⟨rfl,n2,rfl⟩
 go_wp2_with fail
 refine (HI3.out n2).mono ?_
 rintro e w3 ⟨rfl,n3,rfl⟩
 go_wp2_with fail
 refine (HI4.out n3).mono ?_
 rintro e w4 ⟨rfl,n4,rfl⟩
 go_wp2
 go_ret
 exact⟨rfl,HEN.out _⟩
set_option maxHeartbeats 6400000 in
set_option maxRecDepth 100000 in
theorem zLu (m:Mod) (vs cs us ts:Value) (w:World) (hv:MArg w vs cs m) (hu:MArg w us ts m) :
 Calls Tryz.prog 36 #[modV vs cs m,modV us ts m] w fun e w'=>e=.returned (.bool true)∧Below w.heap.size w w':=by
 have HA:Hid (MArg w vs cs m):=hv
 have HB:Hid (MArg w us ts m):=hu
 obtain⟨⟨a1,c1,rfl,hm1,_⟩,⟨a2,c2,rfl,hm2,_⟩⟩:=hv
 obtain⟨⟨b1,d1,rfl,hm3,_⟩,⟨b2,d2,rfl,hm4,_⟩⟩:=hu
 unfold maxLen at hm1 hm2 hm3 hm4
 obtain⟨W,hW⟩:∃W,W=(w.alloc (.cells #[.slice a1 m.vars.length c1,.slice a2 m.cons.length c2,.int .i64 m.goal,.int .i64 m.var] 25)).alloc (.cells #[.slice b1 m.vars.length d1,.slice b2 m.cons.length d2,.int .i64 m.goal,.int .i64 m.var] 25):=⟨_,rfl⟩
 have HW:Hid (W=(w.alloc (.cells #[.slice a1 m.vars.length c1,.slice a2 m.cons.length c2,.int .i64 m.goal,.int .i64 m.var] 25)).alloc (.cells #[.slice b1 m.vars.length d1,.slice b2 m.cons.length d2,.int .i64 m.goal,.int .i64 m.var] 25)):=hW
 have HBW:Hid (Below w.heap.size w W):=by show Below _ _ _;rw[hW];exact (zAA _ _).alloc (zAA _ _).size _
 have q1:W.heap[w.heap.size]? = some (.cells #[.slice a1 m.vars.length c1,.slice a2 m.cons.length c2,.int .i64 m.goal,.int .i64 m.var] 25):=by
  rw[hW]
  have h:=(zAA (w.alloc (.cells #[.slice a1 m.vars.length c1,.slice a2 m.cons.length c2,.int .i64 m.goal,.int .i64 m.var] 25)) (.cells #[.slice b1 m.vars.length d1,.slice b2 m.cons.length d2,.int .i64 m.goal,.int .i64 m.var] 25)).block w.heap.size (by simp)
  rw[h];exact heap_alloc_new _ _
 have q2:W.heap[w.heap.size+1]? = some (.cells #[.slice b1 m.vars.length d1,.slice b2 m.cons.length d2,.int .i64 m.goal,.int .i64 m.var] 25):=by
  rw[hW]
  have h:=heap_alloc_new (w.alloc (.cells #[.slice a1 m.vars.length c1,.slice a2 m.cons.length c2,.int .i64 m.goal,.int .i64 m.var] 25)) (.cells #[.slice b1 m.vars.length d1,.slice b2 m.cons.length d2,.int .i64 m.goal,.int .i64 m.var] 25)
  simpa using h
 have hl1:w.heap.size<W.heap.size:=(Array.getElem?_eq_some_iff.1 q1).1
 have hl2:w.heap.size+1<W.heap.size:=(Array.getElem?_eq_some_iff.1 q2).1
 have k0:W.cell? ⟨w.heap.size,0,none⟩=some (.slice a1 m.vars.length c1):=blk9 q1 0 _ rfl
 have k1:W.cell? ⟨w.heap.size,1,none⟩=some (.slice a2 m.cons.length c2):=blk9 q1 1 _ rfl
 have k2:W.cell? ⟨w.heap.size,2,none⟩=some (.int .i64 m.goal):=blk9 q1 2 _ rfl
 have k3:W.cell? ⟨w.heap.size,3,none⟩=some (.int .i64 m.var):=blk9 q1 3 _ rfl
 have m0:W.cell? ⟨w.heap.size+1,0,none⟩=some (.slice b1 m.vars.length d1):=blk9 q2 0 _ rfl
 have m1:W.cell? ⟨w.heap.size+1,1,none⟩=some (.slice b2 m.cons.length d2):=blk9 q2 1 _ rfl
 have m2:W.cell? ⟨w.heap.size+1,2,none⟩=some (.int .i64 m.goal):=blk9 q2 2 _ rfl
 have m3:W.cell? ⟨w.heap.size+1,3,none⟩=some (.int .i64 m.var):=blk9 q2 3 _ rfl
 have g0:((m.vars.length:Int) != (m.vars.length:Int))=false:=by simp
 have g1:((m.cons.length:Int) != (m.cons.length:Int))=false:=by simp
 have g2:(m.goal != m.goal)=false:=by simp
 have g3:(m.var != m.var)=false:=by simp
 clear hW q1 q2
 unfold modV
 go_enter Tryz.func36,Tryz.ntmps36
 go_wp2_with fail
 rw[←HW.out]
 clear HW
 go_loopw [5] (fun i wr=>∃k:Nat,k≤m.vars.length∧i=.int .i64 k∧∃n,wr=W.drewN n) (fun i _=>m.vars.length - (intOf i).toNat)
 case atStart=>exact⟨0,by omega,rfl,0,rfl⟩
 case round =>
  obtain⟨k,hk,rfl,nq,rfl⟩:=hrel
  by_cases hlt:k<m.vars.length
  ·obtain⟨x,hx⟩:∃x,m.vars[k]? = some x:=⟨m.vars[k],by simp[hlt]⟩
   obtain⟨_,bb,off,rfl,hb,e0,e1,e2⟩:=VArg.nth (VArg.below HBW.out HA.out.1) k x hx
   obtain⟨_,bb',off',rfl,hb',f0,f1,f2⟩:=VArg.nth (VArg.below HBW.out HB.out.1) k x hx
   clear hx
   go_wp2
   go_quiet (fail)
   go_wp2
   go_roundw
   case rel=>exact⟨k+1,by omega,by go_num,_,rfl⟩
   case measure=>simp[intOf];omega
  ·go_wp2_with fail
   go_loopw [6] (fun i wr=>∃k:Nat,k≤m.cons.length∧i=.int .i64 k∧Hid (Below W.heap.size W wr)) (fun i _=>m.cons.length - (intOf i).toNat)
   case atStart=>exact⟨0,by omega,rfl,below_drewN (Below.refl _ _) _⟩
   case round =>
    obtain⟨k,hk,rfl,hbw⟩:=hrel
    have u1:=(hbw.out.cell (p:=⟨w.heap.size,1,none⟩) hl1).trans k1
    have v1:=(hbw.out.cell (p:=⟨w.heap.size+1,1,none⟩) hl2).trans m1
    have hl1:w.heap.size<wr.heap.size:=Nat.lt_of_lt_of_le hl1 hbw.out.size
    have hl2:w.heap.size+1<wr.heap.size:=Nat.lt_of_lt_of_le hl2 hbw.out.size
    by_cases hlt2:k<m.cons.length
    ·obtain⟨x,hx⟩:∃x,m.cons[k]? = some x:=⟨m.cons[k],by simp[hlt2]⟩
     have HBR:Hid (Below w.heap.size w wr):=HBW.out.trans (hbw.out.mono HBW.out.size)
     obtain⟨bb,off,vv,vc,vr,vl,rfl,hb,e0,e1,e2,e3,e4,e5,hka⟩:=CArg.nth (CArg.below HBR.out HA.out.2) k x hx
     obtain⟨bb',off',uv,uc,ur,ul,rfl,hb',f0,f1,f2,f3,f4,f5,hkb⟩:=CArg.nth (CArg.below HBR.out HB.out.2) k x hx
     have HKA:Hid (KArg wr vv vc vr vl x):=hka
     have HKB:Hid (KArg wr uv uc ur ul x):=hkb
     obtain⟨⟨p1,r1,rfl,_,_⟩,⟨p2,r2,rfl,_,_⟩,⟨p3,r3,rfl,_,_⟩,⟨p4,r4,rfl,_,_⟩⟩:=hka
     obtain⟨⟨t1,s1,rfl,_,_⟩,⟨t2,s2,rfl,_,_⟩,⟨t3,s3,rfl,_,_⟩,⟨t4,s4,rfl,_,_⟩⟩:=hkb
     have HSC:Hid (∀Y,Below wr.heap.size wr Y→Calls Tryz.prog 82 #[conV (.slice p1 x.vars.length r1) (.slice p2 x.consts.length r2) (.slice p3 x.rows.length r3) (.slice p4 x.lits.length r4) x,conV (.slice t1 x.vars.length s1) (.slice t2 x.consts.length s2) (.slice t3 x.rows.length s3) (.slice t4 x.lits.length s4) x] Y fun e w'=>e=.returned (.bool true)∧Below wr.heap.size wr w'):=fun Y hY=>by
      refine (zPD x _ _ _ _ _ _ _ _ Y (KArg.below hY HKA.out) (KArg.below hY HKB.out)).mono ?_
      rintro e w' ⟨rfl,hb⟩
      exact⟨rfl,hY.trans (hb.mono hY.size)⟩
     have hk3:(k:Int)<(m.cons.length:Int):=by omega
     have hk4:(0:Int)≤(k:Int):=by omega
     clear hx k0 k1 k2 k3 m0 m1 m2 m3
     go_wp2_with fail
     go_region_held3 (fun Y=>Below wr.heap.size wr Y∧Y.cell? ⟨w.heap.size,1,none⟩=some (.slice (some ⟨bb,off,none⟩) m.cons.length c2)∧Y.cell? ⟨w.heap.size+1,1,none⟩=some (.slice (some ⟨bb',off',none⟩) m.cons.length d2)∧Y.cell? ⟨bb,off+k * 6,none⟩=some (.int .i64 x.kind)∧Y.cell? ⟨bb,off+k * 6+1,none⟩=some (.slice p1 x.vars.length r1)∧Y.cell? ⟨bb,off+k * 6+2,none⟩=some (.slice p2 x.consts.length r2)∧Y.cell? ⟨bb,off+k * 6+3,none⟩=some (.int .i64 x.n)∧Y.cell? ⟨bb,off+k * 6+4,none⟩=some (.slice p3 x.rows.length r3)∧Y.cell? ⟨bb,off+k * 6+5,none⟩=some (.slice p4 x.lits.length r4)∧Y.cell? ⟨bb',off'+k * 6,none⟩=some (.int .i64 x.kind)∧Y.cell? ⟨bb',off'+k * 6+1,none⟩=some (.slice t1 x.vars.length s1)∧Y.cell? ⟨bb',off'+k * 6+2,none⟩=some (.slice t2 x.consts.length s2)∧Y.cell? ⟨bb',off'+k * 6+3,none⟩=some (.int .i64 x.n)∧Y.cell? ⟨bb',off'+k * 6+4,none⟩=some (.slice t3 x.rows.length s3)∧Y.cell? ⟨bb',off'+k * 6+5,none⟩=some (.slice t4 x.lits.length s4))
      ((refine (fun (hB:Below wr.heap.size wr _)=>⟨hB,(hB.cell (p:=⟨w.heap.size,1,none⟩) hl1).trans u1,(hB.cell (p:=⟨w.heap.size+1,1,none⟩) hl2).trans v1,(hB.cell (p:=⟨bb,off+k * 6,none⟩) hb).trans e0,(hB.cell (p:=⟨bb,off+k * 6+1,none⟩) hb).trans e1,(hB.cell (p:=⟨bb,off+k * 6+2,none⟩) hb).trans e2,(hB.cell (p:=⟨bb,off+k * 6+3,none⟩) hb).trans e3,(hB.cell (p:=⟨bb,off+k * 6+4,none⟩) hb).trans e4,(hB.cell (p:=⟨bb,off+k * 6+5,none⟩) hb).trans e5,(hB.cell (p:=⟨bb',off'+k * 6,none⟩) hb').trans f0,(hB.cell (p:=⟨bb',off'+k * 6+1,none⟩) hb').trans f1,(hB.cell (p:=⟨bb',off'+k * 6+2,none⟩) hb').trans f2,(hB.cell (p:=⟨bb',off'+k * 6+3,none⟩) hb').trans f3,(hB.cell (p:=⟨bb',off'+k * 6+4,none⟩) hb').trans f4,(hB.cell (p:=⟨bb',off'+k * 6+5,none⟩) hb').trans f5⟩:Below wr.heap.size wr _→_) ?_;first | exact (Below.refl _ _).drew | exact hbq3 | exact (show Below wr.heap.size wr _∧_ by assumption).1))
      ((go_at_call 82;refine (HSC.out _ (show Below wr.heap.size wr _∧_ by assumption).1).mono ?_;rintro e w3 ⟨rfl,hbq3⟩))
     have HB3:Hid (Below W.heap.size W _):=hbw.out.trans (hbq3.mono hbw.out.size)
     go_wp2
     go_roundw
     case rel=>exact⟨k+1,by omega,by go_num,HB3⟩
     case measure=>simp[intOf];omega
    ·have HEN:Hid (Below w.heap.size w wr):=HBW.out.trans (hbw.out.mono HBW.out.size)
     go_wp2
     go_ret
     exact⟨rfl,HEN.out⟩
theorem zSp:numB 0=⟨#[48]⟩:=by unfold numB Lib.itoa;rw[if_neg (by decide)];rw[Lib.decDigits,dif_pos (by decide)];rfl
theorem zTr:numB 1=⟨#[49]⟩:=by unfold numB Lib.itoa;rw[if_neg (by decide)];rw[Lib.decDigits,dif_pos (by decide)];rfl
theorem zSq:numB 2=⟨#[50]⟩:=by unfold numB Lib.itoa;rw[if_neg (by decide)];rw[Lib.decDigits,dif_pos (by decide)];rfl
theorem zTP:numB (-1)=⟨#[45,49]⟩:=by unfold numB Lib.itoa;rw[if_pos (by decide)];rw[Lib.decDigits,dif_pos (by decide)];rfl
def twoT:List UInt8:=[118,97,114,32,120,58,32,48,46,46,50,59,10,118,97,114,32,121,58,32,48,46,46,50,59,10,99,111,110,32,108,101,32,91,49,44,32,45,49,93,32,91,120,44,32,121,93,32,45,49,59,10,115,111,108,118,101,32,108,101,97,115,116,32,121,59,10]
theorem zKT:modB twoM=twoT:=by
 have hv:zAn ⟨⟨#[120]⟩,0,2⟩=[118,97,114,32,120,58,32,48,46,46,50,59,10]:=by
  unfold zAn;simp only;rw[zSp,zSq];kernel_rfl
 have hw:zAn ⟨⟨#[121]⟩,0,2⟩=[118,97,114,32,121,58,32,48,46,46,50,59,10]:=by
  unfold zAn;simp only;rw[zSp,zSq];kernel_rfl
 have hc:zAz twoM.vars ⟨1,[0,1],[1,-1],-1,[],[]⟩=[99,111,110,32,108,101,32,91,49,44,32,45,49,93,32,91,120,44,32,121,93,32,45,49,59,10]:=by
  unfold zAz zAw
  rw[if_pos (by decide)]
  unfold zDf
  simp only[List.map_cons,List.map_nil]
  rw[zTr,zTP];kernel_rfl
 have hg:zBy twoM=[115,111,108,118,101,32,108,101,97,115,116,32,121,59,10]:=by kernel_rfl
 show zAn ⟨⟨#[120]⟩,0,2⟩++(zAn ⟨⟨#[121]⟩,0,2⟩++[])++((zAz twoM.vars ⟨1,[0,1],[1,-1],-1,[],[]⟩++[])++zBy twoM)=twoT
 rw[hv,hw,hc,hg]
 rfl
theorem zPE:zJr twoM=(⟨twoT.toArray⟩,0):=by unfold zJr;rw[if_pos zBb,zKT]
theorem zPF:zAu ⟨twoT.toArray⟩=(twoM,0,0):=by
 have:=zM3 twoM zBb (by rw[zKT];decide)
 rwa [zKT] at this
set_option maxHeartbeats 3200000 in
set_option maxRecDepth 100000 in
theorem zPG (N:Nat) (w:World) (ht:TabN N w) (hN:N≤w.heap.size) :
 Calls Tryz.prog 27 #[] w fun e w'=>e=.returned (.bool true)∧Below w.heap.size w w':=by
 have HT:Hid (TabN N w):=ht
 clear ht
 go_enter Tryz.func27,Tryz.ntmps27
 go_wp2_with fail
 refine (zEM _).mono ?_
 rintro e w1 ⟨vs,cs,rfl,hm1,hb1⟩
 have HB1:Hid (Below w.heap.size w w1):=hb1
 have HM1:Hid (MArg w1 vs cs twoM):=hm1
 clear hb1
 obtain⟨⟨a1,c1,rfl,_,_⟩,⟨a2,c2,rfl,_,_⟩⟩:=hm1
 go_wp2_with fail
 refine (zRD N twoM _ _ w1 HM1.out (HT.out.below HB1.out) (Nat.le_trans hN HB1.out.size)).mono ?_
 rw[zPE]
 obtain⟨st,hst⟩:∃st,(⟨twoT.toArray⟩:ByteArray)=st:=⟨_,rfl⟩
 have HST:Hid ((⟨twoT.toArray⟩:ByteArray)=st):=hst
 simp only
 rw[hst]
 clear hst
 rintro e w2 ⟨rfl,hb2⟩
 have HB2:Hid (Below w.heap.size w w2):=HB1.out.trans (hb2.mono HB1.out.size)
 clear hb2
 go_wp2_with fail
 refine (zGT st (by rw[←HST.out];unfold maxLen;decide) w2).mono ?_
 rw[←HST.out,zPF,HST.out]
 simp only
 rintro e w3 ⟨us,ts,rfl,hm3,hb3⟩
 have HB3:Hid (Below w.heap.size w w3):=HB2.out.trans (hb3.mono HB2.out.size)
 have HM3:Hid (MArg w3 us ts twoM):=hm3.marg
 have hma:=hm3.marg
 clear hb3 hm3
 obtain⟨⟨b1,d1,rfl,_,_⟩,⟨b2,d2,rfl,_,_⟩⟩:=hma
 unfold modV
 go_wp2_with fail
 obtain⟨W,hW⟩:∃W,W=w3.alloc (.cells #[.slice b1 twoM.vars.length d1,.slice b2 twoM.cons.length d2,.int .i64 twoM.goal,.int .i64 twoM.var] 25):=⟨_,rfl⟩
 have HBW:Hid (Below w3.heap.size w3 W):=by show Below _ _ _;rw[hW];exact zAA _ _
 have HQ:W.heap[w3.heap.size]? = some (.cells #[.slice b1 twoM.vars.length d1,.slice b2 twoM.cons.length d2,.int .i64 twoM.goal,.int .i64 twoM.var] 25):=by rw[hW];exact heap_alloc_new _ _
 have hlt:w3.heap.size<W.heap.size:=(Array.getElem?_eq_some_iff.1 HQ).1
 have k0:W.cell? ⟨w3.heap.size,0,none⟩=some (.slice b1 twoM.vars.length d1):=blk9 HQ 0 _ rfl
 have k1:W.cell? ⟨w3.heap.size,1,none⟩=some (.slice b2 twoM.cons.length d2):=blk9 HQ 1 _ rfl
 have k2:W.cell? ⟨w3.heap.size,2,none⟩=some (.int .i64 twoM.goal):=blk9 HQ 2 _ rfl
 have k3:W.cell? ⟨w3.heap.size,3,none⟩=some (.int .i64 twoM.var):=blk9 HQ 3 _ rfl
 rw[←hW]
 clear hW HQ
 have HM4:Hid (MArg W (.slice b1 twoM.vars.length d1) (.slice b2 twoM.cons.length d2) twoM):=MArg.below HBW.out HM3.out
 have HB4:Hid (Below w.heap.size w W):=HB3.out.trans (HBW.out.mono HB3.out.size)
 have t8:(st.toList==twoT)=true:=by rw[←HST.out,zB7];decide
 unfold twoT at t8
 clear HST
 go_region_held3 (fun Y=>Below W.heap.size W Y∧Y.cell? ⟨w3.heap.size,0,none⟩=some (.slice b1 twoM.vars.length d1)∧Y.cell? ⟨w3.heap.size,1,none⟩=some (.slice b2 twoM.cons.length d2)∧Y.cell? ⟨w3.heap.size,2,none⟩=some (.int .i64 twoM.goal)∧Y.cell? ⟨w3.heap.size,3,none⟩=some (.int .i64 twoM.var))
  ((refine (fun (hB:Below W.heap.size W _)=>⟨hB,(hB.cell (p:=⟨w3.heap.size,0,none⟩) hlt).trans k0,(hB.cell (p:=⟨w3.heap.size,1,none⟩) hlt).trans k1,(hB.cell (p:=⟨w3.heap.size,2,none⟩) hlt).trans k2,(hB.cell (p:=⟨w3.heap.size,3,none⟩) hlt).trans k3⟩:Below W.heap.size W _→_) ?_;first | exact (Below.refl _ _).drew | exact hb6 | exact hb5 | exact (show Below W.heap.size W _∧_ by assumption).1))
  (first
    | (go_at_call 47;refine (zEM _).mono ?_;rintro e w5 ⟨vs5,cs5,rfl,hm5,hbq⟩;have hb5:=zAW (by assumption) hbq;obtain⟨a5,c5,rfl,_,_⟩:=id hm5.1;obtain⟨a6,c6,rfl,_,_⟩:=id hm5.2;unfold modV)
    | (go_at_call 36;refine (show Calls Tryz.prog 36 #[modV (.slice b1 twoM.vars.length d1) (.slice b2 twoM.cons.length d2) twoM,modV (.slice a5 twoM.vars.length c5) (.slice a6 twoM.cons.length c6) twoM] w5 _ from zLu twoM _ _ _ _ w5 (MArg.below hb5 HM4.out) hm5).mono ?_;rintro e w6 ⟨rfl,hbq⟩;have hb6:=hb5.trans (hbq.mono hb5.size)))
 have HE:Hid (Below w.heap.size w w6):=HB4.out.trans (hb6.mono HB4.out.size)
 go_wp2
 go_ret
 exact⟨rfl,HE.out⟩
theorem zRE:zNM twoM 0 [0,1]=(true,0):=by kernel_rfl
theorem zTQ:allA twoM [2,1]=(false,0):=by kernel_rfl
theorem zTs:zEn [0,1]=[0,1]:=by
 unfold zEn
 exact List.mergeSort_of_pairwise (by decide)
theorem zRF:zHX twoM 0=([0,1],0):=by
 have h0:zBl twoM 0=0:=by kernel_rfl
 unfold zHX
 rw[if_pos h0]
 have h1:zCG (twoM.cons.getD (0:Int).toNat zJ1)=[0,1]:=by rfl
 unfold zBA
 rw[h1,zTs]
 decide
theorem zTR {w:World} (a b:Int) (B:Nat) (h:B=w.heap.size):IArg (w.alloc (.cells #[.int .i64 a,.int .i64 b] 3)) (.slice (some ⟨B,0,none⟩) 2 2) [a,b]:=by
 subst h
 refine⟨_,2,rfl,⟨by simp,by unfold maxLen;omega⟩,fun i z hz=>?_⟩
 match i,hz with
 | 0,hz=>cases hz;exact⟨_,0,rfl,by simp,by simp⟩
 | 1,hz=>cases hz;exact⟨_,0,rfl,by simp,by simp⟩
set_option maxHeartbeats 1600000 in
set_option maxRecDepth 100000 in
theorem zM7 (w:World) :
 Calls Tryz.prog 18 #[] w fun e w'=>e=.returned (.bool true)∧Below w.heap.size w w':=by
 go_enter Tryz.func18,Tryz.ntmps18
 go_wp2_with fail
 refine (zEM _).mono ?_
 rintro e w1 ⟨vs,cs,rfl,hm,hb1⟩
 have HM:Hid (MArg w1 vs cs twoM):=hm
 clear hm
 go_wp2_with fail
 refine (zOy twoM 0 [0,1] vs cs _ _ (MArg.below (zAA _ _) HM.out) (zTR 0 1 _ rfl)).mono ?_
 rintro e w2 ⟨rfl,hb2⟩
 rw[zRE]
 have hs1:=hb1.size
 have hB2:Below w.heap.size w w2:=(hb1.alloc hs1 _).trans (hb2.mono (by simp;omega))
 clear hb1 hb2 HM hs1
 go_wp2_with fail
 refine (zEM _).mono ?_
 rintro e w3 ⟨vs,cs,rfl,hm,hb3⟩
 have HM:Hid (MArg w3 vs cs twoM):=hm
 clear hm
 go_wp2_with fail
 refine (zEZ twoM [2,1] vs cs _ _ (MArg.below (zAA _ _) HM.out) (zTR 2 1 _ rfl)).mono ?_
 rintro e w4 ⟨rfl,hb4⟩
 rw[zTQ]
 have hs2:=hB2.size
 have hs3:=hb3.size
 have hB4:Below w.heap.size w w4:=hB2.trans ((((hb3.alloc hs3 _).trans (hb4.mono (by simp;omega)))).mono hs2)
 clear hb3 hb4 HM hs2 hs3 hB2
 go_wp2_with fail
 refine (zEM _).mono ?_
 rintro e w5 ⟨vs,cs,rfl,hm,hb5⟩
 go_wp2_with fail
 refine (zIp twoM 0 vs cs _ hm).mono ?_
 rintro e w6 ⟨x,rfl,hx,hb6⟩
 rw[zRF] at hx ⊢
 have HX:Hid (∀w':World,Below w6.heap.size w6 w'→IArg w' x [0,1]):=fun w' h=>IArg.below h hx
 obtain⟨a6,c6,rfl,_,_⟩:=hx
 have hs4:=hB4.size
 have hs5:=hb5.size
 have hB6:Below w.heap.size w w6:=hB4.trans ((hb5.trans (hb6.mono hs5)).mono hs4)
 clear hb5 hb6 hm hs4 hs5 hB4
 go_wp2_with fail
 refine (zEM _).mono ?_
 rintro e w7 ⟨vs,cs,rfl,hm,hb7⟩
 go_wp2_with fail
 refine (zBU twoM vs cs _ hm).mono ?_
 rintro e w8 ⟨rfl,hb8⟩
 rw[zBb]
 have hs7:=hb7.size
 have hB8:Below w6.heap.size w6 w8:=hb7.trans (hb8.mono hs7)
 have hs8:=hB8.size
 clear hb7 hb8 hm hs7
 go_wp2_with fail
 refine (zDA [0,1] [0,1] _ _ _ (HX.out _ (hB8.alloc hs8 _)) (zTR 0 1 _ rfl)).mono ?_
 rintro e w9 ⟨rfl,n,h9⟩
 rw[show decide (([0,1]:List Int)=[0,1])=true from by decide]
 have hB9:Below w.heap.size w w9:=hB6.trans (((hB8.alloc hs8 _).trans ((zSf h9).mono (by simp;omega))).mono hB6.size)
 clear h9
 go_wp2
 go_ret
 exact⟨rfl,hB9⟩
theorem zJs (m:Mod) (vals:List Int) (h:allA m vals=(true,0)):zAE m=0∧Sol m vals:=by
 obtain⟨h0,h1,h2⟩:=zGf m vals h
 exact⟨h0,zNO m.vars vals h1,h2⟩
end Go.Proofs.YtdjbejlbmaiocagGreatDoor
