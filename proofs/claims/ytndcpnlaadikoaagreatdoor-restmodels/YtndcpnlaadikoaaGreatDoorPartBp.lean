/- What the proof leans on, part 42. -/
import Derived.Test.YtndcpnlaadikoaaGreatDoorPartBk
import Derived.Test.YtndcpnlaadikoaaGreatDoorPartBg
import Derived.Deep.RegionHeld3
import Derived.Test.YtndcpnlaadikoaaGreatDoorPartBo
import Derived.Test.YtndcpnlaadikoaaGreatDoorPartAm
import Derived.Test.YtndcpnlaadikoaaGreatDoorPartAn
set_option maxRecDepth 100000
set_option maxHeartbeats 6400000
namespace Go.Proofs.YtndcpnlaadikoaaGreatDoor
open Go.RowKit
theorem VArg.nth {w:World} {a:Option Addr} {n c:Nat} {l:List MVar} (h:VArg w (.slice a n c) l) (i:Nat) (t:MVar) (hr:l[i]? = some t):t.name.size≤maxLen∧∃b off,a=some ⟨b,off,none⟩∧b<w.heap.size ∧
 w.cell? ⟨b,off+i * 3,none⟩=some (.string t.name)∧w.cell? ⟨b,off+i * 3+1,none⟩=some (.int .i64 t.lo)∧w.cell? ⟨b,off+i * 3+2,none⟩=some (.int .i64 t.hi):=by
 obtain⟨a',c',hv,_,hh⟩:=h;cases hv
 exact hh i t hr
theorem CArg.nth {w:World} {a:Option Addr} {n c:Nat} {l:List MCon} (h:CArg w (.slice a n c) l) (i:Nat) (t:MCon) (hr:l[i]? = some t):∃b off vv vc vr vl,a=some ⟨b,off,none⟩∧b<w.heap.size ∧
 w.cell? ⟨b,off+i * 6,none⟩=some (.int .i64 t.kind)∧w.cell? ⟨b,off+i * 6+1,none⟩=some vv∧w.cell? ⟨b,off+i * 6+2,none⟩=some vc ∧
 w.cell? ⟨b,off+i * 6+3,none⟩=some (.int .i64 t.n)∧w.cell? ⟨b,off+i * 6+4,none⟩=some vr∧w.cell? ⟨b,off+i * 6+5,none⟩=some vl∧KArg w vv vc vr vl t:=by
 obtain⟨a',c',hv,_,hh⟩:=h;cases hv
 exact hh i t hr
theorem zOQ (c:MCon) (vv vc vr vl uv uc ur ul:Value) (w:World) (hv:KArg w vv vc vr vl c) (hu:KArg w uv uc ur ul c) :
 Calls Tryz.prog 78 #[conV vv vc vr vl c,conV uv uc ur ul c] w fun e w'=>e=.returned (.bool true)∧Below w.heap.size w w':=by
 have HA:Hid (KArg w vv vc vr vl c):=hv;have HB:Hid (KArg w uv uc ur ul c):=hu;obtain⟨⟨a1,c1,rfl,_,_⟩,⟨a2,c2,rfl,_,_⟩,⟨a3,c3,rfl,_,_⟩,⟨a4,c4,rfl,_,_⟩⟩:=hv;obtain⟨⟨b1,d1,rfl,_,_⟩,⟨b2,d2,rfl,_,_⟩,⟨b3,d3,rfl,_,_⟩,⟨b4,d4,rfl,_,_⟩⟩:=hu;obtain⟨W,hW⟩:∃W,W=(w.alloc (.cells #[.int .i64 c.kind,.slice a1 c.vars.length c1,.slice a2 c.consts.length c2,.int .i64 c.n,.slice a3 c.rows.length c3,.slice a4 c.lits.length c4] 69)).alloc (.cells #[.int .i64 c.kind,.slice b1 c.vars.length d1,.slice b2 c.consts.length d2,.int .i64 c.n,.slice b3 c.rows.length d3,.slice b4 c.lits.length d4] 69):=⟨_,rfl⟩;have HW:Hid (W=(w.alloc (.cells #[.int .i64 c.kind,.slice a1 c.vars.length c1,.slice a2 c.consts.length c2,.int .i64 c.n,.slice a3 c.rows.length c3,.slice a4 c.lits.length c4] 69)).alloc (.cells #[.int .i64 c.kind,.slice b1 c.vars.length d1,.slice b2 c.consts.length d2,.int .i64 c.n,.slice b3 c.rows.length d3,.slice b4 c.lits.length d4] 69)):=hW;have HBW:Hid (Below w.heap.size w W):=by show Below _ _ _;rw[hW];exact (zAA _ _).alloc (zAA _ _).size _
 have q1:W.heap[w.heap.size]? = some (.cells #[.int .i64 c.kind,.slice a1 c.vars.length c1,.slice a2 c.consts.length c2,.int .i64 c.n,.slice a3 c.rows.length c3,.slice a4 c.lits.length c4] 69):=by
  rw[hW];have h:=(zAA (w.alloc (.cells #[.int .i64 c.kind,.slice a1 c.vars.length c1,.slice a2 c.consts.length c2,.int .i64 c.n,.slice a3 c.rows.length c3,.slice a4 c.lits.length c4] 69)) (.cells #[.int .i64 c.kind,.slice b1 c.vars.length d1,.slice b2 c.consts.length d2,.int .i64 c.n,.slice b3 c.rows.length d3,.slice b4 c.lits.length d4] 69)).block w.heap.size (by simp)
  rw[h];exact heap_alloc_new _ _
 have q2:W.heap[w.heap.size+1]? = some (.cells #[.int .i64 c.kind,.slice b1 c.vars.length d1,.slice b2 c.consts.length d2,.int .i64 c.n,.slice b3 c.rows.length d3,.slice b4 c.lits.length d4] 69):=by
  rw[hW];have h:=heap_alloc_new (w.alloc (.cells #[.int .i64 c.kind,.slice a1 c.vars.length c1,.slice a2 c.consts.length c2,.int .i64 c.n,.slice a3 c.rows.length c3,.slice a4 c.lits.length c4] 69)) (.cells #[.int .i64 c.kind,.slice b1 c.vars.length d1,.slice b2 c.consts.length d2,.int .i64 c.n,.slice b3 c.rows.length d3,.slice b4 c.lits.length d4] 69);simpa using h
 have HI1:Hid (∀n,Calls Tryz.prog 32 #[.slice a1 c.vars.length c1,.slice b1 c.vars.length d1] (W.drewN n) fun e w'=>e=.returned (.bool true)∧∃k,w'=W.drewN k):=fun n=>by
  refine (zCG c.vars c.vars _ _ (W.drewN n) (IArg.below (below_drewN HBW.out n) HA.out.1) (IArg.below (below_drewN HBW.out n) HB.out.1)).mono ?_;rintro e w' ⟨rfl,k,rfl⟩;exact⟨by simp,n+k,zB4 _ _ _⟩
 have HI2:Hid (∀n,Calls Tryz.prog 32 #[.slice a2 c.consts.length c2,.slice b2 c.consts.length d2] (W.drewN n) fun e w'=>e=.returned (.bool true)∧∃k,w'=W.drewN k):=fun n=>by
  refine (zCG c.consts c.consts _ _ (W.drewN n) (IArg.below (below_drewN HBW.out n) HA.out.2.1) (IArg.below (below_drewN HBW.out n) HB.out.2.1)).mono ?_;rintro e w' ⟨rfl,k,rfl⟩;exact⟨by simp,n+k,zB4 _ _ _⟩
 have HI3:Hid (∀n,Calls Tryz.prog 61 #[.slice a3 c.rows.length c3,.slice b3 c.rows.length d3] (W.drewN n) fun e w'=>e=.returned (.bool true)∧∃k,w'=W.drewN k):=fun n=>by
  refine (zGo c.rows _ _ (W.drewN n) (RArg.below (below_drewN HBW.out n) HA.out.2.2.1) (RArg.below (below_drewN HBW.out n) HB.out.2.2.1)).mono ?_;rintro e w' ⟨rfl,k,rfl⟩;exact⟨rfl,n+k,zB4 _ _ _⟩
 have HI4:Hid (∀n,Calls Tryz.prog 10 #[.slice a4 c.lits.length c4,.slice b4 c.lits.length d4] (W.drewN n) fun e w'=>e=.returned (.bool true)∧∃k,w'=W.drewN k):=fun n=>by
  refine (zFy c.lits _ _ (W.drewN n) (LArg.below (below_drewN HBW.out n) HA.out.2.2.2) (LArg.below (below_drewN HBW.out n) HB.out.2.2.2)).mono ?_;rintro e w' ⟨rfl,k,rfl⟩;exact⟨rfl,n+k,zB4 _ _ _⟩
 have HEN:Hid (∀n,Below w.heap.size w (W.drewN n)):=fun n=>below_drewN HBW.out n
 have k0:W.cell? ⟨w.heap.size,0,none⟩=some (.int .i64 c.kind):=blk9 q1 0 _ rfl;have k1:W.cell? ⟨w.heap.size,1,none⟩=some (.slice a1 c.vars.length c1):=blk9 q1 1 _ rfl;have k2:W.cell? ⟨w.heap.size,2,none⟩=some (.slice a2 c.consts.length c2):=blk9 q1 2 _ rfl;have k3:W.cell? ⟨w.heap.size,3,none⟩=some (.int .i64 c.n):=blk9 q1 3 _ rfl;have k4:W.cell? ⟨w.heap.size,4,none⟩=some (.slice a3 c.rows.length c3):=blk9 q1 4 _ rfl;have k5:W.cell? ⟨w.heap.size,5,none⟩=some (.slice a4 c.lits.length c4):=blk9 q1 5 _ rfl;have m0:W.cell? ⟨w.heap.size+1,0,none⟩=some (.int .i64 c.kind):=blk9 q2 0 _ rfl;have m1:W.cell? ⟨w.heap.size+1,1,none⟩=some (.slice b1 c.vars.length d1):=blk9 q2 1 _ rfl;have m2:W.cell? ⟨w.heap.size+1,2,none⟩=some (.slice b2 c.consts.length d2):=blk9 q2 2 _ rfl;have m3:W.cell? ⟨w.heap.size+1,3,none⟩=some (.int .i64 c.n):=blk9 q2 3 _ rfl;have m4:W.cell? ⟨w.heap.size+1,4,none⟩=some (.slice b3 c.rows.length d3):=blk9 q2 4 _ rfl;have m5:W.cell? ⟨w.heap.size+1,5,none⟩=some (.slice b4 c.lits.length d4):=blk9 q2 5 _ rfl;clear hW q1 q2;unfold conV;go_enter Tryz.func78,Tryz.ntmps78
 go_wp2_with fail
 rw[←HW.out];refine (HI1.out 0).mono ?_;rintro e w1 ⟨rfl,n1,rfl⟩;go_wp2_with fail
 refine (HI2.out n1).mono ?_;rintro e w2 ⟨rfl,n2,rfl⟩;go_wp2_with fail
 refine (HI3.out n2).mono ?_;rintro e w3 ⟨rfl,n3,rfl⟩;go_wp2_with fail
 refine (HI4.out n3).mono ?_;rintro e w4 ⟨rfl,n4,rfl⟩;go_wp2
 go_ret
 exact⟨rfl,HEN.out _⟩
theorem zGt (m:Mod) (vs cs us ts:Value) (w:World) (hv:MArg w vs cs m) (hu:MArg w us ts m) :
 Calls Tryz.prog 31 #[modV vs cs m,modV us ts m] w fun e w'=>e=.returned (.bool true)∧Below w.heap.size w w':=by
 have HA:Hid (MArg w vs cs m):=hv;have HB:Hid (MArg w us ts m):=hu;obtain⟨⟨a1,c1,rfl,hm1,_⟩,⟨a2,c2,rfl,hm2,_⟩⟩:=hv;obtain⟨⟨b1,d1,rfl,hm3,_⟩,⟨b2,d2,rfl,hm4,_⟩⟩:=hu;unfold maxLen at hm1 hm2 hm3 hm4;obtain⟨W,hW⟩:∃W,W=(w.alloc (.cells #[.slice a1 m.vars.length c1,.slice a2 m.cons.length c2,.int .i64 m.goal,.int .i64 m.var] 25)).alloc (.cells #[.slice b1 m.vars.length d1,.slice b2 m.cons.length d2,.int .i64 m.goal,.int .i64 m.var] 25):=⟨_,rfl⟩;have HW:Hid (W=(w.alloc (.cells #[.slice a1 m.vars.length c1,.slice a2 m.cons.length c2,.int .i64 m.goal,.int .i64 m.var] 25)).alloc (.cells #[.slice b1 m.vars.length d1,.slice b2 m.cons.length d2,.int .i64 m.goal,.int .i64 m.var] 25)):=hW;have HBW:Hid (Below w.heap.size w W):=by show Below _ _ _;rw[hW];exact (zAA _ _).alloc (zAA _ _).size _
 have q1:W.heap[w.heap.size]? = some (.cells #[.slice a1 m.vars.length c1,.slice a2 m.cons.length c2,.int .i64 m.goal,.int .i64 m.var] 25):=by
  rw[hW];have h:=(zAA (w.alloc (.cells #[.slice a1 m.vars.length c1,.slice a2 m.cons.length c2,.int .i64 m.goal,.int .i64 m.var] 25)) (.cells #[.slice b1 m.vars.length d1,.slice b2 m.cons.length d2,.int .i64 m.goal,.int .i64 m.var] 25)).block w.heap.size (by simp)
  rw[h];exact heap_alloc_new _ _
 have q2:W.heap[w.heap.size+1]? = some (.cells #[.slice b1 m.vars.length d1,.slice b2 m.cons.length d2,.int .i64 m.goal,.int .i64 m.var] 25):=by
  rw[hW];have h:=heap_alloc_new (w.alloc (.cells #[.slice a1 m.vars.length c1,.slice a2 m.cons.length c2,.int .i64 m.goal,.int .i64 m.var] 25)) (.cells #[.slice b1 m.vars.length d1,.slice b2 m.cons.length d2,.int .i64 m.goal,.int .i64 m.var] 25);simpa using h
 have hl1:w.heap.size<W.heap.size:=(Array.getElem?_eq_some_iff.1 q1).1;have hl2:w.heap.size+1<W.heap.size:=(Array.getElem?_eq_some_iff.1 q2).1;have k0:W.cell? ⟨w.heap.size,0,none⟩=some (.slice a1 m.vars.length c1):=blk9 q1 0 _ rfl;have k1:W.cell? ⟨w.heap.size,1,none⟩=some (.slice a2 m.cons.length c2):=blk9 q1 1 _ rfl;have k2:W.cell? ⟨w.heap.size,2,none⟩=some (.int .i64 m.goal):=blk9 q1 2 _ rfl;have k3:W.cell? ⟨w.heap.size,3,none⟩=some (.int .i64 m.var):=blk9 q1 3 _ rfl;have m0:W.cell? ⟨w.heap.size+1,0,none⟩=some (.slice b1 m.vars.length d1):=blk9 q2 0 _ rfl;have m1:W.cell? ⟨w.heap.size+1,1,none⟩=some (.slice b2 m.cons.length d2):=blk9 q2 1 _ rfl;have m2:W.cell? ⟨w.heap.size+1,2,none⟩=some (.int .i64 m.goal):=blk9 q2 2 _ rfl;have m3:W.cell? ⟨w.heap.size+1,3,none⟩=some (.int .i64 m.var):=blk9 q2 3 _ rfl;have g0:((m.vars.length:Int) != (m.vars.length:Int))=false:=by simp
 have g1:((m.cons.length:Int) != (m.cons.length:Int))=false:=by simp
 have g2:(m.goal != m.goal)=false:=by simp
 have g3:(m.var != m.var)=false:=by simp
 clear hW q1 q2;unfold modV;go_enter Tryz.func31,Tryz.ntmps31
 go_wp2_with fail
 rw[←HW.out];clear HW;go_loopw [5] (fun i wr=>∃k:Nat,k≤m.vars.length∧i=.int .i64 k∧∃n,wr=W.drewN n) (fun i _=>m.vars.length - (intOf i).toNat)
 case atStart=>exact⟨0,by omega,rfl,0,rfl⟩
 case round =>
  obtain⟨k,hk,rfl,nq,rfl⟩:=hrel;by_cases hlt:k<m.vars.length
  ·obtain⟨x,hx⟩:∃x,m.vars[k]? = some x:=⟨m.vars[k],by simp[hlt]⟩
   obtain⟨_,bb,off,rfl,hb,e0,e1,e2⟩:=VArg.nth (VArg.below HBW.out HA.out.1) k x hx;obtain⟨_,bb',off',rfl,hb',f0,f1,f2⟩:=VArg.nth (VArg.below HBW.out HB.out.1) k x hx;clear hx;go_wp2
   go_quiet (fail)
   go_wp2
   go_roundw
   case rel=>exact⟨k+1,by omega,by go_num,_,rfl⟩
   case measure=>simp[intOf];omega
  ·go_wp2_with fail
   go_loopw [6] (fun i wr=>∃k:Nat,k≤m.cons.length∧i=.int .i64 k∧Hid (Below W.heap.size W wr)) (fun i _=>m.cons.length - (intOf i).toNat)
   case atStart=>exact⟨0,by omega,rfl,below_drewN (Below.refl _ _) _⟩
   case round =>
    obtain⟨k,hk,rfl,hbw⟩:=hrel;have u1:=(hbw.out.cell (p:=⟨w.heap.size,1,none⟩) hl1).trans k1;have v1:=(hbw.out.cell (p:=⟨w.heap.size+1,1,none⟩) hl2).trans m1;have hl1:w.heap.size<wr.heap.size:=Nat.lt_of_lt_of_le hl1 hbw.out.size;have hl2:w.heap.size+1<wr.heap.size:=Nat.lt_of_lt_of_le hl2 hbw.out.size;by_cases hlt2:k<m.cons.length
    ·obtain⟨x,hx⟩:∃x,m.cons[k]? = some x:=⟨m.cons[k],by simp[hlt2]⟩
     have HBR:Hid (Below w.heap.size w wr):=HBW.out.trans (hbw.out.mono HBW.out.size);obtain⟨bb,off,vv,vc,vr,vl,rfl,hb,e0,e1,e2,e3,e4,e5,hka⟩:=CArg.nth (CArg.below HBR.out HA.out.2) k x hx;obtain⟨bb',off',uv,uc,ur,ul,rfl,hb',f0,f1,f2,f3,f4,f5,hkb⟩:=CArg.nth (CArg.below HBR.out HB.out.2) k x hx;have HKA:Hid (KArg wr vv vc vr vl x):=hka;have HKB:Hid (KArg wr uv uc ur ul x):=hkb;obtain⟨⟨p1,r1,rfl,_,_⟩,⟨p2,r2,rfl,_,_⟩,⟨p3,r3,rfl,_,_⟩,⟨p4,r4,rfl,_,_⟩⟩:=hka;obtain⟨⟨t1,s1,rfl,_,_⟩,⟨t2,s2,rfl,_,_⟩,⟨t3,s3,rfl,_,_⟩,⟨t4,s4,rfl,_,_⟩⟩:=hkb;have HSC:Hid (∀Y,Below wr.heap.size wr Y→Calls Tryz.prog 78 #[conV (.slice p1 x.vars.length r1) (.slice p2 x.consts.length r2) (.slice p3 x.rows.length r3) (.slice p4 x.lits.length r4) x,conV (.slice t1 x.vars.length s1) (.slice t2 x.consts.length s2) (.slice t3 x.rows.length s3) (.slice t4 x.lits.length s4) x] Y fun e w'=>e=.returned (.bool true)∧Below wr.heap.size wr w'):=fun Y hY=>by
      refine (zOQ x _ _ _ _ _ _ _ _ Y (KArg.below hY HKA.out) (KArg.below hY HKB.out)).mono ?_;rintro e w' ⟨rfl,hb⟩;exact⟨rfl,hY.trans (hb.mono hY.size)⟩
     have hk3:(k:Int)<(m.cons.length:Int):=by omega
     have hk4:(0:Int)≤(k:Int):=by omega
     clear hx k0 k1 k2 k3 m0 m1 m2 m3;go_wp2_with fail
     go_region_held3 (fun Y=>Below wr.heap.size wr Y∧Y.cell? ⟨w.heap.size,1,none⟩=some (.slice (some ⟨bb,off,none⟩) m.cons.length c2)∧Y.cell? ⟨w.heap.size+1,1,none⟩=some (.slice (some ⟨bb',off',none⟩) m.cons.length d2)∧Y.cell? ⟨bb,off+k * 6,none⟩=some (.int .i64 x.kind)∧Y.cell? ⟨bb,off+k * 6+1,none⟩=some (.slice p1 x.vars.length r1)∧Y.cell? ⟨bb,off+k * 6+2,none⟩=some (.slice p2 x.consts.length r2)∧Y.cell? ⟨bb,off+k * 6+3,none⟩=some (.int .i64 x.n)∧Y.cell? ⟨bb,off+k * 6+4,none⟩=some (.slice p3 x.rows.length r3)∧Y.cell? ⟨bb,off+k * 6+5,none⟩=some (.slice p4 x.lits.length r4)∧Y.cell? ⟨bb',off'+k * 6,none⟩=some (.int .i64 x.kind)∧Y.cell? ⟨bb',off'+k * 6+1,none⟩=some (.slice t1 x.vars.length s1)∧Y.cell? ⟨bb',off'+k * 6+2,none⟩=some (.slice t2 x.consts.length s2)∧Y.cell? ⟨bb',off'+k * 6+3,none⟩=some (.int .i64 x.n)∧Y.cell? ⟨bb',off'+k * 6+4,none⟩=some (.slice t3 x.rows.length s3)∧Y.cell? ⟨bb',off'+k * 6+5,none⟩=some (.slice t4 x.lits.length s4))
      ((refine (fun (hB:Below wr.heap.size wr _)=>⟨hB,(hB.cell (p:=⟨w.heap.size,1,none⟩) hl1).trans u1,(hB.cell (p:=⟨w.heap.size+1,1,none⟩) hl2).trans v1,(hB.cell (p:=⟨bb,off+k * 6,none⟩) hb).trans e0,(hB.cell (p:=⟨bb,off+k * 6+1,none⟩) hb).trans e1,(hB.cell (p:=⟨bb,off+k * 6+2,none⟩) hb).trans e2,(hB.cell (p:=⟨bb,off+k * 6+3,none⟩) hb).trans e3,(hB.cell (p:=⟨bb,off+k * 6+4,none⟩) hb).trans e4,(hB.cell (p:=⟨bb,off+k * 6+5,none⟩) hb).trans e5,(hB.cell (p:=⟨bb',off'+k * 6,none⟩) hb').trans f0,(hB.cell (p:=⟨bb',off'+k * 6+1,none⟩) hb').trans f1,(hB.cell (p:=⟨bb',off'+k * 6+2,none⟩) hb').trans f2,(hB.cell (p:=⟨bb',off'+k * 6+3,none⟩) hb').trans f3,(hB.cell (p:=⟨bb',off'+k * 6+4,none⟩) hb').trans f4,(hB.cell (p:=⟨bb',off'+k * 6+5,none⟩) hb').trans f5⟩:Below wr.heap.size wr _→_) ?_;first | exact (Below.refl _ _).drew | exact hbq3 | exact (show Below wr.heap.size wr _∧_ by assumption).1))
      ((go_at_call 78;refine (HSC.out _ (show Below wr.heap.size wr _∧_ by assumption).1).mono ?_;rintro e w3 ⟨rfl,hbq3⟩))
     have HB3:Hid (Below W.heap.size W _):=hbw.out.trans (hbq3.mono hbw.out.size);go_wp2
     go_roundw
     case rel=>exact⟨k+1,by omega,by go_num,HB3⟩
     case measure=>simp[intOf];omega
    ·have HEN:Hid (Below w.heap.size w wr):=HBW.out.trans (hbw.out.mono HBW.out.size)
     go_wp2
     go_ret
     exact⟨rfl,HEN.out⟩
theorem zSB:numB 0=⟨#[48]⟩:=by unfold numB Lib.itoa;rw[if_neg (by decide)];rw[Lib.decDigits,dif_pos (by decide)];rfl
theorem zTM:numB 1=⟨#[49]⟩:=by unfold numB Lib.itoa;rw[if_neg (by decide)];rw[Lib.decDigits,dif_pos (by decide)];rfl
theorem zSC:numB 2=⟨#[50]⟩:=by unfold numB Lib.itoa;rw[if_neg (by decide)];rw[Lib.decDigits,dif_pos (by decide)];rfl
theorem zSw:numB (-1)=⟨#[45,49]⟩:=by unfold numB Lib.itoa;rw[if_pos (by decide)];rw[Lib.decDigits,dif_pos (by decide)];rfl
def twoT:List UInt8:=[118,97,114,32,120,58,32,48,46,46,50,59,10,118,97,114,32,121,58,32,48,46,46,50,59,10,99,111,110,32,108,101,32,91,49,44,32,45,49,93,32,91,120,44,32,121,93,32,45,49,59,10,115,111,108,118,101,32,108,101,97,115,116,32,121,59,10]
theorem zRt:modB twoM=twoT:=by
 have hv:zAs ⟨⟨#[120]⟩,0,2⟩=[118,97,114,32,120,58,32,48,46,46,50,59,10]:=by
  unfold zAs;simp only;rw[zSB,zSC];kernel_rfl
 have hw:zAs ⟨⟨#[121]⟩,0,2⟩=[118,97,114,32,121,58,32,48,46,46,50,59,10]:=by
  unfold zAs;simp only;rw[zSB,zSC];kernel_rfl
 have hc:zA6 twoM.vars ⟨1,[0,1],[1,-1],-1,[],[]⟩=[99,111,110,32,108,101,32,91,49,44,32,45,49,93,32,91,120,44,32,121,93,32,45,49,59,10]:=by
  unfold zA6 zAz;rw[if_pos (by decide)]
  unfold zEO;simp only[List.map_cons,List.map_nil];rw[zTM,zSw];kernel_rfl
 have hg:zB2 twoM=[115,111,108,118,101,32,108,101,97,115,116,32,121,59,10]:=by kernel_rfl
 show zAs ⟨⟨#[120]⟩,0,2⟩++(zAs ⟨⟨#[121]⟩,0,2⟩++[])++((zA6 twoM.vars ⟨1,[0,1],[1,-1],-1,[],[]⟩++[])++zB2 twoM)=twoT;rw[hv,hw,hc,hg];rfl
theorem zOR:zJG twoM=(⟨twoT.toArray⟩,0):=by unfold zJG;rw[if_pos zBD,zRt]
theorem zOS:zCw ⟨twoT.toArray⟩=(twoM,0,0):=by kernel_rfl
theorem zOT (N:Nat) (w:World) (ht:TabN N w) (hN:N≤w.heap.size) :
 Calls Tryz.prog 20 #[] w fun e w'=>e=.returned (.bool true)∧Below w.heap.size w w':=by
 have HT:Hid (TabN N w):=ht;clear ht;go_enter Tryz.func20,Tryz.ntmps20
 go_wp2_with fail
 refine (zCN _).mono ?_;rintro e w1 ⟨vs,cs,rfl,hm1,hb1⟩;have HB1:Hid (Below w.heap.size w w1):=hb1;have HM1:Hid (MArg w1 vs cs twoM):=hm1;clear hb1;obtain⟨⟨a1,c1,rfl,_,_⟩,⟨a2,c2,rfl,_,_⟩⟩:=hm1;go_wp2_with fail
 refine (zQG N twoM _ _ w1 HM1.out (HT.out.below HB1.out) (Nat.le_trans hN HB1.out.size)).mono ?_;rw[zOR];obtain⟨st,hst⟩:∃st,(⟨twoT.toArray⟩:ByteArray)=st:=⟨_,rfl⟩;have HST:Hid ((⟨twoT.toArray⟩:ByteArray)=st):=hst;simp only;rw[hst];clear hst;rintro e w2 ⟨rfl,hb2⟩;have HB2:Hid (Below w.heap.size w w2):=HB1.out.trans (hb2.mono HB1.out.size);clear hb2;go_wp2_with fail
 refine (zK3 st (by rw[←HST.out];unfold maxLen;decide) w2).mono ?_
 rw[←HST.out,zOS,HST.out];simp only;rintro e w3 ⟨us,ts,rfl,hm3,hb3⟩;have HB3:Hid (Below w.heap.size w w3):=HB2.out.trans (hb3.mono HB2.out.size);have HM3:Hid (MArg w3 us ts twoM):=hm3.marg;have hma:=hm3.marg;clear hb3 hm3;obtain⟨⟨b1,d1,rfl,_,_⟩,⟨b2,d2,rfl,_,_⟩⟩:=hma;unfold modV;go_wp2_with fail
 obtain⟨W,hW⟩:∃W,W=w3.alloc (.cells #[.slice b1 twoM.vars.length d1,.slice b2 twoM.cons.length d2,.int .i64 twoM.goal,.int .i64 twoM.var] 25):=⟨_,rfl⟩;have HBW:Hid (Below w3.heap.size w3 W):=by show Below _ _ _;rw[hW];exact zAA _ _
 have HQ:W.heap[w3.heap.size]? = some (.cells #[.slice b1 twoM.vars.length d1,.slice b2 twoM.cons.length d2,.int .i64 twoM.goal,.int .i64 twoM.var] 25):=by rw[hW];exact heap_alloc_new _ _
 have hlt:w3.heap.size<W.heap.size:=(Array.getElem?_eq_some_iff.1 HQ).1;have k0:W.cell? ⟨w3.heap.size,0,none⟩=some (.slice b1 twoM.vars.length d1):=blk9 HQ 0 _ rfl;have k1:W.cell? ⟨w3.heap.size,1,none⟩=some (.slice b2 twoM.cons.length d2):=blk9 HQ 1 _ rfl;have k2:W.cell? ⟨w3.heap.size,2,none⟩=some (.int .i64 twoM.goal):=blk9 HQ 2 _ rfl;have k3:W.cell? ⟨w3.heap.size,3,none⟩=some (.int .i64 twoM.var):=blk9 HQ 3 _ rfl;rw[←hW];clear hW HQ;have HM4:Hid (MArg W (.slice b1 twoM.vars.length d1) (.slice b2 twoM.cons.length d2) twoM):=MArg.below HBW.out HM3.out;have HB4:Hid (Below w.heap.size w W):=HB3.out.trans (HBW.out.mono HB3.out.size);have t8:(st.toList==twoT)=true:=by rw[←HST.out,zMI];decide
 unfold twoT at t8;clear HST;go_region_held3 (fun Y=>Below W.heap.size W Y∧Y.cell? ⟨w3.heap.size,0,none⟩=some (.slice b1 twoM.vars.length d1)∧Y.cell? ⟨w3.heap.size,1,none⟩=some (.slice b2 twoM.cons.length d2)∧Y.cell? ⟨w3.heap.size,2,none⟩=some (.int .i64 twoM.goal)∧Y.cell? ⟨w3.heap.size,3,none⟩=some (.int .i64 twoM.var))
  ((refine (fun (hB:Below W.heap.size W _)=>⟨hB,(hB.cell (p:=⟨w3.heap.size,0,none⟩) hlt).trans k0,(hB.cell (p:=⟨w3.heap.size,1,none⟩) hlt).trans k1,(hB.cell (p:=⟨w3.heap.size,2,none⟩) hlt).trans k2,(hB.cell (p:=⟨w3.heap.size,3,none⟩) hlt).trans k3⟩:Below W.heap.size W _→_) ?_;first | exact (Below.refl _ _).drew | exact hb6 | exact hb5 | exact (show Below W.heap.size W _∧_ by assumption).1))
  (first
    | (go_at_call 37;refine (zCN _).mono ?_;rintro e w5 ⟨vs5,cs5,rfl,hm5,hbq⟩;have hb5:=zAW (by assumption) hbq;obtain⟨a5,c5,rfl,_,_⟩:=id hm5.1;obtain⟨a6,c6,rfl,_,_⟩:=id hm5.2;unfold modV)
    | (go_at_call 31;refine (show Calls Tryz.prog 31 #[modV (.slice b1 twoM.vars.length d1) (.slice b2 twoM.cons.length d2) twoM,modV (.slice a5 twoM.vars.length c5) (.slice a6 twoM.cons.length c6) twoM] w5 _ from zGt twoM _ _ _ _ w5 (MArg.below hb5 HM4.out) hm5).mono ?_;rintro e w6 ⟨rfl,hbq⟩;have hb6:=hb5.trans (hbq.mono hb5.size)))
 have HE:Hid (Below w.heap.size w w6):=HB4.out.trans (hb6.mono HB4.out.size);go_wp2
 go_ret
 exact⟨rfl,HE.out⟩
theorem zOU (m:Mod) (con:Int) (vals:List Int) (vs cs v:Value) (w:World) (hm:MArg w vs cs m) (hv:IArg w v vals) :
 Calls Tryz.prog 58 #[modV vs cs m,.int .i64 con,v] w fun e w'=>e=.returned (.tuple #[.bool (zMs m con vals).1,.int .i64 (zMs m con vals).2])∧Below w.heap.size w w':=by
 have HMA:Hid (∀w':World,Below w.heap.size w w'→MArg w' vs cs m):=fun w' h=>MArg.below h hm
 have HVA:Hid (∀w':World,Below w.heap.size w w'→IArg w' v vals):=fun w' h=>IArg.below h hv
 obtain⟨⟨a1,c1,rfl,_,_⟩,⟨a2,c2,rfl,hl2,hr2⟩⟩:=hm;obtain⟨a3,c3,rfl,hl3,hr3⟩:=hv;have HC:Hid (∀(i:Nat) (t:MCon),m.cons[i]? = some t→∃b off vv vc vr vl,a2=some ⟨b,off,none⟩∧b<w.heap.size ∧
  w.cell? ⟨b,off+i * 6,none⟩=some (.int .i64 t.kind)∧w.cell? ⟨b,off+i * 6+1,none⟩=some vv∧w.cell? ⟨b,off+i * 6+2,none⟩=some vc ∧
  w.cell? ⟨b,off+i * 6+3,none⟩=some (.int .i64 t.n)∧w.cell? ⟨b,off+i * 6+4,none⟩=some vr∧w.cell? ⟨b,off+i * 6+5,none⟩=some vl∧KArg w vv vc vr vl t):=hr2
 have HV:Hid (∀(i:Nat) (z:Int),vals[i]? = some z→∃b off,a3=some ⟨b,off,none⟩∧b<w.heap.size∧w.cell? ⟨b,off+i,none⟩=some (.int .i64 z)):=hr3;unfold maxLen at hl2 hl3;obtain⟨hl21,hl2⟩:=hl2;obtain⟨hl31,hl3⟩:=hl3;obtain⟨R,hR⟩:∃R,zMs m con vals=R:=⟨_,rfl⟩;rw[hR];obtain⟨er,her⟩:∃er,zAw m con=er:=⟨_,rfl⟩;have HER:Hid (zAw m con=er):=her;have HE:Hid (R=if er=0 then
  (if vals.length=m.vars.length then (if vals.all (fun x=>inB x 50) then (zAR (m.cons.getD con.toNat zGD) vals,0) else (false,3)) else (false,1))
  else (false,er)):=by rw[←hR,←her];rfl
 clear hR her hr2 hr3;unfold modV;go_enter Tryz.func58,Tryz.ntmps58
 go_wp2_with fail
 refine (zKP m con (.slice a1 m.vars.length c1) (.slice a2 m.cons.length c2) _ ?_).mono ?_
 ·exact HMA.out _ (zAA _ _)
 rintro e w1 ⟨rfl,hb1⟩;rw[HER.out];have d0:w1.cell? ⟨w.heap.size,0,none⟩=some (.slice a1 m.vars.length c1):=(hb1.cell (by simp)).trans (by simp)
 have d1:w1.cell? ⟨w.heap.size,1,none⟩=some (.slice a2 m.cons.length c2):=(hb1.cell (by simp)).trans (by simp)
 have HB1:Hid (Below w.heap.size w w1):=(zAA _ _).trans (hb1.mono (by simp))
 clear hb1;by_cases he:er=0
 ·subst he
  obtain⟨o1,o2,o3⟩:=zFG m con HER.out;by_cases hl:vals.length=m.vars.length
  ·have g0:((vals.length:Int) != (m.vars.length:Int))=false:=by simp[hl]
   have HL:Hid (vals.length=m.vars.length):=hl;have HE2:Hid (R=if vals.all (fun x=>inB x 50) then (zAR (m.cons.getD con.toNat zGD) vals,0) else (false,3)):=by rw[HE.out,if_pos rfl,if_pos hl];rfl
   have HO1:Hid (zAG m=0):=o1;clear hl o1;go_wp2_with fail
   go_loop [25] (fun i=>∃k:Nat,k≤vals.length∧i=.int .i64 k∧Hid ((vals.take k).all (fun x=>inB x 50)=true)) (fun i=>vals.length - (intOf i).toNat)
   case atStart=>exact⟨0,by omega,rfl,rfl⟩
   case round =>
    obtain⟨k,hk,rfl,hall⟩:=hrel;by_cases hlt:k<vals.length
    ·obtain⟨x,hx⟩:∃x,vals[k]? = some x:=⟨vals[k],by simp[hlt]⟩
     obtain⟨b,off,rfl,hb,e0⟩:=HV.out k x hx;have e1:=(HB1.out.cell (p:=⟨b,off+k,none⟩) hb).trans e0;have HX:Hid (vals[k]? = some x):=hx;clear hx e0 hb;cases hq:inB x 50
     ·have HN:Hid (R=(false,3)):=by rw[HE2.out,zCx (fun x=>inB x 50) vals k x HX.out hq];rfl
      go_wp2_with fail
      refine (zBO _ 50 (by omega) (by omega) _).mono ?_
      rintro e w1 ⟨rfl,rfl⟩;rw[hq];clear hq;go_wp2
      go_ret2
      exact⟨by rw[HN.out];rfl,HB1.out⟩
     ·have HN:Hid ((vals.take (k+1)).all (fun x=>inB x 50)=true):=zCj (fun x=>inB x 50) vals k x HX.out hall.out hq
      go_wp2_with fail
      refine (zBO _ 50 (by omega) (by omega) _).mono ?_
      rintro e w1 ⟨rfl,rfl⟩;rw[hq];clear hq;go_wp2
      go_round
      case rel=>exact⟨k+1,by omega,by go_num,HN⟩
      case measure=>simp[intOf];omega
    ·have HA:Hid (vals.all (fun x=>inB x 50)=true):=zDf _ vals k hlt hall.out
     obtain⟨j,rfl⟩:∃j:Nat,con=(j:Int):=⟨con.toNat,by omega⟩
     have hjl:j<m.cons.length:=by omega
     obtain⟨c,hc⟩:∃c,m.cons[j]? = some c:=⟨m.cons[j],by simp[hjl]⟩
     have HN:Hid (R=(zAR c vals,0)):=by
      rw[HE2.out,HA.out,if_pos rfl,Int.toNat_natCast,List.getD_eq_getElem?_getD,hc];rfl
     obtain⟨b,off,vv,vc,vr,vl,ha,hb,f0,f1,f2,f3,f4,f5,hka⟩:=HC.out j c hc;subst ha;have e0:=(HB1.out.cell (p:=⟨b,off+j * 6,none⟩) hb).trans f0;have e1:=(HB1.out.cell (p:=⟨b,off+j * 6+1,none⟩) hb).trans f1;have e2:=(HB1.out.cell (p:=⟨b,off+j * 6+2,none⟩) hb).trans f2;have e3:=(HB1.out.cell (p:=⟨b,off+j * 6+3,none⟩) hb).trans f3;have e4:=(HB1.out.cell (p:=⟨b,off+j * 6+4,none⟩) hb).trans f4;have e5:=(HB1.out.cell (p:=⟨b,off+j * 6+5,none⟩) hb).trans f5;have HK:Hid (KArg w1 vv vc vr vl c):=KArg.below HB1.out hka;have HCE:Hid (conE vals.length c=0):=by rw[HL.out];exact zGa m HO1.out j c hc
     have HBD:Hid (∀x∈vals,-50≤x∧x≤50):=fun x hx=>by
      have:=List.all_eq_true.1 HA.out x hx;simpa[inB] using this
     obtain⟨⟨q1,r1,rfl,_,_⟩,⟨q2,r2,rfl,_,_⟩,⟨q3,r3,rfl,_,_⟩,⟨q4,r4,rfl,_,_⟩⟩:=hka;clear hc f0 f1 f2 f3 f4 f5 hb;go_wp2_with fail
     refine (zFg c vals _ _ _ _ _ _ HK.out (HVA.out _ HB1.out) HCE.out HBD.out).mono ?_;rintro e w2 ⟨rfl,hb2⟩;have hb3:Below w.heap.size w w2:=HB1.out.trans (hb2.mono HB1.out.size);clear hb2;go_wp2
     go_ret2
     exact⟨by rw[HN.out];rfl,hb3⟩
  ·have g0:((vals.length:Int) != (m.vars.length:Int))=true:=by simp;omega
   have HN:Hid (R=(false,1)):=by rw[HE.out,if_pos rfl,if_neg hl];rfl
   clear hl;go_wp2
   go_ret2
   exact⟨by rw[HN.out];rfl,HB1.out⟩
 ·have HN:Hid (R=(false,er)):=by rw[HE.out,if_neg he];rfl
  have he2:(er != 0)=true:=by simpa using he
  clear he;go_wp2
  go_ret2
  exact⟨by rw[HN.out];rfl,HB1.out⟩
theorem zRu (m:Mod) (vals:List Int) (vs cs v:Value) (w:World) (hm:MArg w vs cs m) (hv:IArg w v vals) :
 Calls Tryz.prog 44 #[modV vs cs m,v] w fun e w'=>e=.returned (.tuple #[.bool (allA m vals).1,.int .i64 (allA m vals).2])∧Below w.heap.size w w':=by
 have HMA:Hid (∀w':World,Below w.heap.size w w'→MArg w' vs cs m):=fun w' h=>MArg.below h hm
 have HVA:Hid (∀w':World,Below w.heap.size w w'→IArg w' v vals):=fun w' h=>IArg.below h hv
 obtain⟨⟨a1,c1,rfl,hl1,hr1⟩,⟨a2,c2,rfl,hl2,hr2⟩⟩:=hm;obtain⟨a3,c3,rfl,hl3,hr3⟩:=hv;have HV1:Hid (∀(i:Nat) (t:MVar),m.vars[i]? = some t→t.name.size≤maxLen∧∃b off,a1=some ⟨b,off,none⟩∧b<w.heap.size ∧
  w.cell? ⟨b,off+i * 3,none⟩=some (.string t.name)∧w.cell? ⟨b,off+i * 3+1,none⟩=some (.int .i64 t.lo)∧w.cell? ⟨b,off+i * 3+2,none⟩=some (.int .i64 t.hi)):=hr1
 have HC:Hid (∀(i:Nat) (t:MCon),m.cons[i]? = some t→∃b off vv vc vr vl,a2=some ⟨b,off,none⟩∧b<w.heap.size ∧
  w.cell? ⟨b,off+i * 6,none⟩=some (.int .i64 t.kind)∧w.cell? ⟨b,off+i * 6+1,none⟩=some vv∧w.cell? ⟨b,off+i * 6+2,none⟩=some vc ∧
  w.cell? ⟨b,off+i * 6+3,none⟩=some (.int .i64 t.n)∧w.cell? ⟨b,off+i * 6+4,none⟩=some vr∧w.cell? ⟨b,off+i * 6+5,none⟩=some vl∧KArg w vv vc vr vl t):=hr2
 have HV:Hid (∀(i:Nat) (z:Int),vals[i]? = some z→∃b off,a3=some ⟨b,off,none⟩∧b<w.heap.size∧w.cell? ⟨b,off+i,none⟩=some (.int .i64 z)):=hr3;unfold maxLen at hl1 hl2 hl3;obtain⟨hl11,hl1⟩:=hl1;obtain⟨hl21,hl2⟩:=hl2;obtain⟨hl31,hl3⟩:=hl3;obtain⟨R,hR⟩:∃R,allA m vals=R:=⟨_,rfl⟩;rw[hR];obtain⟨er,her⟩:∃er,zAG m=er:=⟨_,rfl⟩;have HER:Hid (zAG m=er):=her;have HE:Hid (R=if er=0 then
  (if vals.length=m.vars.length then ((m.vars.zip vals).all (fun p=>zCb p.1 p.2)&&m.cons.all (fun c=>zAR c vals),0) else (false,1))
  else (false,er)):=by rw[←hR,←her];rfl
 clear hR her hr1 hr2 hr3;unfold modV;go_enter Tryz.func44,Tryz.ntmps44
 go_wp2_with fail
 refine (zA9 m (.slice a1 m.vars.length c1) (.slice a2 m.cons.length c2) _ ?_).mono ?_
 ·exact HMA.out _ (zAA _ _)
 rintro e w1 ⟨rfl,hb1⟩;rw[HER.out];have d0:w1.cell? ⟨w.heap.size,0,none⟩=some (.slice a1 m.vars.length c1):=(hb1.cell (by simp)).trans (by simp)
 have d1:w1.cell? ⟨w.heap.size,1,none⟩=some (.slice a2 m.cons.length c2):=(hb1.cell (by simp)).trans (by simp)
 have HD1:Hid (w1.cell? ⟨w.heap.size,1,none⟩=some (.slice a2 m.cons.length c2)):=d1;have hs1:w.heap.size+1≤w1.heap.size:=by simpa using hb1.size
 have HB1:Hid (Below w.heap.size w w1):=(zAA _ _).trans (hb1.mono (by simp))
 clear hb1;by_cases he:er=0
 ·subst he
  by_cases hl:vals.length=m.vars.length
  ·have g0:((vals.length:Int) != (m.vars.length:Int))=false:=by simp[hl]
   have HL:Hid (vals.length=m.vars.length):=hl;have HE2:Hid (R=((m.vars.zip vals).all (fun p=>zCb p.1 p.2)&&m.cons.all (fun c=>zAR c vals),0)):=by rw[HE.out,if_pos rfl,if_pos hl];rfl
   clear hl;go_wp2_with fail
   go_loopw [25] (fun i wr=>∃k:Nat,k≤m.vars.length∧i=.int .i64 k∧Hid (((m.vars.zip vals).take k).all (fun p=>zCb p.1 p.2)=true)∧Below w1.heap.size w1 wr) (fun i _=>m.vars.length - (intOf i).toNat)
   case atStart=>exact⟨0,by omega,rfl,rfl,Below.refl _ _⟩
   case round =>
    obtain⟨k,hk,rfl,hall,hbw⟩:=hrel;have HBW:Hid (Below w.heap.size w wr):=HB1.out.trans (hbw.mono (by omega))
    have HBW1:Hid (Below w1.heap.size w1 wr):=hbw;by_cases hlt:k<m.vars.length
    ·have hlt':k<vals.length:=by rw[HL.out];exact hlt
     obtain⟨x,hx⟩:∃x,vals[k]? = some x:=⟨vals[k],by simp[hlt']⟩
     obtain⟨t,ht⟩:∃t,m.vars[k]? = some t:=⟨m.vars[k],by simp[hlt]⟩
     have HG:Hid ((m.vars.zip vals)[k]? = some (t,x)):=by show _=_;rw[List.getElem?_zip_eq_some];exact⟨ht,hx⟩
     obtain⟨b,off,rfl,hb,e0⟩:=HV.out k x hx;obtain⟨_,b',off',rfl,hb',f0,f1,f2⟩:=HV1.out k t ht;have e1:=(HBW.out.cell (p:=⟨b,off+k,none⟩) hb).trans e0;have k0:=(HBW.out.cell (p:=⟨b',off'+k * 3,none⟩) hb').trans f0;have k1:=(HBW.out.cell (p:=⟨b',off'+k * 3+1,none⟩) hb').trans f1;have k2:=(HBW.out.cell (p:=⟨b',off'+k * 3+2,none⟩) hb').trans f2;have hbr:b<wr.heap.size:=Nat.lt_of_lt_of_le hb HBW.out.size;clear hx ht e0 f0 f1 f2 hb hb' hbw;by_cases q1:x<t.lo
     ·have HN:Hid (R=(false,0)):=by
       have:=zCx (fun p:MVar×Int=>zCb p.1 p.2) (m.vars.zip vals) k (t,x) HG.out (by simp[zCb,q1])
       rw[HE2.out,this];rfl
      have q2:decide (x<t.lo)=true:=decide_eq_true q1;go_wp2
      go_quiet (fail)
      go_wp2
      go_ret2
      exact⟨by rw[HN.out];rfl,below_drewN (HBW.out.trans ((zAA _ _).mono HBW.out.size)) _⟩
     ·have q2:decide (x<t.lo)=false:=decide_eq_false q1
      by_cases q3:t.hi<x
      ·have HN:Hid (R=(false,0)):=by
        have:=zCx (fun p:MVar×Int=>zCb p.1 p.2) (m.vars.zip vals) k (t,x) HG.out (by simp[zCb,q3])
        rw[HE2.out,this];rfl
       clear q1;go_wp2
       go_quiet (fail)
       go_wp2
       go_ret2
       exact⟨by rw[HN.out];rfl,below_drewN (HBW.out.trans ((zAA _ _).mono HBW.out.size)) _⟩
      ·have HN:Hid (((m.vars.zip vals).take (k+1)).all (fun p=>zCb p.1 p.2)=true):=zCj (fun p:MVar×Int=>zCb p.1 p.2) (m.vars.zip vals) k (t,x) HG.out hall.out (by simp[zCb];omega)
       have q4:decide (t.hi<x)=false:=decide_eq_false q3;clear q1 q3;go_wp2
       go_quiet (fail)
       go_wp2
       go_roundw
       case rel=>exact⟨k+1,by omega,by go_num,HN,below_drewN (HBW1.out.alloc HBW1.out.size _) _⟩
       case measure=>simp[intOf];omega
    ·have HA:Hid ((m.vars.zip vals).all (fun p=>zCb p.1 p.2)=true):=zDf _ _ k (by rw[List.length_zip,HL.out];omega) hall.out
     have HE3:Hid (R=(m.cons.all (fun c=>zAR c vals),0)):=by rw[HE2.out,HA.out,Bool.true_and];rfl
     have HBD:Hid (∀x∈vals,-50≤x∧x≤50):=by
      intro x hx;obtain⟨i,hi⟩:=List.mem_iff_getElem?.1 hx;have hil:i<m.vars.length:=by rw[←HL.out];exact (List.getElem?_eq_some_iff.1 hi).1
      have ht:m.vars[i]? = some m.vars[i]:=by simp[hil]
      have hvo:=zHG m HER.out i _ ht;have:=List.all_eq_true.1 HA.out (m.vars[i],x) (List.mem_of_getElem? (i:=i) (by rw[List.getElem?_zip_eq_some];exact⟨ht,hi⟩))
      simp[zCb] at this;omega
     have e1:wr.cell? ⟨w.heap.size,1,none⟩=some (.slice a2 m.cons.length c2):=(hbw.cell (p:=⟨w.heap.size,1,none⟩) (by simp only;omega)).trans d1
     obtain⟨wo,rfl⟩:∃wo:World,wo=wr:=⟨_,rfl⟩;go_wp2
     clear hk hall hbw hlt e1;go_loopw [50] (fun i wr=>∃k:Nat,k≤m.cons.length∧i=.int .i64 k∧Hid ((m.cons.take k).all (fun c=>zAR c vals)=true)∧Below w.heap.size w wr) (fun i _=>m.cons.length - (intOf i).toNat)
     case atStart=>exact⟨0,by omega,rfl,rfl,HBW.out⟩
     case round =>
      obtain⟨j,hj,rfl,hall,hbw⟩:=hrel;have HBR:Hid (Below w.heap.size w wr):=hbw;clear hbw;by_cases hlt:j<m.cons.length
      ·obtain⟨c,hc⟩:∃c,m.cons[j]? = some c:=⟨m.cons[j],by simp[hlt]⟩
       have HCC:Hid (m.cons[j]? = some c):=hc;obtain⟨b,off,vv,vc,vr,vl,ha,hb,f0,f1,f2,f3,f4,f5,hka⟩:=HC.out j c hc;subst ha;have e0:=(HBR.out.cell (p:=⟨b,off+j * 6,none⟩) hb).trans f0;have e1:=(HBR.out.cell (p:=⟨b,off+j * 6+1,none⟩) hb).trans f1;have e2:=(HBR.out.cell (p:=⟨b,off+j * 6+2,none⟩) hb).trans f2;have e3:=(HBR.out.cell (p:=⟨b,off+j * 6+3,none⟩) hb).trans f3;have e4:=(HBR.out.cell (p:=⟨b,off+j * 6+4,none⟩) hb).trans f4;have e5:=(HBR.out.cell (p:=⟨b,off+j * 6+5,none⟩) hb).trans f5;have HK:Hid (KArg wr vv vc vr vl c):=KArg.below HBR.out hka;have HCE:Hid (conE vals.length c=0):=by rw[HL.out];exact zGa m HER.out j c hc
       obtain⟨⟨q1,r1,rfl,_,_⟩,⟨q2,r2,rfl,_,_⟩,⟨q3,r3,rfl,_,_⟩,⟨q4,r4,rfl,_,_⟩⟩:=hka;clear hc f0 f1 f2 f3 f4 f5 hb;cases hq:zAR c vals
       ·have HN:Hid (R=(false,0)):=by rw[HE3.out,zCx (fun c=>zAR c vals) m.cons j c HCC.out hq];rfl
        go_wp2_with fail
        refine (zFg c vals _ _ _ _ _ _ (KArg.below (zAA _ _) HK.out) (HVA.out _ (HBR.out.trans ((zAA _ _).mono HBR.out.size))) HCE.out HBD.out).mono ?_;rintro e w2 ⟨rfl,hb2⟩;rw[hq];have hb3:Below w.heap.size w w2:=(HBR.out.trans ((zAA _ _).mono HBR.out.size)).trans (hb2.mono (by have:=HBR.out.size;simp;omega))
        clear hb2 hq;go_wp2
        go_ret2
        exact⟨by rw[HN.out];rfl,hb3⟩
       ·have HN:Hid ((m.cons.take (j+1)).all (fun c=>zAR c vals)=true):=zCj (fun c=>zAR c vals) m.cons j c HCC.out hall.out hq
        go_wp2_with fail
        refine (zFg c vals _ _ _ _ _ _ (KArg.below (zAA _ _) HK.out) (HVA.out _ (HBR.out.trans ((zAA _ _).mono HBR.out.size))) HCE.out HBD.out).mono ?_;rintro e w2 ⟨rfl,hb2⟩;rw[hq];have hb3:Below w.heap.size w w2:=(HBR.out.trans ((zAA _ _).mono HBR.out.size)).trans (hb2.mono (by have:=HBR.out.size;simp;omega))
        clear hb2 hq;go_wp2
        go_roundw
        case rel=>exact⟨j+1,by omega,by go_num,HN,hb3⟩
        case measure=>simp[intOf];omega
      ·have HN:Hid (R=(true,0)):=by rw[HE3.out,zDf _ m.cons j hlt hall.out];rfl
       go_wp2
       go_ret2
       exact⟨by rw[HN.out];rfl,HBR.out⟩
  ·have g0:((vals.length:Int) != (m.vars.length:Int))=true:=by simp;omega
   have HN:Hid (R=(false,1)):=by rw[HE.out,if_pos rfl,if_neg hl];rfl
   clear hl;go_wp2
   go_ret2
   exact⟨by rw[HN.out];rfl,HB1.out⟩
 ·have HN:Hid (R=(false,er)):=by rw[HE.out,if_neg he];rfl
  have he2:(er != 0)=true:=by simpa using he
  clear he;go_wp2
  go_ret2
  exact⟨by rw[HN.out];rfl,HB1.out⟩
end Go.Proofs.YtndcpnlaadikoaaGreatDoor
