/- What the proof leans on, part 44. -/
import Derived.Test.YtndcpnlaadikoaaGreatDoorPartBq
import Derived.Test.YtndcpnlaadikoaaGreatDoorPartBn
import Derived.Test.YtndcpnlaadikoaaGreatDoorPartAr
import Derived.Deep.CutBlock
import Derived.Deep.DeepCutAuto
namespace Go.Proofs.YtndcpnlaadikoaaGreatDoor
open Go.RowKit
theorem zKl (m:Mod) (A:List Nat) (l:List MStep) (k:Nat) (x:MStep) (h:l[k]? = some x):zBb m A (l.drop k)=(zCp m A x&&zBb m (A++[zAF m.vars x.cla]) (l.drop (k+1))):=by
 have hk:=(List.getElem?_eq_some_iff.1 h).1
 have e:l[k]=x:=by rw[List.getElem?_eq_getElem hk] at h;exact Option.some.inj h
 rw[List.drop_eq_getElem_cons hk,e]
 rfl
set_option maxHeartbeats 6400000 in
set_option maxRecDepth 100000 in
theorem zF1 (m:Mod) (hm:zAP m=0) (given:List Cla) (hg:∀d∈given,claE m.vars d=0) (hg6:given.length≤600) (l:List MStep) (hl6:l.length≤6000) (hl:∀s∈l,claE m.vars s.cla=0) (hk:∀s∈l,s.kind=1→0≤s.con∧s.con<(m.cons.length:Int))
 (vs cs u v:Value) (w:World) (hma:MArg w vs cs m) (hu:zA8 w u given) (hv:zEM w v l) :
 Calls Tryz.prog 11 #[modV vs cs m,u,v] w fun e w'=>e=.returned (.bool (zBb m (given.map (zAF m.vars)) l))∧Below w.heap.size w w':=by
 obtain⟨hs6,hrow⟩:=zGO m (zAK m.vars) hm (zFI m.vars)
 have H6:Hid ((zAK m.vars).length≤6):=hs6
 have HRW:Hid (∀r∈zAK m.vars,r.length≤6):=hrow
 have HM0:Hid (zAP m=0):=hm
 have HMA:Hid (MArg w vs cs m):=hma
 have HU:Hid (zA8 w u given):=hu
 have HV:Hid (zEM w v l):=hv
 have HG:Hid (∀d∈given,claE m.vars d=0):=hg
 have HL:Hid (∀s∈l,claE m.vars s.cla=0):=hl
 have HK:Hid (∀s∈l,s.kind=1→0≤s.con∧s.con<(m.cons.length:Int)):=hk
 obtain⟨R,hR⟩:∃R,zBb m (given.map (zAF m.vars)) l=R:=⟨_,rfl⟩
 have HR:Hid (zBb m ((given++(l.take 0).map (·.cla)).map (zAF m.vars)) (l.drop 0)=R):=by show _=_;simpa using hR
 rw[hR]
 obtain⟨⟨a,cap,rfl,_,_⟩,⟨a0,c0,rfl,_,_⟩⟩:=hma
 obtain⟨a1,c1,rfl,⟨hm11,hm1⟩,_⟩:=hv
 obtain⟨a2,c2,rfl,⟨hm21,hm2⟩,_⟩:=hu
 unfold maxLen at hm1 hm2
 unfold modV
 clear hs6 hrow hm hg hl hk hR
 go_enter Tryz.func11,Tryz.ntmps11
 have HB0:Hid (Below w.heap.size w (w.alloc (.cells #[.slice a m.vars.length cap,.slice a0 m.cons.length c0,.int .i64 m.goal,.int .i64 m.var] 25))):=zAA _ _
 have HN:Hid ((w.alloc (.cells #[.slice a m.vars.length cap,.slice a0 m.cons.length c0,.int .i64 m.goal,.int .i64 m.var] 25)).heap[w.heap.size]? = some (.cells #[.slice a m.vars.length cap,.slice a0 m.cons.length c0,.int .i64 m.goal,.int .i64 m.var] 25)):=heap_alloc_new _ _
 have HRN:Hid (((w.alloc (.cells #[.slice a m.vars.length cap,.slice a0 m.cons.length c0,.int .i64 m.goal,.int .i64 m.var] 25)).alloc (.cells #[] 28)).ownsRow (w.heap.size+1) 28 1 (.slice (some ⟨w.heap.size+1,0,none⟩) 0 0) 0 []):=by
  have h:=zM6 (w.alloc (.cells #[.slice a m.vars.length cap,.slice a0 m.cons.length c0,.int .i64 m.goal,.int .i64 m.var] 25)) 28
  rw[show (w.alloc (.cells #[.slice a m.vars.length cap,.slice a0 m.cons.length c0,.int .i64 m.goal,.int .i64 m.var] 25)).heap.size=w.heap.size+1 by simp] at h
  exact h
 go_wp2_with (at_builtin;refine zEQ rfl _ _ rfl (w.heap.size+1) _ rfl HRN.out (w.alloc (.cells #[.slice a m.vars.length cap,.slice a0 m.cons.length c0,.int .i64 m.goal,.int .i64 m.var] 25)) ?c1 _ given rfl ?c2 (by omega) ?c3 ?_)
 case c1=>exact zAA _ _
 case c2=>exact zA8.below HB0.out HU.out
 case c3=>simp
 intro v3 w3 cells0 hcr hown3 hgrow
 have HB3:Hid (Below (w.alloc (.cells #[.slice a m.vars.length cap,.slice a0 m.cons.length c0,.int .i64 m.goal,.int .i64 m.var] 25)).heap.size (w.alloc (.cells #[.slice a m.vars.length cap,.slice a0 m.cons.length c0,.int .i64 m.goal,.int .i64 m.var] 25)) w3):=(zAA _ _).grown hgrow (by simp) (fun g h=>by have:=(HRN.out.lt g h).1;simpa using this)
 have HWS:Hid ((w.alloc (.cells #[.slice a m.vars.length cap,.slice a0 m.cons.length c0,.int .i64 m.goal,.int .i64 m.var] 25)).heap.size=w.heap.size+1):=by show _=_;simp
 obtain⟨W,hW⟩:∃W,w.alloc (.cells #[.slice a m.vars.length cap,.slice a0 m.cons.length c0,.int .i64 m.goal,.int .i64 m.var] 25)=W:=⟨_,rfl⟩
 rw[hW] at HB0 HN HB3 HWS hcr
 clear hW HRN hgrow
 have HC0:Hid (CRel W cells0 (given++(l.take 0).map (·.cla))):=by show CRel _ _ _;simpa using hcr
 have HO3:Hid (w3.ownsRow W.heap.size 28 1 v3 cells0.length cells0):=by show World.ownsRow _ _ _ _ _ _ _;rw[HWS.out];exact hown3
 clear hcr hown3
 replace HMA:Hid (MArg W (.slice a m.vars.length cap) (.slice a0 m.cons.length c0) m):=MArg.below HB0.out HMA.out
 replace HV:Hid (zEM W (.slice a1 l.length c1) l):=zEM.below HB0.out HV.out
 have HQ:Hid (∀Y,Below W.heap.size W Y→w.heap.size<Y.heap.size∧Y.cell? ⟨w.heap.size,0,none⟩=some (.slice a m.vars.length cap)∧Y.cell? ⟨w.heap.size,1,none⟩=some (.slice a0 m.cons.length c0)∧Y.cell? ⟨w.heap.size,2,none⟩=some (.int .i64 m.goal)∧Y.cell? ⟨w.heap.size,3,none⟩=some (.int .i64 m.var)):=fun Y hY=>by
  have h:=(hY.block _ (Array.getElem?_eq_some_iff.1 HN.out).1).trans HN.out
  exact⟨(Array.getElem?_eq_some_iff.1 h).1,blk9 h 0 _ rfl,blk9 h 1 _ rfl,blk9 h 2 _ rfl,blk9 h 3 _ rfl⟩
 have HTO:Hid (∀Y,Below W.heap.size W Y→Below w.heap.size w Y):=fun Y hY=>HB0.out.trans (hY.mono HB0.out.size)
 clear HN HU
 go_wp2_with fail
 go_loopw [7,8,9,10] (fun o i _ _ wr=>∃(k:Nat) (cells:List Value),k≤l.length∧i=.int .i64 k∧wr.ownsRow W.heap.size 28 1 o cells.length cells∧Hid (CRel W cells (given++(l.take k).map (·.cla)))∧Hid (zBb m ((given++(l.take k).map (·.cla)).map (zAF m.vars)) (l.drop k)=R)∧Below W.heap.size W wr) (fun _ i _ _ _=>l.length - (intOf i).toNat)
 case atStart=>exact⟨0,cells0,by omega,rfl,HO3.out,HC0,HR,HB3.out⟩
 case round =>
  obtain⟨k,cells,hk,rfl,hown,hcr,hst,hbw⟩:=hrel
  have HOW:Hid (wr.ownsRow W.heap.size 28 1 u7 cells.length cells):=hown
  have HCR:Hid (CRel W cells (given++(l.take k).map (·.cla))):=hcr
  have HST:Hid (zBb m ((given++(l.take k).map (·.cla)).map (zAF m.vars)) (l.drop k)=R):=hst
  have HBW:Hid (Below W.heap.size W wr):=hbw
  obtain⟨an,cn,rfl⟩:=zAE hown
  have hcl:cells.length=given.length+k:=by
   have:=hcr.out.1
   rw[this];simp;omega
  have hcl6:cells.length≤6600:=by omega
  clear hcl hown hcr hst hbw
  by_cases hlt:k<l.length
  ·obtain⟨x,hx⟩:∃x,l[k]? = some x:=⟨l[k],by simp[hlt]⟩
   have HX0:Hid (claE m.vars x.cla=0):=HL.out x (List.mem_of_getElem? hx)
   have HXK:Hid (x.kind=1→0≤x.con∧x.con<(m.cons.length:Int)):=HK.out x (List.mem_of_getElem? hx)
   have HSD:Hid ((zCp m ((given++(l.take k).map (·.cla)).map (zAF m.vars)) x&&zBb m ((given++(l.take (k+1)).map (·.cla)).map (zAF m.vars)) (l.drop (k+1)))=R):=by
    show _=_
    rw[←HST.out,zKl m _ l k x hx,List.take_add_one,hx]
    simp
   obtain⟨_,_,hs2,_,hr2⟩:=HV.out
   cases hs2
   obtain⟨b,off,xv,hb,hbl,h0,h1,h2,hxl⟩:=hr2 k x hx
   subst hb
   have HXL:Hid (LArg W xv x.cla):=hxl
   obtain⟨a5,c5,rfl,_,_⟩:=hxl
   have g0:=(HBW.out.cell (p:=⟨b,off+k * 3,none⟩) hbl).trans h0
   have g1:=(HBW.out.cell (p:=⟨b,off+k * 3+1,none⟩) hbl).trans h1
   have g2:=(HBW.out.cell (p:=⟨b,off+k * 3+2,none⟩) hbl).trans h2
   have gl:=Nat.lt_of_lt_of_le hbl HBW.out.size
   obtain⟨lC,q0,q1,q2,q3⟩:=HQ.out _ HBW.out
   have HCN:Hid (CRel W (cells++[.slice a5 x.cla.length c5]) (given++(l.take (k+1)).map (·.cla))):=by
    show CRel _ _ _
    rw[List.take_add_one,hx]
    simp only[Option.toList_some,List.map_append,List.map_cons,List.map_nil]
    rw[←List.append_assoc]
    exact HCR.out.snoc HXL.out
   clear hr2 hx h0 h1 h2 hbl HST
   obtain⟨A,hA⟩:∃A,(given++(l.take k).map (·.cla))=A:=⟨_,rfl⟩
   have HA:Hid ((∀d∈A,claE m.vars d=0)):=fun d hd=>by
    rw[←hA] at hd
    rcases List.mem_append.1 hd with h | h
    ·exact HG.out d h
    ·obtain⟨s,hs,rfl⟩:=List.mem_map.1 h
     exact HL.out s (List.mem_of_mem_take hs)
   rw[hA] at HCR HSD
   clear hA
   go_upto_region 6 with (fail)
   have HB4:Hid (Below wr.heap.size wr (wr.alloc (.cells #[.int .i64 x.kind,.int .i64 x.con,.slice a5 x.cla.length c5] 39))):=zAA _ _
   have HN4:Hid ((wr.alloc (.cells #[.int .i64 x.kind,.int .i64 x.con,.slice a5 x.cla.length c5] 39)).heap[wr.heap.size]? = some (.cells #[.int .i64 x.kind,.int .i64 x.con,.slice a5 x.cla.length c5] 39)):=heap_alloc_new _ _
   obtain⟨W4,hW4⟩:∃W4,wr.alloc (.cells #[.int .i64 x.kind,.int .i64 x.con,.slice a5 x.cla.length c5] 39)=W4:=⟨_,rfl⟩
   rw[hW4] at HB4 HN4 ⊢
   clear hW4 g0 g1 g2 gl lC q0 q1 q2 q3
   have HBW4:Hid (Below W.heap.size W W4):=HBW.out.trans (HB4.out.mono HBW.out.size)
   have HOW4:Hid (W4.ownsRow W.heap.size 28 1 (.slice an cells.length cn) cells.length cells):=zAD HOW.out HB4.out
   obtain⟨S,hS⟩:∃S,wr.heap.size=S:=⟨_,rfl⟩
   rw[hS] at HN4 ⊢
   have HS4:Hid (S<W4.heap.size):=(Array.getElem?_eq_some_iff.1 HN4.out).1
   clear hS HB4
   have HQ4:Hid (∀Y,Below W4.heap.size W4 Y→S<Y.heap.size∧Y.cell? ⟨S,0,none⟩=some (.int .i64 x.kind)∧Y.cell? ⟨S,1,none⟩=some (.int .i64 x.con)∧Y.cell? ⟨S,2,none⟩=some (.slice a5 x.cla.length c5)):=fun Y hY=>by
    have h:=(hY.block _ HS4.out).trans HN4.out
    exact⟨(Array.getElem?_eq_some_iff.1 h).1,blk9 h 0 _ rfl,blk9 h 1 _ rfl,blk9 h 2 _ rfl⟩
   obtain⟨lC,q0,q1,q2,q3⟩:=HQ.out _ HBW4.out
   obtain⟨lS,s0,s1,s2⟩:=HQ4.out _ (Below.refl _ _)
   obtain⟨G,hG⟩:∃G,zCp m (A.map (zAF m.vars)) x=G:=⟨_,rfl⟩
   have HGR:Hid (zCp m (A.map (zAF m.vars)) x=G):=hG
   rw[hG] at HSD
   clear hG
   go_cut [10] (fun bv wx=>Hid (bv=.bool G∧Below W4.heap.size W4 wx))
   case first =>
    by_cases hk1:x.kind=1
    ·obtain⟨hc0,hc1⟩:=HXK.out hk1
     obtain⟨j,hj⟩:∃j:Nat,x.con=(j:Int):=⟨x.con.toNat,by omega⟩
     have hjl:j<m.cons.length:=by omega
     obtain⟨kk,hkk⟩:∃kk,m.cons[j]? = some kk:=⟨m.cons[j],by simp[hjl]⟩
     have HKK:Hid (m.cons[j]? = some kk):=hkk
     have HRP:Hid (zBX m.vars (zAR m.vars kk) (zAF m.vars x.cla)=G):=by
      show _=_
      rw[←HGR.out]
      unfold zCp
      rw[if_pos hk1,hj,Int.toNat_natCast,List.getD_eq_getElem?_getD,hkk];rfl
     have t1:(x.kind==1)=true:=by simpa using hk1
     have t2:(x.kind==2)=false:=by rw[hk1];rfl
     rw[hj] at s1
     clear hk1 hc0 hc1 hj hkk
     go_wp2_with fail
     refine (zI8 m HM0.out j kk HKK.out x.cla _ _ _ W4 (MArg.below HBW4.out HMA.out) (LArg.below HBW4.out HXL.out)).mono ?_
     rintro e w5 ⟨rfl,hb5⟩
     rw[HRP.out]
     have HB5:Hid (Below W4.heap.size W4 w5):=hb5
     obtain⟨lS5,r0,r1,r2⟩:=HQ4.out _ hb5
     clear hb5 s0 s1 s2
     cases G
     ·go_wp2_with fail
      go_meet
      exact⟨rfl,HB5.out⟩
     ·go_wp2_with fail
      go_meet
      exact⟨rfl,HB5.out⟩
    ·have t1:(x.kind==1)=false:=by simpa using hk1
     by_cases hk2:x.kind=2
     ·have t2:(x.kind==2)=true:=by simpa using hk2
      by_cases hc:x.con=0
      ·have t3:(x.con==0)=true:=by simpa using hc
       have HRP:Hid (zDF m.vars (A.map (zAF m.vars)) (zAF m.vars x.cla)=G):=by
        show _=_
        rw[←HGR.out]
        unfold zCp
        rw[if_neg hk1,if_pos ⟨hk2,hc⟩]
       have HA40:Hid (∀d∈A,d.length≤40):=fun d hd=>by
        have h:=HA.out d hd
        unfold claE at h
        by_cases h40:40<d.length
        ·rw[if_pos h40] at h;cases h
        ·omega
       have HAV:Hid (∀d∈A,∀y∈d,0≤y.var∧y.var<(m.vars.length:Int)):=fun d hd=>zMY m d (HA.out d hd)
       clear hk1 hk2 hc
       go_wp2_with fail
       refine (zIG m HM0.out A HA40.out HAV.out x.cla _ _ _ _ W4 H6.out HRW.out (MArg.below HBW4.out HMA.out) (HCR.out.arg HOW4.out HBW4.out) (LArg.below HBW4.out HXL.out)).mono ?_
       rintro e w5 ⟨T,rfl,hT,hb5⟩
       have HTG:Hid (zAG T=G):=by
        show _=_
        rw[←HRP.out]
        exact zI6 m.vars (zBt m HM0.out) (zAo m HM0.out).1 A HAV.out x.cla T hT
       rw[HTG.out]
       have HB5:Hid (Below W4.heap.size W4 w5):=hb5
       clear hb5 hT
       cases G
       ·go_wp2_with fail
        go_meet
        exact⟨rfl,HB5.out⟩
       ·go_wp2_with fail
        go_meet
        exact⟨rfl,HB5.out⟩
      ·have t3:(x.con==0)=false:=by simpa using hc
       have HRP:Hid (G=false):=by
        show _=_
        rw[←HGR.out]
        unfold zCp
        rw[if_neg hk1,if_neg (fun h=>hc h.2)]
       clear hk1 hk2 hc
       go_wp2_with fail
       go_meet
       exact⟨by rw[HRP.out],Below.refl _ _⟩
     ·have t2:(x.kind==2)=false:=by simpa using hk2
      have HRP:Hid (G=false):=by
       show _=_
       rw[←HGR.out]
       unfold zCp
       rw[if_neg hk1,if_neg (fun h=>hk2 h.1)]
      clear hk1 hk2
      go_wp2_with fail
      go_meet
      exact⟨by rw[HRP.out],Below.refl _ _⟩
   case rest =>
    obtain⟨rfl,hbc⟩:=hcut.out
    have HBC:Hid (Below W.heap.size W wc):=HBW4.out.trans (hbc.mono HBW4.out.size)
    have HOC:Hid (wc.ownsRow W.heap.size 28 1 (.slice an cells.length cn) cells.length cells):=zAD HOW4.out hbc
    obtain⟨lS5,r0,r1,r2⟩:=HQ4.out _ hbc
    clear hcut hbc s0 s1 s2 lS q0 q1 q2 q3 lC
    cases G
    ·have HE:Hid (R=false):=by show _=_;rw[←HSD.out];rfl
     go_wp2
     go_ret
     exact⟨by rw[HE.out];rfl,HTO.out _ HBC.out⟩
    ·have hout:=HOC.out
     have hsz:=HBC.out.size
     have HNX:Hid (zBb m ((given++(l.take (k+1)).map (·.cla)).map (zAF m.vars)) (l.drop (k+1))=R):=by show _=_;rw[←HSD.out,Bool.true_and]
     go_wp2_with (at_builtin;refine zEe rfl _ _ rfl W.heap.size _ cells.length cells rfl (hout.alloc _) wc.heap.size (.slice a5 x.cla.length c5) rfl rfl ?c1 ?c2 ?c3 ?_)
     case c1=>exact World.cell?_alloc_at _ _ _ 0 (by simp)
     case c2=>omega
     case c3=>simp;omega
     intro v6 w6 hown6 hgrow
     have HO6:Hid (w6.ownsRow W.heap.size 28 1 v6 (cells++[Value.slice a5 x.cla.length c5]).length (cells++[.slice a5 x.cla.length c5])):=by
      show World.ownsRow _ _ _ _ _ _ _
      rw[List.length_append];exact hown6
     have HB6:Hid (Below W.heap.size W w6):=(HBC.out.alloc HBC.out.size _).grown hgrow (by simp;omega) (fun g h=>(hout.lt g h).1)
     clear hown6 hgrow hout
     go_wp2
     go_roundw
     case rel=>exact⟨k+1,_,by omega,by go_num,HO6.out,HCN,HNX,HB6.out⟩
     case measure=>simp[intOf];omega
  ·have HE:Hid (R=true):=by
    show _=_
    rw[←HST.out,List.drop_of_length_le (by omega)];rfl
   go_wp2
   go_ret
   exact⟨by rw[HE.out];rfl,HTO.out _ HBW.out⟩
def zII (N bm bp ba:Nat) (m:Mod) (vs cs pv:Value) (ahead:List Nat) (w:World):Prop :=
 (N≤ba∧N≤w.heap.size) ∧
 Old N w (fun u=>MArg u vs cs m∧zFS u pv (m.cons.map (zAR m.vars))∧u.cell? ⟨bm,0,none⟩=some vs∧u.cell? ⟨bp,0,none⟩=some pv∧TabT u) ∧
 (∀z∈ahead,z<2 ^ 36) ∧
 ∃av,w.ownsRow N 139 1 (.slice (some ⟨ba,0,none⟩) 1 1) 1 [av]∧w.ownsRow N 136 1 av ahead.length (u64s ahead)∧av.ownBlock≠some ba
section
variable {N bm bp ba:Nat} {m:Mod} {vs cs pv:Value} {ahead:List Nat} {w w':World}
theorem zII.below (h:zII N bm bp ba m vs cs pv ahead w) (hb:Below w.heap.size w w'):zII N bm bp ba m vs cs pv ahead w':=by
 obtain⟨⟨h1,h2⟩,h3,h4,av,h5,h6,h7⟩:=h
 exact⟨⟨h1,Nat.le_trans h2 hb.size⟩,h3.below (hb.mono h2),h4,av,zAD h5 hb,zAD h6 hb,h7⟩
theorem zII.old (h:zII N bm bp ba m vs cs pv ahead w):MArg w vs cs m∧zFS w pv (m.cons.map (zAR m.vars))∧w.cell? ⟨bm,0,none⟩=some vs∧w.cell? ⟨bp,0,none⟩=some pv∧TabT w∧bm<w.heap.size∧bp<w.heap.size:=by
 obtain⟨_,⟨w0,g0,⟨g1,g2,g3,g4,g5⟩,gb⟩,_⟩:=h
 have l1:=World.block_lt_of_cell? w0 _ g3
 have l2:=World.block_lt_of_cell? w0 _ g4
 have hs:=gb.size
 simp only at l1 l2
 exact⟨MArg.below gb g1,zFS.below gb g2,(gb.cell (p:=⟨bm,0,none⟩) l1).trans g3,(gb.cell (p:=⟨bp,0,none⟩) l2).trans g4,g5.below gb,by omega,by omega⟩
theorem zII.put {z:Nat} {v3 av:Value} {w2:World} (h:zII N bm bp ba m vs cs pv ahead w) (hz:z<2 ^ 36) (ho:w.ownsRow N 139 1 (.slice (some ⟨ba,0,none⟩) 1 1) 1 [av]) (hr:w.ownsRow N 136 1 av ahead.length (u64s ahead)) (hne:av.ownBlock≠some ba)
 (hw:w2.ownsRow N 136 1 v3 (ahead++[z]).length (u64s (ahead++[z]))) (hg:w.grownBy w2 av.ownBlock) :
 zII N bm bp ba m vs cs pv (ahead++[z]) (w2.setCell ⟨ba,0,none⟩ v3)∧Below N w (w2.setCell ⟨ba,0,none⟩ v3):=by
 obtain⟨⟨h1,h2⟩,h3,h4,_⟩:=h
 have hb1:Below N w w2:=(Below.refl _ _).grown hg h2 (fun k hk=>(hr.lt k hk).1)
 have hb:Below N w (w2.setCell ⟨ba,0,none⟩ v3):=hb1.setCell h1 _
 have hba:ba<w.heap.size:=(ho.lt ba rfl).2
 have h6:w2.ownsRow N 139 1 (.slice (some ⟨ba,0,none⟩) 1 1) 1 [av]:=ho.kept hg (Or.inr fun he=>hne he.symm)
 have hvb:v3.ownBlock≠some ba:=by
  intro he
  rcases hw.2 with ⟨hq,_⟩ | ⟨g,cap,cur,hq,_,hh,_⟩
  ·rw[hq] at he;cases he
  ·rw[hq] at he
   cases he
   rcases h6.2 with ⟨hq2,_⟩ | ⟨g2,cap2,cur2,hq2,_,hh2,_⟩
   ·cases hq2
   ·cases hq2
    rw[hh] at hh2
    injection hh2 with h9
    injection h9 with _ h8
    exact absurd h8 (by decide)
 refine⟨⟨⟨h1,Nat.le_trans h2 hb.size⟩,h3.below hb,fun y hy=>?_,v3,(h6.stored 0 v3).1,zEi hw fun g hgg=>?_,hvb⟩,hb⟩
 ·rcases List.mem_append.1 hy with h | h
  ·exact h4 y h
  ·rw[List.mem_singleton.1 h];exact hz
 ·exact Below.heap_setCell _ _ _ _ (fun h=>hvb (by rw[hgg];exact congrArg some h))
end
def zEs (B n:Nat) (cells:List Value) (l:List (List Nat)) (k:Nat) (w:World):Prop :=
 w.ownsRow B 139 1 (.slice (some ⟨B,0,none⟩) n n) n cells∧∀j r,j<k→l[j]? = some r→∃x,cells[j]? = some x∧w.ownsRow (B+1) 136 1 x r.length (u64s r)
theorem zEs.below {B n k:Nat} {cells:List Value} {l:List (List Nat)} {w w':World} (h:zEs B n cells l k w) (hb:Below w.heap.size w w'):zEs B n cells l k w':=by
 refine⟨zAD h.1 hb,fun j r hj hr=>?_⟩
 obtain⟨x,h1,h2⟩:=h.2 j r hj hr
 exact⟨x,h1,zAD h2 hb⟩
theorem zEs.put {B n k:Nat} {cells:List Value} {l:List (List Nat)} {w:World} {x:Value} {r:List Nat} (h:zEs B n cells l k w) (hk:k<n) (hr:l[k]? = some r) (hx:w.ownsRow (B+1) 136 1 x r.length (u64s r)):zEs B n (cells.set k x) l (k+1) (w.setCell ⟨B,k,none⟩ x):=by
 have hlen:cells.length=n:=by have:=h.1.1;omega
 have keep:∀{y:Value} {q:List Nat},w.ownsRow (B+1) 136 1 y q.length (u64s q)→(w.setCell ⟨B,k,none⟩ x).ownsRow (B+1) 136 1 y q.length (u64s q):=fun hy =>
  zEi hy fun g hg=>Below.heap_setCell _ _ _ _ (fun he=>by have:=(hy.lt g hg).1;simp only at he;omega)
 refine⟨(h.1.stored k x).1,fun j q hj hq=>?_⟩
 by_cases hjk:j=k
 ·subst hjk
  rw[hr] at hq
  cases hq
  exact⟨x,by rw[List.getElem?_set_self (by omega)],keep hx⟩
 ·obtain⟨y,h1,h2⟩:=h.2 j q (by omega) hq
  exact⟨y,by rw[List.getElem?_set_ne (fun h=>hjk h.symm)];exact h1,keep h2⟩
theorem zEs.arg {B n:Nat} {cells:List Value} {l:List (List Nat)} {w:World} (h:zEs B n cells l n w) (hl:l.length=n) (hlt:∀r∈l,∀z∈r,z<2 ^ 36) (hn:n≤1000):zFS w (.slice (some ⟨B,0,none⟩) n n) l:=by
 refine⟨_,n,by rw[hl],⟨by omega,by unfold maxLen;omega⟩,fun i r hr=>?_⟩
 have hi:i<n:=by rw[←hl];exact (List.getElem?_eq_some_iff.1 hr).1
 obtain⟨x,h1,h2⟩:=h.2 i r hi hr
 exact⟨B,0,x,rfl,(h.1.lt B rfl).2,by rw[Nat.zero_add,h.1.cellAt i (by omega)];exact h1,zEE h2 (hlt r (List.mem_of_getElem? hr))⟩
theorem zKm (m:Mod) (hm:zAP m=0):zA7 m.vars.length (zAC m.vars)=false:=by
 refine zEz _ _ fun v hv=>⟨0,by omega,?_⟩
 have h1:=(zCx m hm).2 v hv
 have h6:=(zBt m hm).2 v
 unfold zAC ofP
 rw[zAg m.vars (zBt m hm)]
 simp only[Bool.and_eq_true,decide_eq_true_eq]
 have e:(6 * v+0) / 6=v:=by omega
 rw[e]
 refine⟨hv,?_,trivial⟩
 unfold zAu
 omega
theorem zLz (p:Nat):zAJ p 0=p:=by
 apply Nat.eq_of_testBit_eq
 intro i
 rw[zAW,Nat.zero_testBit];simp
theorem zFp (m:Mod) (hm:zAP m=0) (pts:List Nat) (h:zBX m.vars pts 0=true):pts=[]:=by
 unfold zBX at h
 rw[zLz,zKm m hm,Bool.false_or,Bool.not_eq_true',List.any_eq_false] at h
 cases pts with
 | nil=>rfl
 | cons q r =>
   exfalso
   exact h q (List.mem_cons_self ..) (by unfold zCR;simp)
theorem zL0 (l:Nat):zBI [] l=0:=by unfold zBI zBc;simp
theorem zIJ (m:Mod) (hm:zAP m=0) (pts:List Nat) (any:Cla) (gone:Nat) (hg:SubP gone (zAC m.vars)) (ha:any.length≤1) (hr:∀l∈any,litE m.vars l=0):claE m.vars (whyP m.vars pts any gone)=0:=by
 unfold claE
 have hl:(whyP m.vars pts any gone).length≤37:=by
  unfold whyP
  rw[List.length_append]
  have:=zD9 m.vars (zBU (fun g=>zBX m.vars pts (zAF m.vars any ||| g)) (gone+1) gone gone)
  omega
 rw[if_neg (by omega)]
 refine zFO _ fun e he=>?_
 obtain⟨x,hx,rfl⟩:=List.mem_map.1 he
 unfold whyP at hx
 rcases List.mem_append.1 hx with hx | hx
 ·exact hr x hx
 ·exact zGE m.vars (zBt m hm) (fun v hv=>zDj m hm v hv) _ (fun i hi=>hg i (zFN _ _ _ _ i hi)) x hx
theorem zL1 (vs:List MVar):zBP vs 0=[]:=by unfold zBP;rw[zGB];rfl
theorem zHB (m:Mod) (hm:zAP m=0) (cs:List Nat) (h:Nat):∀x∈zAf m.vars cs (ptsM m) h,claE m.vars x.1.cla=0∧(x.2=0→x.1.cla=[]∧[]∈ptsM m):=by
 intro x hx
 have hv:=zBt m hm
 obtain⟨k,c,hc,_,_,hx2,hsay⟩:=zBF m hm cs h x hx
 have hpm:zAR m.vars c∈ptsM m:=List.mem_map.2 ⟨c,List.mem_of_getElem? hc,rfl⟩
 obtain⟨t,ht,hx⟩:=List.mem_flatMap.1 hx
 obtain⟨⟨pts,hp,ha⟩,hsub,hne,hdif⟩:=zJt m.vars hv cs (ptsM m) h t ht
 have hgd:(ptsM m).getD t.1 []=pts:=by rw[List.getD_eq_getElem?_getD,hp];rfl
 have hgw:SubP (zAJ (zAC m.vars) t.2.1) (zAC m.vars):=fun i hi=>((zAh _ _ _).1 hi).1
 unfold zAi at hx
 rw[hgd] at hx
 by_cases h0:t.2.2=0
 ·rw[if_pos h0] at hx
  have hxe:=List.mem_singleton.1 hx
  refine⟨by rw[hxe];exact zIJ m hm pts [] _ hgw (by simp) (fun l hl=>by cases hl),fun hz=>⟨?_,?_⟩⟩
  ·rw[hxe] at hz ⊢
   have hz2:zAF m.vars (whyP m.vars pts [] (zAJ (zAC m.vars) t.2.1))=0:=hz
   rw[(zE2 m.vars hv pts [] _ hgw).1,zFh m.vars hv,Nat.zero_or] at hz2
   show whyP m.vars pts [] (zAJ (zAC m.vars) t.2.1)=[]
   unfold whyP
   unfold zID at hz2
   rw[hz2,zL1];rfl
  ·rw[hz] at hsay
   rw[zFp m hm _ hsay] at hpm
   exact hpm
 ·rw[if_neg h0] at hx
  obtain⟨lt,hlt,hxe⟩:=List.mem_map.1 hx
  have hlr:=zGE m.vars hv (fun v hv=>zDj m hm v hv) (zAJ t.2.1 t.2.2) (fun i hi=>hsub i ((zAh _ _ _).1 hi).1) lt hlt
  have hl4:litE m.vars ⟨lt.var,4,lt.n⟩=0:=by
   unfold litE at hlr ⊢
   split at hlr
   ·cases hlr
   ·rename_i h1
    rw[if_neg h1,if_neg (by simp only;omega)]
    split at hlr
    ·cases hlr
    ·split at hlr
     ·cases hlr
     ·rename_i h3
      rw[if_neg h3]
  refine⟨by rw[←hxe];exact zIJ m hm pts _ _ hgw (by simp) (fun l hl=>by rw[List.mem_singleton.1 hl];exact hl4),fun hz=>?_⟩
  exfalso
  rw[hz] at hsay
  have hnone:=zFp m hm _ hsay
  rw[hnone] at hpm
  have h3:x.2=zAF m.vars (whyP m.vars pts [⟨lt.var,4,lt.n⟩] (zAJ (zAC m.vars) t.2.1)):=by rw[←hxe];rfl
  obtain⟨k',c',hc',hk1,hk2,_,_⟩:=zBF m hm cs h x (List.mem_flatMap.2 ⟨t,ht,by unfold zAi;rw[hgd,if_neg h0];exact hx⟩)
  have hcon:x.1.con=(t.1:Int):=by rw[←hxe];rfl
  obtain⟨k2,c2,hc2,_,hk3,_,hs2⟩:=zBF m hm cs h x (List.mem_flatMap.2 ⟨t,ht,by unfold zAi;rw[hgd,if_neg h0];exact hx⟩)
  have hkk:k2=t.1:=by omega
  subst hkk
  have hpc:pts=zAR m.vars c2:=by
   unfold ptsM at hp
   rw[List.getElem?_map,hc2] at hp
   exact (Option.some.inj hp).symm
  rw[hz] at hs2
  rw[hpc,zFp m hm _ hs2,zL0] at ha
  exact h0 ha
end Go.Proofs.YtndcpnlaadikoaaGreatDoor
