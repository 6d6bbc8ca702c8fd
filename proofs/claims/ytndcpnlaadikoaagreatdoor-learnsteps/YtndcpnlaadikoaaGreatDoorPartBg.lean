/- What the proof leans on, part 33. -/
import Derived.Test.YtndcpnlaadikoaaGreatDoorPartBf
import Derived.Test.YtndcpnlaadikoaaGreatDoorPartAk
import Derived.Test.YtndcpnlaadikoaaGreatDoorPartBc
namespace Go.Proofs.YtndcpnlaadikoaaGreatDoor
open Go.RowKit
theorem zMt (vars vals:List Int) (k:Nat) (x:Int) (h:vars[k]? = some x):ownV (vars.take (k+1)) vals=ownV (vars.take k) vals++[zAX vals x]:=by
 unfold ownV
 rw[List.take_add_one,h,List.map_append];rfl
theorem zLl:∀(r:List Int) (q:Int),q≤r.foldl max q∧∀z∈r,z≤r.foldl max q
 | [],q=>⟨Int.le_refl _,fun z hz=>by cases hz⟩
 | x :: r,q=>by
   rw[List.foldl_cons]
   obtain⟨h1,h2⟩:=zLl r (max q x)
   refine⟨by omega,fun z hz=>?_⟩
   rcases List.mem_cons.1 hz with rfl | hz
   ·omega
   ·exact h2 z hz
theorem zJi:∀(r:List Int) (q:Int),r.foldl max q=q∨r.foldl max q∈r
 | [],q=>Or.inl rfl
 | x :: r,q=>by
   rw[List.foldl_cons]
   rcases zJi r (max q x) with h | h
   ·rw[h]
    by_cases hx:q≤x
    ·right;rw[show max q x=x by omega];exact List.mem_cons_self ..
    ·left;omega
   ·exact Or.inr (List.mem_cons_of_mem _ h)
theorem zNm (L:List Int) (hL:L≠[]) (p:Int):(p==maxV L)=(L.all (fun z=>decide (z≤p))&&L.any (fun z=>z==p)):=by
 match L,hL with
 | q :: r,_ =>
   obtain⟨g1,g2⟩:=zLl r q
   have g3:=zJi r q
   show (p==r.foldl max q)=_
   cases hq:(p==r.foldl max q) with
   | true =>
     have e:p=r.foldl max q:=by simpa using hq
     symm
     rw[Bool.and_eq_true,List.all_eq_true,List.any_eq_true]
     refine⟨fun z hz=>decide_eq_true ?_,p,?_,by simp⟩
     ·rw[e]
      rcases List.mem_cons.1 hz with rfl | hz
      ·exact g1
      ·exact g2 z hz
     ·rw[e]
      rcases g3 with h | h
      ·rw[h];exact List.mem_cons_self ..
      ·exact List.mem_cons_of_mem _ h
   | false =>
     have e:p≠r.foldl max q:=by simpa using hq
     symm
     rw[Bool.and_eq_false_iff]
     cases ha:(q :: r).all (fun z=>decide (z≤p)) with
     | false=>exact Or.inl rfl
     | true =>
       right
       rw[List.any_eq_false]
       intro z hz hzp
       have hz2:z=p:=by simpa using hzp
       rw[List.all_eq_true] at ha
       have hm:r.foldl max q≤p:=by
        rcases g3 with h | h
        ·rw[h];simpa using ha q (List.mem_cons_self ..)
        ·simpa using ha _ (List.mem_cons_of_mem _ h)
       have hp:p≤r.foldl max q:=by
        rw[←hz2]
        rcases List.mem_cons.1 hz with rfl | hz
        ·exact g1
        ·exact g2 z hz
       omega
set_option maxHeartbeats 12800000 in
set_option maxRecDepth 100000 in
theorem zGT (c:MCon) (vals:List Int) (vv vc vr vl v:Value) (w:World) (hk:KArg w vv vc vr vl c) (hv:IArg w v vals) (hc:conE vals.length c=0) (hb:∀x∈vals,-50≤x∧x≤50) :
 Calls Tryz.prog 57 #[conV vv vc vr vl c,v] w fun e w'=>e=.returned (.bool (zAV c vals))∧Below w.heap.size w w':=by
 obtain⟨⟨hk1,hk10⟩,hmany,hform,hvars,hconsts,hlits⟩:=zDB _ _ hc
 obtain⟨hn4,hl4,hc8,hr20⟩:=zEy c hmany
 have HVI:Hid (∀x∈c.vars,0≤x∧x<(vals.length:Int)):=(zFF c _ hvars).1
 have HLI:Hid (∀l∈c.lits,0≤l.var∧l.var<(vals.length:Int)):=(zFF c _ hvars).2
 have HCI:Hid (∀x∈c.consts,-1000≤x∧x≤1000):=zHW c hconsts
 have HOB:Hid (∀x∈ownV c.vars vals,-50≤x∧x≤50):=zF7 c.vars vals hb
 have HKA:Hid (∀w':World,Below w.heap.size w w'→KArg w' vv vc vr vl c):=fun w' h=>KArg.below h hk
 have HVA:Hid (∀w':World,Below w.heap.size w w'→IArg w' v vals):=fun w' h=>IArg.below h hv
 have HFO:Hid (zB9 c=true):=hform
 obtain⟨⟨a1,c1,rfl,hm1,_⟩,⟨a2,c2,rfl,hm2,_⟩,⟨a3,c3,rfl,hm3,_⟩,⟨a4,c4,rfl,hm4,_⟩⟩:=hk
 obtain⟨a5,c5,rfl,hm5,_⟩:=hv
 unfold maxLen at hm1 hm2 hm3 hm4 hm5
 obtain⟨hm11,hm1⟩:=hm1
 obtain⟨hm21,hm2⟩:=hm2
 obtain⟨hm31,hm3⟩:=hm3
 obtain⟨hm41,hm4⟩:=hm4
 obtain⟨hm51,hm5⟩:=hm5
 obtain⟨R,hR⟩:∃R,zAV c vals=R:=⟨_,rfl⟩
 rw[hR]
 have HR:Hid (zAV c vals=R):=hR
 obtain⟨i0,hi,hz0,hz1,hz2⟩:=info_parts Tryz.infoInt
 unfold conV
 clear hR hc hb hmany hform hvars hconsts hlits
 go_enter Tryz.func57,Tryz.ntmps57
 go_wp2_with fail
 have HB0:Hid (Below w.heap.size w (w.alloc (.cells #[.int .i64 c.kind,.slice a1 c.vars.length c1,.slice a2 c.consts.length c2,.int .i64 c.n,.slice a3 c.rows.length c3,.slice a4 c.lits.length c4] 69))):=zAA _ _
 have HN0:Hid ((w.alloc (.cells #[.int .i64 c.kind,.slice a1 c.vars.length c1,.slice a2 c.consts.length c2,.int .i64 c.n,.slice a3 c.rows.length c3,.slice a4 c.lits.length c4] 69)).heap[w.heap.size]? = some (.cells #[.int .i64 c.kind,.slice a1 c.vars.length c1,.slice a2 c.consts.length c2,.int .i64 c.n,.slice a3 c.rows.length c3,.slice a4 c.lits.length c4] 69)):=heap_alloc_new _ _
 obtain⟨W,hW⟩:∃W,w.alloc (.cells #[.int .i64 c.kind,.slice a1 c.vars.length c1,.slice a2 c.consts.length c2,.int .i64 c.n,.slice a3 c.rows.length c3,.slice a4 c.lits.length c4] 69)=W:=⟨_,rfl⟩
 rw[hW] at HB0 HN0 ⊢
 clear hW
 have HC:Hid (∀Y,Below W.heap.size W Y→w.heap.size<Y.heap.size∧Y.cell? ⟨w.heap.size,0,none⟩=some (.int .i64 c.kind)∧Y.cell? ⟨w.heap.size,1,none⟩=some (.slice a1 c.vars.length c1)∧Y.cell? ⟨w.heap.size,2,none⟩=some (.slice a2 c.consts.length c2)∧Y.cell? ⟨w.heap.size,3,none⟩=some (.int .i64 c.n)∧Y.cell? ⟨w.heap.size,4,none⟩=some (.slice a3 c.rows.length c3)∧Y.cell? ⟨w.heap.size,5,none⟩=some (.slice a4 c.lits.length c4)∧Below w.heap.size w Y):=fun Y hY=>by
  have hN:=(hY.block _ (Array.getElem?_eq_some_iff.1 HN0.out).1).trans HN0.out
  exact⟨(Array.getElem?_eq_some_iff.1 hN).1,blk9 hN 0 _ rfl,blk9 hN 1 _ rfl,blk9 hN 2 _ rfl,blk9 hN 3 _ rfl,blk9 hN 4 _ rfl,blk9 hN 5 _ rfl,HB0.out.trans (hY.mono HB0.out.size)⟩
 go_loopw [5,6] (fun o i wr=>∃k:Nat,k≤c.vars.length∧i=.int .i64 k∧wr.ownsRow W.heap.size 3 1 o (ownV (c.vars.take k) vals).length ((ownV (c.vars.take k) vals).map (Value.int .i64))∧Below W.heap.size W wr) (fun _ i _=>c.vars.length - (intOf i).toNat)
 case atStart=>exact⟨0,by omega,rfl,World.ownsRow_nil _ _ _ _,Below.refl _ _⟩
 case round =>
  obtain⟨k,hk,rfl,hown,hbw⟩:=hrel
  obtain⟨acc,hacc⟩:∃acc,ownV (c.vars.take k) vals=acc:=⟨_,rfl⟩
  have HAC:Hid (ownV (c.vars.take k) vals=acc):=hacc
  have hal:acc.length≤4:=by rw[←hacc,zGm,List.length_take];omega
  rw[hacc] at hown
  have HOW:Hid (wr.ownsRow W.heap.size 3 1 u5 acc.length (acc.map (Value.int .i64))):=hown
  have HBW:Hid (Below W.heap.size W wr):=hbw
  obtain⟨ao,co,hof⟩:=zAE hown
  subst hof
  obtain⟨l0,q0,q1,q2,q3,q4,q5,hbn⟩:=HC.out _ hbw
  have HBN:Hid (Below w.heap.size w wr):=hbn
  clear hacc hbw hbn
  by_cases hlt:k<c.vars.length
  ·obtain⟨x,hx⟩:∃x,c.vars[k]? = some x:=⟨c.vars[k],by simp[hlt]⟩
   obtain⟨hx0,hx1⟩:=HVI.out x (List.mem_of_getElem? hx)
   obtain⟨y,rfl⟩:∃y:Nat,x=(y:Int):=⟨x.toNat,by omega⟩
   have hyl:y<vals.length:=by omega
   obtain⟨z,hz⟩:∃z,vals[y]? = some z:=⟨vals[y],by simp[hyl]⟩
   have HNX:Hid (ownV (c.vars.take (k+1)) vals=acc++[z]):=by show _=_;rw[zMt c.vars vals k _ hx,HAC.out,zCH vals y z hz]
   obtain⟨_,_,hs1,_,hr1⟩:=(HKA.out _ HBN.out).1
   cases hs1
   obtain⟨b1,o1,hb1,hbl1,e1⟩:=hr1 k _ hx
   subst hb1
   obtain⟨_,_,hs2,_,hr2⟩:=HVA.out _ HBN.out
   cases hs2
   obtain⟨b2,o2,hb2,hbl2,e2⟩:=hr2 y _ hz
   subst hb2
   clear hx hz hr1 hr2
   go_wp2_with (at_builtin;refine wpList_append_own _ rfl _ _ 42 rfl W.heap.size 3 i0 (.int .i64 0) 1 8 Tryz.underlying42 hi hz0 hz1 hz2 rfl (by decide) _ _ _ rfl (hown.alloc _) ⟨wr.heap.size,0,none⟩ 1 1 [.int .i64 z] rfl rfl ?c1 ?c2 ?c3 ?c4 ?c5 ?_)
   case c1=>exact zC0 wr z
   case c2=>intro u hu;rcases List.mem_singleton.1 hu with rfl;rfl
   case c3=>unfold maxLen;omega
   case c4=>omega
   case c5=>have:=HBW.out.size;simp;omega
   intro v3 w3 hown3 hgrow _
   have HO3:Hid (w3.ownsRow W.heap.size 3 1 v3 (ownV (c.vars.take (k+1)) vals).length ((ownV (c.vars.take (k+1)) vals).map (Value.int .i64))):=by
    show w3.ownsRow _ _ _ _ _ _
    rw[HNX.out,List.length_append,List.map_append];exact hown3
   have HB3:Hid (Below W.heap.size W w3):=(HBW.out.alloc HBW.out.size _).grown hgrow (by have:=HBW.out.size;simp;omega) (fun g h=>(hown.lt g h).1)
   clear hown3 hgrow hown
   go_wp2
   go_roundw
   case rel=>exact⟨k+1,by omega,by go_num,HO3.out,HB3.out⟩
   case measure=>simp[intOf];omega
  ·have HOWN:Hid (ownV c.vars vals=acc):=by show _=_;rw[←HAC.out,List.take_of_length_le (by omega)]
   have HX:Hid (IArg wr (.slice ao acc.length co) acc):=zCW HOW.out
   rw[HOWN.out] at HOB
   have HOL:Hid (acc.length=c.vars.length):=by show _=_;rw[←HOWN.out];exact zGm _ _
   obtain⟨_,_,hs6,⟨hm61,hm6⟩,hr6⟩:=HX.out
   cases hs6
   unfold maxLen at hm6
   have H6:Hid (∀(i:Nat) (z:Int),acc[i]? = some z→∃b off,ao=some ⟨b,off,none⟩∧b<wr.heap.size∧wr.cell? ⟨b,off+i,none⟩=some (.int .i64 z)):=hr6
   obtain⟨kd,hkd⟩:∃kd,c.kind=kd:=⟨_,rfl⟩
   have HKD:Hid (c.kind=kd):=hkd
   rw[hkd] at q0 hk1 hk10
   clear hkd hown HAC hr6
   have hcases:(kd=1∨kd=2∨kd=3)∨kd=4∨kd=5∨kd=6∨kd=7∨kd=8∨kd=9∨kd=10:=by omega
   clear hk1 hk10
   rcases hcases with hkd | rfl | rfl | rfl | rfl | rfl | rfl | rfl
   ·
    have HL:Hid (c.consts.length=acc.length):=by
     have h:=HFO.out
     unfold zB9 at h
     rw[HKD.out] at h
     rcases hkd with rfl | rfl | rfl
     ·simp at h;exact h.2.1.trans HOL.out.symm
     ·simp at h;exact h.2.1.trans HOL.out.symm
     ·simp at h;exact h.2.1.trans HOL.out.symm
    have HE:Hid (R=if kd=1 then decide (sumV c.consts acc≤c.n) else if kd=2 then sumV c.consts acc==c.n else sumV c.consts acc != c.n):=by
     show _=_
     rw[←HR.out,←HOWN.out];unfold zAV;rw[HKD.out]
     rcases hkd with rfl | rfl | rfl <;> rfl
    have HK3:Hid (kd=1∨kd=2∨kd=3):=hkd
    have g3:decide (kd≤3)=true:=decide_eq_true (by omega)
    obtain⟨_,_,hsc,_,hrc⟩:=(HKA.out _ HBN.out).2.1
    cases hsc
    have HCC:Hid (∀(i:Nat) (z:Int),c.consts[i]? = some z→∃b off,a2=some ⟨b,off,none⟩∧b<wr.heap.size∧wr.cell? ⟨b,off+i,none⟩=some (.int .i64 z)):=hrc
    obtain⟨wz,hwz⟩:∃wz:World,wz=wr:=⟨_,rfl⟩
    clear hkd hrc
    go_wp2_with fail
    rw[←hwz] at q0 q1 q2 q3 q4 q5 l0 HX H6 HBN HCC HBW HOW ⊢
    clear hwz
    go_loopw [7,8] (fun t i wr=>∃(p:Nat) (s:Int),p≤acc.length∧i=.int .i64 p∧t=.int .i64 s∧Hid (sumK c.consts acc p=s)∧(-50000 * (p:Int)≤s∧s≤50000 * (p:Int))∧∃n,wr=wz.drewN n) (fun _ i _=>acc.length - (intOf i).toNat)
    case atStart=>exact⟨0,0,by omega,rfl,rfl,rfl,by omega,0,rfl⟩
    case round =>
     obtain⟨p,t,hp,rfl,rfl,hs,⟨hb1,hb2⟩,nq,rfl⟩:=hrel
     by_cases hlt:p<acc.length
     ·have hlt':p<c.consts.length:=by rw[HL.out];exact hlt
      obtain⟨x,hx⟩:∃x,c.consts[p]? = some x:=⟨c.consts[p],by simp[hlt']⟩
      obtain⟨y,hy⟩:∃y,acc[p]? = some y:=⟨acc[p],by simp[hlt]⟩
      have HXX:Hid (sumK c.consts acc (p+1)=t+y * x):=by show _=_;rw[zHN c.consts acc p x y hx hy,hs.out,Int.mul_comm]
      obtain⟨b,off,rfl,hb,hc⟩:=HCC.out p x hx
      obtain⟨b',off',rfl,hb',hd⟩:=H6.out p y hy
      have hxb:=HCI.out x (List.mem_of_getElem? hx)
      have hyb:=HOB.out y (List.mem_of_getElem? hy)
      obtain⟨hp1,hp2⟩:=zDw x y hxb.1 hxb.2 hyb.1 hyb.2
      rw[Int.mul_comm] at hp1 hp2
      clear hx hy hxb hyb
      go_wp2
      go_quiet (fail)
      go_wp2
      go_roundw
      case rel=>exact⟨p+1,t+y * x,by omega,by go_num,by go_num,HXX,⟨by omega,by omega⟩,_,rfl⟩
      case measure=>simp[intOf];omega
     ·have HN:Hid (sumV c.consts acc=t):=by
       show _=_
       rw[←hs.out];unfold sumK sumV
       rw[List.take_of_length_le (by rw[List.length_zipWith];have:=HL.out;omega)]
      rw[HN.out] at HE
      rcases HK3.out with rfl | rfl | rfl
      ·have HE2:Hid (R=decide (t≤c.n)):=HE.out
       clear HE
       go_wp2
       go_ret
       exact⟨zAB HE2.out.symm,below_drewN HBN.out _⟩
      ·have HE2:Hid (R=(t==c.n)):=HE.out
       clear HE
       go_wp2
       go_ret
       exact⟨zAB HE2.out.symm,below_drewN HBN.out _⟩
      ·have HE2:Hid (R=(t != c.n)):=HE.out
       clear HE
       go_wp2
       go_ret
       exact⟨zAB HE2.out.symm,below_drewN HBN.out _⟩
   ·
    have HE:Hid (R=decide acc.Nodup):=by show _=_;rw[←HR.out,←HOWN.out];unfold zAV;rw[HKD.out];rfl
    obtain⟨wz,hwz⟩:∃wz:World,wz=wr:=⟨_,rfl⟩
    go_wp2_with fail
    rw[←hwz] at q0 q1 q2 q3 q4 q5 l0 HX H6 HBN HBW HOW ⊢
    clear hwz
    go_loopw [9] (fun i wr=>∃p:Nat,p≤acc.length∧i=.int .i64 p∧Hid ((acc.take p).Nodup)∧∃n,wr=wz.drewN n) (fun i _=>acc.length - (intOf i).toNat)
    case atStart=>exact⟨0,by omega,rfl,(by simp[Hid]),0,rfl⟩
    case round =>
     obtain⟨p,hp,rfl,hnd,nq,rfl⟩:=hrel
     by_cases hlt:p<acc.length
     ·obtain⟨y,hy⟩:∃y,acc[p]? = some y:=⟨acc[p],by simp[hlt]⟩
      have HY:Hid (acc[p]? = some y):=hy
      obtain⟨b',off',rfl,hb',hd⟩:=H6.out p y hy
      clear hy
      go_wp2_with fail
      go_loopw [10] (fun i wr=>∃q:Nat,q≤p∧i=.int .i64 q∧Hid (y∉acc.take q)∧∃n,wr=wz.drewN n) (fun i _=>p - (intOf i).toNat)
      case atStart=>exact⟨0,by omega,rfl,(by simp[Hid]),_,rfl⟩
      case round =>
       obtain⟨q,hq,rfl,hni,nq2,rfl⟩:=hrel
       by_cases hlq:q<p
       ·obtain⟨z,hz⟩:∃z,acc[q]? = some z:=⟨acc[q]'(by omega),by rw[List.getElem?_eq_getElem (by omega)]⟩
        have HZ:Hid (acc[q]? = some z):=hz
        obtain⟨b2,off2,hab,_,hd2⟩:=H6.out q z hz
        cases hab
        clear hz
        cases hyz:(y==z)
        ·have HN2:Hid (y∉acc.take (q+1)):=by
          intro hm
          rw[List.take_add_one,HZ.out] at hm
          rcases List.mem_append.1 hm with hm | hm
          ·exact hni.out hm
          ·have:y=z:=by simpa using hm
           simp[this] at hyz
         go_wp2
         go_quiet (fail)
         go_wp2
         go_roundw
         case rel=>exact⟨q+1,by omega,by go_num,HN2,_,rfl⟩
         case measure=>simp[intOf];omega
        ·have HF:Hid (R=false):=by
          show _=_
          rw[HE.out]
          refine decide_eq_false fun hn=>?_
          have e:y=z:=by simpa using hyz
          have h1:=(List.pairwise_iff_getElem.1 hn) q p (by omega) (by omega) hlq
          have h2:acc[q]'(by omega)=z:=by have:=HZ.out;rw[List.getElem?_eq_getElem (by omega)] at this;exact Option.some.inj this
          have h3:acc[p]'(by omega)=y:=by have:=HY.out;rw[List.getElem?_eq_getElem (by omega)] at this;exact Option.some.inj this
          rw[h2,h3] at h1
          exact h1 e.symm
         go_wp2
         go_quiet (fail)
         go_wp2
         go_ret
         exact⟨zAB HF.out.symm,below_drewN (below_drewN HBN.out _) _⟩
       ·have hqp:q=p:=by omega
        have HN2:Hid ((acc.take (p+1)).Nodup):=by
         show List.Nodup _
         rw[List.take_add_one,HY.out,List.nodup_append]
         refine⟨hnd.out,by simp,fun a ha b hb hab=>?_⟩
         have:b=y:=by simpa using hb
         rw[this] at hab
         rw[hab] at ha
         have:=hni.out
         rw[hqp] at this
         exact this ha
        clear hqp
        go_wp2
        go_roundw
        case rel=>exact⟨p+1,by omega,by go_num,HN2,_,rfl⟩
        case measure=>simp[intOf];omega
     ·have HF:Hid (R=true):=by
       show _=_
       rw[HE.out]
       have:=hnd.out
       rw[List.take_of_length_le (by omega)] at this
       exact decide_eq_true this
      go_wp2
      go_ret
      exact⟨zAB HF.out.symm,below_drewN HBN.out _⟩
   ·
    have HL:Hid (acc.length=2):=by
     have h:=HFO.out
     unfold zB9 at h
     rw[HKD.out] at h
     simp at h
     exact HOL.out.trans h.2.1
    obtain⟨p,q,rfl⟩:∃p q,acc=[p,q]:=by
     match acc,HL.out with
     | [p,q],_=>exact⟨p,q,rfl⟩
    obtain⟨b,off,rfl,hb,e0⟩:=H6.out 0 p rfl
    obtain⟨b',off',hab,hb',e1⟩:=H6.out 1 q rfl
    cases hab
    rw[Nat.add_zero] at e0
    have HE:Hid (R=(decide (0≤p)&&(decide (p<c.consts.length)&&(c.consts.getD p.toNat 0==q)))):=by show _=_;rw[←HR.out];unfold zAV;rw[HKD.out,HOWN.out];rfl
    obtain⟨_,_,hsc,_,hrc⟩:=(HKA.out _ HBN.out).2.1
    cases hsc
    have HCC:Hid (∀(i:Nat) (z:Int),c.consts[i]? = some z→∃b off,a2=some ⟨b,off,none⟩∧b<wr.heap.size∧wr.cell? ⟨b,off+i,none⟩=some (.int .i64 z)):=hrc
    obtain⟨wz,hwz⟩:∃wz:World,wz=wr:=⟨_,rfl⟩
    simp only[List.length_cons,List.length_nil,Nat.zero_add,Nat.reduceAdd] at *
    clear hrc
    go_wp2_with fail
    rw[←hwz] at q0 q1 q2 q3 q4 q5 l0 HBN HCC HBW e0 e1 hb ⊢
    clear hwz HX H6 HOW hb'
    go_loopw [11] (fun i wr=>∃k:Nat,k≤c.consts.length∧i=.int .i64 k∧Hid (∀j:Nat,j<k→p≠(j:Int))∧∃n,wr=wz.drewN n) (fun i _=>c.consts.length - (intOf i).toNat)
    case atStart=>exact⟨0,by omega,rfl,(fun j hj=>by omega),0,rfl⟩
    case round =>
     obtain⟨k,hk,rfl,hnj,nq,rfl⟩:=hrel
     by_cases hlt:k<c.consts.length
     ·obtain⟨x,hx⟩:∃x,c.consts[k]? = some x:=⟨c.consts[k],by simp[hlt]⟩
      have HXC:Hid (c.consts[k]? = some x):=hx
      obtain⟨b2,off2,rfl,hb2,hc2⟩:=HCC.out k x hx
      clear hx
      cases hpk:(p==(k:Int))
      ·have HN2:Hid (∀j:Nat,j<k+1→p≠(j:Int)):=fun j hj=>by
        by_cases hjk:j=k
        ·subst hjk;simpa using hpk
        ·exact hnj.out j (by omega)
       go_wp2
       go_roundw
       case rel=>exact⟨k+1,by omega,by go_num,HN2,_,rfl⟩
       case measure=>simp[intOf];omega
      ·have HF:Hid (R=(x==q)):=by
        show _=_
        have e:p=(k:Int):=by simpa using hpk
        rw[HE.out,e,decide_eq_true (by omega:(0:Int)≤(k:Int)),decide_eq_true (by omega:(k:Int)<(c.consts.length:Int)),Int.toNat_natCast,List.getD_eq_getElem?_getD,HXC.out];rfl
       go_wp2
       go_quiet (fail)
       go_wp2
       go_ret
       exact⟨zAB HF.out.symm,below_drewN (below_drewN HBN.out _) _⟩
     ·have HF:Hid (R=false):=by
       show _=_
       rw[HE.out]
       by_cases h0:0≤p
       ·have:¬p<(c.consts.length:Int):=fun h=>hnj.out p.toNat (by omega) (by omega)
        rw[decide_eq_false this];simp
       ·rw[decide_eq_false h0];rfl
      go_wp2
      go_ret
      exact⟨zAB HF.out.symm,below_drewN HBN.out _⟩
   ·
    have HE:Hid (R=c.rows.any fun r=>decide (r=acc)):=by show _=_;rw[←HR.out,←HOWN.out];unfold zAV;rw[HKD.out];rfl
    obtain⟨_,_,hsc,_,hrc⟩:=(HKA.out _ HBN.out).2.2.1
    cases hsc
    have HCC:Hid (∀(i:Nat) (r:List Int),c.rows[i]? = some r→∃b off x,a3=some ⟨b,off,none⟩∧b<wr.heap.size∧wr.cell? ⟨b,off+i,none⟩=some x∧IArg wr x r):=hrc
    obtain⟨wz,hwz⟩:∃wz:World,wz=wr:=⟨_,rfl⟩
    clear hrc
    go_wp2_with fail
    rw[←hwz] at q0 q1 q2 q3 q4 q5 l0 HX H6 HBN HCC HBW HOW ⊢
    clear hwz
    go_loopw [12] (fun i wr=>∃k:Nat,k≤c.rows.length∧i=.int .i64 k∧Hid ((c.rows.take k).any (fun r=>decide (r=acc))=false)∧∃n,wr=wz.drewN n) (fun i _=>c.rows.length - (intOf i).toNat)
    case atStart=>exact⟨0,by omega,rfl,rfl,0,rfl⟩
    case round =>
     obtain⟨k,hk,rfl,hall,nq,rfl⟩:=hrel
     by_cases hlt:k<c.rows.length
     ·obtain⟨r,hr⟩:∃r,c.rows[k]? = some r:=⟨c.rows[k],by simp[hlt]⟩
      have HRR:Hid (c.rows[k]? = some r):=hr
      obtain⟨b2,off2,xv,rfl,hb2,hc2,hix⟩:=HCC.out k r hr
      have HIX:Hid (IArg wz xv r):=hix
      obtain⟨a7,c7,rfl,_,_⟩:=hix
      clear hr
      go_wp2_with fail
      refine (zEo r acc _ _ (wz.drewN nq) (IArg.below (below_drewN (Below.refl _ _) _) HIX.out) (IArg.below (below_drewN (Below.refl _ _) _) HX.out)).mono ?_
      rintro e w6 ⟨rfl,n6,rfl⟩
      have HS:=zDU c.rows (fun r=>decide (r=acc)) k r HRR.out
      cases hq:decide (r=acc)
      ·have HN2:Hid ((c.rows.take (k+1)).any (fun r=>decide (r=acc))=false):=by show _=_;rw[HS,hall.out,hq];rfl
       clear HS hq
       go_wp2
       go_roundw
       case rel=>exact⟨k+1,by omega,by go_num,HN2,_,rfl⟩
       case measure=>simp[intOf];omega
      ·have HF:Hid (R=true):=by
        show _=_
        rw[HE.out];exact List.any_eq_true.2 ⟨r,List.mem_of_getElem? HRR.out,hq⟩
       clear HS hq
       go_wp2
       go_ret
       exact⟨zAB HF.out.symm,below_drewN HBN.out _⟩
     ·have HF:Hid (R=false):=by
       show _=_
       rw[HE.out,←hall.out,List.take_of_length_le (by omega)]
      go_wp2
      go_ret
      exact⟨zAB HF.out.symm,below_drewN HBN.out _⟩
   ·
    have HL:Hid (acc.length=3):=by
     have h:=HFO.out
     unfold zB9 at h
     rw[HKD.out] at h
     simp at h
     exact HOL.out.trans h.2.1
    obtain⟨p,q,r,rfl⟩:∃p q r,acc=[p,q,r]:=by
     match acc,HL.out with
     | [p,q,r],_=>exact⟨p,q,r,rfl⟩
    obtain⟨b,off,rfl,hb,e0⟩:=H6.out 0 p rfl
    obtain⟨b',off',hab,hb',e1⟩:=H6.out 1 q rfl
    cases hab
    obtain⟨b',off',hab,hb',e2⟩:=H6.out 2 r rfl
    cases hab
    rw[Nat.add_zero] at e0
    have HE:Hid (R=(p * q==r)):=by show _=_;rw[←HR.out];unfold zAV;rw[HKD.out,HOWN.out];rfl
    obtain⟨g1,g2⟩:=zDw p q (by have:=HOB.out p (by simp);omega) (by have:=HOB.out p (by simp);omega) (HOB.out q (by simp)).1 (HOB.out q (by simp)).2
    go_wp2
    go_quiet (fail)
    go_wp2
    go_ret
    exact⟨zAB HE.out.symm,below_drewN HBN.out _⟩
   ·
    have HL:Hid (2≤acc.length):=by
     have h:=HFO.out
     unfold zB9 at h
     rw[HKD.out] at h
     simp at h
     have:=HOL.out
     show 2≤_
     omega
    obtain⟨p,L,hpl,hLn⟩:∃p L,acc=p :: L∧L≠[]:=by
     match acc,HL.out with
     | p :: q :: r,_=>exact⟨p,q :: r,rfl,by simp⟩
    have HLL:Hid (acc.length=L.length+1):=by rw[hpl];rfl
    have HAT:Hid (∀j z,L[j]? = some z→acc[j+1]? = some z):=fun j z h=>by rw[hpl];simpa using h
    have HE:Hid (R=(L.all (fun z=>decide (z≤p))&&L.any (fun z=>z==p))):=by
     show _=_
     rw[←HR.out,←zNm L hLn p];unfold zAV;rw[HKD.out,HOWN.out,hpl];rfl
    obtain⟨b,off,rfl,hb,e0⟩:=H6.out 0 p (by rw[hpl];rfl)
    rw[Nat.add_zero] at e0
    obtain⟨wz,hwz⟩:∃wz:World,wz=wr:=⟨_,rfl⟩
    have hn0:1≤acc.length:=by have:=HL.out;omega
    have hn1:¬acc=[]:=fun h=>by rw[h] at hn0;simp at hn0
    have hn2:0<acc.length:=by omega
    have hn3:(0:Int)<(acc.length:Int):=by omega
    clear hpl hLn
    go_wp2_with fail
    rw[←hwz] at q0 q1 q2 q3 q4 q5 l0 HX H6 HBN HBW HOW e0 hb ⊢
    clear hwz
    go_loopw [13,14] (fun y i wr=>∃j:Nat,j≤L.length∧i=.int .i64 ((j:Int)+1)∧y=.bool ((L.take j).any fun z=>z==p)∧Hid ((L.take j).all (fun z=>decide (z≤p))=true)∧∃n,wr=wz.drewN n) (fun _ i _=>acc.length - (intOf i).toNat)
    case atStart=>exact⟨0,by omega,rfl,rfl,rfl,0,rfl⟩
    case round =>
     obtain⟨j,hj,rfl,rfl,hall,nq,rfl⟩:=hrel
     obtain⟨Y,hY⟩:∃Y,((L.take j).any fun z=>z==p)=Y:=⟨_,rfl⟩
     have HY:Hid (((L.take j).any fun z=>z==p)=Y):=hY
     rw[hY]
     obtain⟨k2,hk2⟩:∃k2:Nat,j+1=k2:=⟨_,rfl⟩
     have hk3:(j:Int)+1=(k2:Int):=by omega
     have HKK:Hid (j+1=k2):=hk2
     rw[hk3]
     clear hY hk2
     by_cases hlt:j<L.length
     ·obtain⟨z,hz⟩:∃z,L[j]? = some z:=⟨L[j],by simp[hlt]⟩
      have HZ:Hid (L[j]? = some z):=hz
      have hz1:=HAT.out j z hz
      rw[HKK.out] at hz1
      obtain⟨b',off',hab,_,hd⟩:=H6.out k2 z hz1
      cases hab
      have hkl:k2<acc.length:=by have:=HLL.out;have:=HKK.out;omega
      have hkl2:(k2:Int)<(acc.length:Int):=by omega
      have HS1:Hid ((L.take (j+1)).all (fun z=>decide (z≤p))=decide (z≤p)):=by
       show _=_
       rw[List.take_add_one,hz,List.all_append,hall.out];simp
      have HS2:Hid ((L.take (j+1)).any (fun z=>z==p)=(Y || (z==p))):=by show _=_;rw[zDU L _ j z hz,HY.out]
      have hwk:IntKind.i64.wrap ((k2:Int)+1)=(k2:Int)+1:=by rw[IntKind.wrap_i64];omega
      clear hz hz1 hk3
      cases hgt:decide (p<z)
      ·have hle:z≤p:=by have:=of_decide_eq_false hgt;omega
       have HN2:Hid ((L.take (j+1)).all (fun z=>decide (z≤p))=true):=by show _=_;rw[HS1.out];exact decide_eq_true hle
       clear hle
       cases Y
       ·cases hzp:(z==p)
        ·have HN3:Hid ((L.take (j+1)).any (fun z=>z==p)=false):=by show _=_;rw[HS2.out,hzp];rfl
         go_wp2
         go_quiet (fail)
         go_wp2
         go_quiet (fail)
         go_wp2
         go_roundw
         case rel=>exact⟨j+1,by omega,by have:=HKK.out;congr 1;omega,by rw[HN3.out],HN2,_,rfl⟩
         case measure=>simp[intOf];omega
        ·have HN3:Hid ((L.take (j+1)).any (fun z=>z==p)=true):=by show _=_;rw[HS2.out,hzp];rfl
         go_wp2
         go_quiet (fail)
         go_wp2
         go_quiet (fail)
         go_wp2
         go_roundw
         case rel=>exact⟨j+1,by omega,by have:=HKK.out;congr 1;omega,by rw[HN3.out],HN2,_,rfl⟩
         case measure=>simp[intOf];omega
       ·have HN3:Hid ((L.take (j+1)).any (fun z=>z==p)=true):=by show _=_;rw[HS2.out];rfl
        go_wp2
        go_quiet (fail)
        go_wp2
        go_quiet (fail)
        go_wp2
        go_roundw
        case rel=>exact⟨j+1,by omega,by have:=HKK.out;congr 1;omega,by rw[HN3.out],HN2,_,rfl⟩
        case measure=>simp[intOf];omega
      ·have HF:Hid (R=false):=by
        show _=_
        rw[HE.out,Bool.and_eq_false_iff]
        left
        rw[List.all_eq_false]
        exact⟨z,List.mem_of_getElem? HZ.out,by have:=of_decide_eq_true hgt;simp;omega⟩
       go_wp2
       go_quiet (fail)
       go_wp2
       go_ret
       exact⟨zAB HF.out.symm,below_drewN (below_drewN HBN.out _) _⟩
     ·have hkl:¬k2<acc.length:=by have:=HLL.out;have:=HKK.out;omega
      have HF:Hid (R=Y):=by
       show _=_
       have h1:=hall.out
       have h2:=HY.out
       rw[List.take_of_length_le (by omega)] at h1 h2
       rw[HE.out,h1,h2];rfl
      clear hk3
      go_wp2
      go_ret
      exact⟨zAB HF.out.symm,below_drewN HBN.out _⟩
   ·
    have HE:Hid (R=c.lits.any (litB vals)):=by show _=_;rw[←HR.out];unfold zAV;rw[HKD.out];rfl
    obtain⟨wz,hwz⟩:∃wz:World,wz=wr:=⟨_,rfl⟩
    have HC2:Hid (∀Y,Below wr.heap.size wr Y→w.heap.size<Y.heap.size∧Y.cell? ⟨w.heap.size,5,none⟩=some (.slice a4 c.lits.length c4)∧Below w.heap.size w Y):=fun Y hY=>⟨Nat.lt_of_lt_of_le l0 hY.size,(hY.cell (p:=⟨w.heap.size,5,none⟩) l0).trans q5,HBN.out.trans (hY.mono HBN.out.size)⟩
    go_wp2_with fail
    rw[←hwz] at HC2 HBN ⊢
    clear hwz q0 q1 q2 q3 q4 q5 l0
    go_loopw [15] (fun i wr=>∃k:Nat,k≤c.lits.length∧i=.int .i64 k∧Hid ((c.lits.take k).any (litB vals)=false)∧Below wz.heap.size wz wr) (fun i _=>c.lits.length - (intOf i).toNat)
    case atStart=>exact⟨0,by omega,rfl,rfl,Below.refl _ _⟩
    case round =>
     obtain⟨k,hk,rfl,hall,hbz⟩:=hrel
     have HBZ:Hid (Below wz.heap.size wz wr):=hbz
     obtain⟨l0,q5,hbn⟩:=HC2.out _ hbz
     have HBN2:Hid (Below w.heap.size w wr):=hbn
     clear hbz hbn
     by_cases hlt:k<c.lits.length
     ·obtain⟨l,hl⟩:∃l,c.lits[k]? = some l:=⟨c.lits[k],by simp[hlt]⟩
      have HLK:Hid (c.lits[k]? = some l):=hl
      obtain⟨hin0,hin1⟩:=HLI.out l (List.mem_of_getElem? hl)
      obtain⟨lb,lo,hlb,ll,m0,m1,m2⟩:=LArg.nth (HKA.out _ HBN2.out).2.2.2 k l hl
      subst hlb
      obtain⟨var,op,n⟩:=l
      dsimp only at hin0 hin1 m0 m1 m2
      obtain⟨y,rfl⟩:∃y:Nat,var=(y:Int):=⟨var.toNat,by omega⟩
      have hyl:y<vals.length:=by omega
      obtain⟨z,hz⟩:∃z,vals[y]? = some z:=⟨vals[y],by simp[hyl]⟩
      obtain⟨_,_,hs2,_,hr2⟩:=HVA.out _ HBN2.out
      cases hs2
      obtain⟨b2,o2,hb2,hbl2,e2⟩:=hr2 y _ hz
      subst hb2
      have HLB:Hid (litB vals ⟨(y:Int),op,n⟩=litV z ⟨(y:Int),op,n⟩):=by show _=_;unfold litB;rw[zCH vals y z hz]
      have HS:=zDU c.lits (litB vals) k _ hl
      rw[hall.out,HLB.out,Bool.false_or] at HS
      have HSS:Hid ((c.lits.take (k+1)).any (litB vals)=litV z ⟨(y:Int),op,n⟩):=HS
      clear hl hz hr2 HS
      go_wp2_with fail
      go_region_held3 (fun w'=>Below wr.heap.size wr w'∧w'.cell? ⟨w.heap.size,5,none⟩=some (.slice (some ⟨lb,lo,none⟩) c.lits.length c4)∧w'.cell? ⟨lb,lo+k * 3,none⟩=some (.int .i64 (y:Int))∧w'.cell? ⟨lb,lo+k * 3+1,none⟩=some (.int .i64 op)∧w'.cell? ⟨lb,lo+k * 3+2,none⟩=some (.int .i64 n)∧w'.cell? ⟨b2,o2+y,none⟩=some (.int .i64 z))
       ((refine (fun (hB:Below wr.heap.size wr _)=>⟨hB,(hB.cell (p:=⟨w.heap.size,5,none⟩) l0).trans q5,(hB.cell (p:=⟨lb,lo+k * 3,none⟩) ll).trans m0,(hB.cell (p:=⟨lb,lo+k * 3+1,none⟩) ll).trans m1,(hB.cell (p:=⟨lb,lo+k * 3+2,none⟩) ll).trans m2,(hB.cell (p:=⟨b2,o2+y,none⟩) hbl2).trans e2⟩:Below wr.heap.size wr _→_) ?_;first | exact (Below.refl _ _).drew | exact zAS (by assumption) hbq))
       ((go_at_call 110;refine (zEH ⟨(y:Int),op,n⟩ z _).mono ?_;rintro e w3 ⟨rfl,hbq⟩;have hB3:=zAS (by assumption) hbq))
      have HB3:Hid (Below wz.heap.size wz w3):=HBZ.out.trans (hB3.mono HBZ.out.size)
      have HB4:Hid (Below w.heap.size w w3):=HBN2.out.trans (hB3.mono HBN2.out.size)
      clear hB3 hbq q5 l0 m0 m1 m2 e2
      cases hq:litV z ⟨(y:Int),op,n⟩
      ·have HN2:Hid ((c.lits.take (k+1)).any (litB vals)=false):=by show _=_;rw[HSS.out,hq]
       go_wp2
       go_roundw
       case rel=>exact⟨k+1,by omega,by go_num,HN2,HB3.out⟩
       case measure=>simp[intOf];omega
      ·have HF:Hid (R=true):=by
        show _=_
        rw[HE.out]
        exact List.any_eq_true.2 ⟨_,List.mem_of_getElem? HLK.out,by rw[HLB.out];exact hq⟩
       go_wp2
       go_ret
       exact⟨zAB HF.out.symm,HB4.out⟩
     ·have HF:Hid (R=false):=by
       show _=_
       rw[HE.out,←hall.out,List.take_of_length_le (by omega)]
      go_wp2
      go_ret
      exact⟨zAB HF.out.symm,HBN2.out⟩
   ·
    have HFF:Hid (acc.length=1∧c.lits.length=1):=by
     have h:=HFO.out
     unfold zB9 at h
     rw[HKD.out] at h
     simp at h
     exact⟨HOL.out.trans h.2.1,h.2.2.1⟩
    obtain⟨p,rfl⟩:∃p,acc=[p]:=by
     match acc,HFF.out.1 with
     | [p],_=>exact⟨p,rfl⟩
    obtain⟨l,hl⟩:∃l,c.lits=[l]:=by
     match c.lits,HFF.out.2 with
     | [l],_=>exact⟨l,rfl⟩
    obtain⟨b,off,rfl,hb,e0⟩:=H6.out 0 p rfl
    rw[Nat.add_zero] at e0
    have HE:Hid (R=(p==(if litB vals l then 1 else 0))):=by show _=_;rw[←HR.out];unfold zAV;rw[HKD.out,HOWN.out,hl];rfl
    have hl0:c.lits[0]? = some l:=by rw[hl];rfl
    obtain⟨hin0,hin1⟩:=HLI.out l (List.mem_of_getElem? hl0)
    obtain⟨lb,lo,hlb,ll,m0,m1,m2⟩:=LArg.nth (HKA.out _ HBN.out).2.2.2 0 l hl0
    subst hlb
    obtain⟨var,op,n⟩:=l
    dsimp only at hin0 hin1 m0 m1 m2
    simp only[Nat.zero_mul,Nat.add_zero] at m0 m1 m2
    obtain⟨y,rfl⟩:∃y:Nat,var=(y:Int):=⟨var.toNat,by omega⟩
    have hyl:y<vals.length:=by omega
    obtain⟨z,hz⟩:∃z,vals[y]? = some z:=⟨vals[y],by simp[hyl]⟩
    obtain⟨_,_,hs2,_,hr2⟩:=HVA.out _ HBN.out
    cases hs2
    obtain⟨b2,o2,hb2,hbl2,e2⟩:=hr2 y _ hz
    subst hb2
    have HLB:Hid (litB vals ⟨(y:Int),op,n⟩=litV z ⟨(y:Int),op,n⟩):=by show _=_;unfold litB;rw[zCH vals y z hz]
    rw[HLB.out] at HE
    have hn1:0<c.lits.length:=by rw[hl];simp
    have hn2:(0:Int)<(c.lits.length:Int):=by omega
    have hn3:¬c.lits=[]:=fun h=>by rw[h] at hl;cases hl
    rw[List.length_singleton]
    clear hl hl0 hz hr2 HX H6 HOW
    go_wp2_with fail
    go_region_held3 (fun w'=>Below wr.heap.size wr w'∧w'.cell? ⟨w.heap.size,5,none⟩=some (.slice (some ⟨lb,lo,none⟩) c.lits.length c4)∧w'.cell? ⟨lb,lo,none⟩=some (.int .i64 (y:Int))∧w'.cell? ⟨lb,lo+1,none⟩=some (.int .i64 op)∧w'.cell? ⟨lb,lo+2,none⟩=some (.int .i64 n)∧w'.cell? ⟨b2,o2+y,none⟩=some (.int .i64 z))
     ((refine (fun (hB:Below wr.heap.size wr _)=>⟨hB,(hB.cell (p:=⟨w.heap.size,5,none⟩) l0).trans q5,(hB.cell (p:=⟨lb,lo,none⟩) ll).trans m0,(hB.cell (p:=⟨lb,lo+1,none⟩) ll).trans m1,(hB.cell (p:=⟨lb,lo+2,none⟩) ll).trans m2,(hB.cell (p:=⟨b2,o2+y,none⟩) hbl2).trans e2⟩:Below wr.heap.size wr _→_) ?_;first | exact (Below.refl _ _).drew | exact zAS (by assumption) hbq))
     ((go_at_call 110;refine (zEH ⟨(y:Int),op,n⟩ z _).mono ?_;rintro e w3 ⟨rfl,hbq⟩;have hB3:=zAS (by assumption) hbq))
    have HB4:Hid (Below w.heap.size w w3):=HBN.out.trans (hB3.mono HBN.out.size)
    have e0':=(hB3.cell (p:=⟨b,off,none⟩) hb).trans e0
    have hb':=Nat.lt_of_lt_of_le hb hB3.size
    clear hB3 hbq q5 l0 m0 m1 m2 e2
    cases hq:litV z ⟨(y:Int),op,n⟩
    ·have HF:Hid (R=(p==0)):=by show _=_;rw[HE.out,hq];rfl
     go_wp2
     go_ret
     exact⟨zAB HF.out.symm,HB4.out⟩
    ·have HF:Hid (R=(p==1)):=by show _=_;rw[HE.out,hq];rfl
     go_wp2
     go_ret
     exact⟨zAB HF.out.symm,HB4.out⟩
end Go.Proofs.YtndcpnlaadikoaaGreatDoor
