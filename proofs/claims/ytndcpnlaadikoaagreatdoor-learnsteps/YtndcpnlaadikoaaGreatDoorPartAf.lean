/- What the proof leans on, part 6. -/
import Derived.Test.YtndcpnlaadikoaaGreatDoorPartAe
namespace Go.Proofs.YtndcpnlaadikoaaGreatDoor
open Go.RowKit
set_option maxHeartbeats 1600000 in
set_option maxRecDepth 100000 in
theorem zNL (c:MCon) (n:Int) (vv vc vr vl:Value) (w:World) (hk:KArg w vv vc vr vl c) :
 Calls Tryz.prog 113 #[conV vv vc vr vl c,.int .i64 n] w fun e w'=>e=.returned (.int .i64 (conE n c))∧Below w.heap.size w w':=by
 have HK:Hid (∀w':World,Below w.heap.size w w'→KArg w' vv vc vr vl c):=fun w' h=>KArg.below h hk
 obtain⟨⟨a1,c1,rfl,_,_⟩,⟨a2,c2,rfl,_,_⟩,⟨a3,c3,rfl,_,_⟩,⟨a4,c4,rfl,_,_⟩⟩:=hk
 obtain⟨R,hR⟩:∃R,conE n c=R:=⟨_,rfl⟩
 rw[hR]
 unfold conE at hR
 unfold conV
 by_cases hlo:1≤c.kind
 ·by_cases hhi:c.kind≤10
  ·rw[if_pos ⟨hlo,hhi⟩] at hR
   cases hm:zFA c
   ·rw[hm] at hR
    simp only[Bool.false_eq_true,if_false] at hR
    have HM:Hid (zFA c=false):=hm
    have HL:Hid (c.vars.length≤4∧c.consts.length≤8∧c.rows.length≤20∧c.lits.length≤4):=by
     simp only[zFA,Bool.or_eq_false_iff,decide_eq_false_iff_not] at hm
     exact⟨by omega,by omega,by omega,by omega⟩
    clear hm
    cases hf:zB9 c
    ·rw[hf] at hR
     have HE:Hid (R=1):=hR.symm
     have HF:Hid (zB9 c=false):=hf
     clear hf hR
     go_enter Tryz.func113,Tryz.ntmps113
     go_wp2_with fail
     refine (zDu c _ _ _ _ _ (HK.out _ (zAA _ _))).mono ?_
     rintro e w1 ⟨rfl,hb⟩
     rw[HM.out]
     have HB1:Hid (Below w.heap.size w w1):=(zAA _ _).trans (hb.mono (by simp))
     have HS1:Hid (w.heap.size+1≤w1.heap.size):=show w.heap.size+1≤w1.heap.size by simpa using hb.size
     have d10:w1.cell? ⟨w.heap.size,0,none⟩=some (.int .i64 c.kind):=(hb.cell (by simp)).trans (by simp)
     have d11:w1.cell? ⟨w.heap.size,1,none⟩=some (.slice a1 c.vars.length c1):=(hb.cell (by simp)).trans (by simp)
     have d12:w1.cell? ⟨w.heap.size,2,none⟩=some (.slice a2 c.consts.length c2):=(hb.cell (by simp)).trans (by simp)
     have d13:w1.cell? ⟨w.heap.size,3,none⟩=some (.int .i64 c.n):=(hb.cell (by simp)).trans (by simp)
     have d14:w1.cell? ⟨w.heap.size,4,none⟩=some (.slice a3 c.rows.length c3):=(hb.cell (by simp)).trans (by simp)
     have d15:w1.cell? ⟨w.heap.size,5,none⟩=some (.slice a4 c.lits.length c4):=(hb.cell (by simp)).trans (by simp)
     clear hb
     go_wp2_with fail
     refine (zEw c _ _ _ _ _ (HK.out _ HB1.out) HL.out.1 HL.out.2.1 HL.out.2.2.1 HL.out.2.2.2).mono ?_
     rintro e w2 ⟨rfl,hb⟩
     rw[HF.out]
     have HB2:Hid (Below w.heap.size w w2):=HB1.out.trans (hb.mono HB1.out.size)
     have HS2:Hid (w.heap.size+1≤w2.heap.size):=Nat.le_trans HS1.out hb.size
     have d20:=(hb.cell (p:=⟨w.heap.size,0,none⟩) (by have:=HS1.out;simp only;omega)).trans d10
     have d21:=(hb.cell (p:=⟨w.heap.size,1,none⟩) (by have:=HS1.out;simp only;omega)).trans d11
     have d22:=(hb.cell (p:=⟨w.heap.size,2,none⟩) (by have:=HS1.out;simp only;omega)).trans d12
     have d23:=(hb.cell (p:=⟨w.heap.size,3,none⟩) (by have:=HS1.out;simp only;omega)).trans d13
     have d24:=(hb.cell (p:=⟨w.heap.size,4,none⟩) (by have:=HS1.out;simp only;omega)).trans d14
     have d25:=(hb.cell (p:=⟨w.heap.size,5,none⟩) (by have:=HS1.out;simp only;omega)).trans d15
     clear hb d10 d11 d12 d13 d14 d15
     go_wp2
     go_ret
     exact⟨zAI HE.out.symm,HB2.out⟩
    ·rw[hf] at hR
     simp only[if_true] at hR
     have HF:Hid (zB9 c=true):=hf
     clear hf
     cases hv:zFs c n
     ·rw[hv] at hR
      have HE:Hid (R=5):=hR.symm
      have HV:Hid (zFs c n=false):=hv
      clear hv hR
      go_enter Tryz.func113,Tryz.ntmps113
      go_wp2_with fail
      refine (zDu c _ _ _ _ _ (HK.out _ (zAA _ _))).mono ?_
      rintro e w1 ⟨rfl,hb⟩
      rw[HM.out]
      have HB1:Hid (Below w.heap.size w w1):=(zAA _ _).trans (hb.mono (by simp))
      have HS1:Hid (w.heap.size+1≤w1.heap.size):=show w.heap.size+1≤w1.heap.size by simpa using hb.size
      have d10:w1.cell? ⟨w.heap.size,0,none⟩=some (.int .i64 c.kind):=(hb.cell (by simp)).trans (by simp)
      have d11:w1.cell? ⟨w.heap.size,1,none⟩=some (.slice a1 c.vars.length c1):=(hb.cell (by simp)).trans (by simp)
      have d12:w1.cell? ⟨w.heap.size,2,none⟩=some (.slice a2 c.consts.length c2):=(hb.cell (by simp)).trans (by simp)
      have d13:w1.cell? ⟨w.heap.size,3,none⟩=some (.int .i64 c.n):=(hb.cell (by simp)).trans (by simp)
      have d14:w1.cell? ⟨w.heap.size,4,none⟩=some (.slice a3 c.rows.length c3):=(hb.cell (by simp)).trans (by simp)
      have d15:w1.cell? ⟨w.heap.size,5,none⟩=some (.slice a4 c.lits.length c4):=(hb.cell (by simp)).trans (by simp)
      clear hb
      go_wp2_with fail
      refine (zEw c _ _ _ _ _ (HK.out _ HB1.out) HL.out.1 HL.out.2.1 HL.out.2.2.1 HL.out.2.2.2).mono ?_
      rintro e w2 ⟨rfl,hb⟩
      rw[HF.out]
      have HB2:Hid (Below w.heap.size w w2):=HB1.out.trans (hb.mono HB1.out.size)
      have HS2:Hid (w.heap.size+1≤w2.heap.size):=Nat.le_trans HS1.out hb.size
      have d20:=(hb.cell (p:=⟨w.heap.size,0,none⟩) (by have:=HS1.out;simp only;omega)).trans d10
      have d21:=(hb.cell (p:=⟨w.heap.size,1,none⟩) (by have:=HS1.out;simp only;omega)).trans d11
      have d22:=(hb.cell (p:=⟨w.heap.size,2,none⟩) (by have:=HS1.out;simp only;omega)).trans d12
      have d23:=(hb.cell (p:=⟨w.heap.size,3,none⟩) (by have:=HS1.out;simp only;omega)).trans d13
      have d24:=(hb.cell (p:=⟨w.heap.size,4,none⟩) (by have:=HS1.out;simp only;omega)).trans d14
      have d25:=(hb.cell (p:=⟨w.heap.size,5,none⟩) (by have:=HS1.out;simp only;omega)).trans d15
      clear hb d10 d11 d12 d13 d14 d15
      go_wp2_with fail
      refine (zGf c n _ _ _ _ _ (HK.out _ HB2.out)).mono ?_
      rintro e w3 ⟨rfl,hb⟩
      rw[HV.out]
      have HB3:Hid (Below w.heap.size w w3):=HB2.out.trans (hb.mono HB2.out.size)
      have HS3:Hid (w.heap.size+1≤w3.heap.size):=Nat.le_trans HS2.out hb.size
      have d30:=(hb.cell (p:=⟨w.heap.size,0,none⟩) (by have:=HS2.out;simp only;omega)).trans d20
      have d31:=(hb.cell (p:=⟨w.heap.size,1,none⟩) (by have:=HS2.out;simp only;omega)).trans d21
      have d32:=(hb.cell (p:=⟨w.heap.size,2,none⟩) (by have:=HS2.out;simp only;omega)).trans d22
      have d33:=(hb.cell (p:=⟨w.heap.size,3,none⟩) (by have:=HS2.out;simp only;omega)).trans d23
      have d34:=(hb.cell (p:=⟨w.heap.size,4,none⟩) (by have:=HS2.out;simp only;omega)).trans d24
      have d35:=(hb.cell (p:=⟨w.heap.size,5,none⟩) (by have:=HS2.out;simp only;omega)).trans d25
      clear hb d20 d21 d22 d23 d24 d25
      go_wp2
      go_ret
      exact⟨zAI HE.out.symm,HB3.out⟩
     ·rw[hv] at hR
      simp only[if_true] at hR
      have HV:Hid (zFs c n=true):=hv
      clear hv
      cases hc:zCd c
      ·rw[hc] at hR
       have HE:Hid (R=3):=hR.symm
       have HC:Hid (zCd c=false):=hc
       clear hc hR
       go_enter Tryz.func113,Tryz.ntmps113
       go_wp2_with fail
       refine (zDu c _ _ _ _ _ (HK.out _ (zAA _ _))).mono ?_
       rintro e w1 ⟨rfl,hb⟩
       rw[HM.out]
       have HB1:Hid (Below w.heap.size w w1):=(zAA _ _).trans (hb.mono (by simp))
       have HS1:Hid (w.heap.size+1≤w1.heap.size):=show w.heap.size+1≤w1.heap.size by simpa using hb.size
       have d10:w1.cell? ⟨w.heap.size,0,none⟩=some (.int .i64 c.kind):=(hb.cell (by simp)).trans (by simp)
       have d11:w1.cell? ⟨w.heap.size,1,none⟩=some (.slice a1 c.vars.length c1):=(hb.cell (by simp)).trans (by simp)
       have d12:w1.cell? ⟨w.heap.size,2,none⟩=some (.slice a2 c.consts.length c2):=(hb.cell (by simp)).trans (by simp)
       have d13:w1.cell? ⟨w.heap.size,3,none⟩=some (.int .i64 c.n):=(hb.cell (by simp)).trans (by simp)
       have d14:w1.cell? ⟨w.heap.size,4,none⟩=some (.slice a3 c.rows.length c3):=(hb.cell (by simp)).trans (by simp)
       have d15:w1.cell? ⟨w.heap.size,5,none⟩=some (.slice a4 c.lits.length c4):=(hb.cell (by simp)).trans (by simp)
       clear hb
       go_wp2_with fail
       refine (zEw c _ _ _ _ _ (HK.out _ HB1.out) HL.out.1 HL.out.2.1 HL.out.2.2.1 HL.out.2.2.2).mono ?_
       rintro e w2 ⟨rfl,hb⟩
       rw[HF.out]
       have HB2:Hid (Below w.heap.size w w2):=HB1.out.trans (hb.mono HB1.out.size)
       have HS2:Hid (w.heap.size+1≤w2.heap.size):=Nat.le_trans HS1.out hb.size
       have d20:=(hb.cell (p:=⟨w.heap.size,0,none⟩) (by have:=HS1.out;simp only;omega)).trans d10
       have d21:=(hb.cell (p:=⟨w.heap.size,1,none⟩) (by have:=HS1.out;simp only;omega)).trans d11
       have d22:=(hb.cell (p:=⟨w.heap.size,2,none⟩) (by have:=HS1.out;simp only;omega)).trans d12
       have d23:=(hb.cell (p:=⟨w.heap.size,3,none⟩) (by have:=HS1.out;simp only;omega)).trans d13
       have d24:=(hb.cell (p:=⟨w.heap.size,4,none⟩) (by have:=HS1.out;simp only;omega)).trans d14
       have d25:=(hb.cell (p:=⟨w.heap.size,5,none⟩) (by have:=HS1.out;simp only;omega)).trans d15
       clear hb d10 d11 d12 d13 d14 d15
       go_wp2_with fail
       refine (zGf c n _ _ _ _ _ (HK.out _ HB2.out)).mono ?_
       rintro e w3 ⟨rfl,hb⟩
       rw[HV.out]
       have HB3:Hid (Below w.heap.size w w3):=HB2.out.trans (hb.mono HB2.out.size)
       have HS3:Hid (w.heap.size+1≤w3.heap.size):=Nat.le_trans HS2.out hb.size
       have d30:=(hb.cell (p:=⟨w.heap.size,0,none⟩) (by have:=HS2.out;simp only;omega)).trans d20
       have d31:=(hb.cell (p:=⟨w.heap.size,1,none⟩) (by have:=HS2.out;simp only;omega)).trans d21
       have d32:=(hb.cell (p:=⟨w.heap.size,2,none⟩) (by have:=HS2.out;simp only;omega)).trans d22
       have d33:=(hb.cell (p:=⟨w.heap.size,3,none⟩) (by have:=HS2.out;simp only;omega)).trans d23
       have d34:=(hb.cell (p:=⟨w.heap.size,4,none⟩) (by have:=HS2.out;simp only;omega)).trans d24
       have d35:=(hb.cell (p:=⟨w.heap.size,5,none⟩) (by have:=HS2.out;simp only;omega)).trans d25
       clear hb d20 d21 d22 d23 d24 d25
       go_wp2_with fail
       refine (zDv c _ _ _ _ _ (HK.out _ HB3.out)).mono ?_
       rintro e w4 ⟨rfl,hb⟩
       rw[HC.out]
       have HB4:Hid (Below w.heap.size w w4):=HB3.out.trans (hb.mono HB3.out.size)
       have HS4:Hid (w.heap.size+1≤w4.heap.size):=Nat.le_trans HS3.out hb.size
       have d40:=(hb.cell (p:=⟨w.heap.size,0,none⟩) (by have:=HS3.out;simp only;omega)).trans d30
       have d41:=(hb.cell (p:=⟨w.heap.size,1,none⟩) (by have:=HS3.out;simp only;omega)).trans d31
       have d42:=(hb.cell (p:=⟨w.heap.size,2,none⟩) (by have:=HS3.out;simp only;omega)).trans d32
       have d43:=(hb.cell (p:=⟨w.heap.size,3,none⟩) (by have:=HS3.out;simp only;omega)).trans d33
       have d44:=(hb.cell (p:=⟨w.heap.size,4,none⟩) (by have:=HS3.out;simp only;omega)).trans d34
       have d45:=(hb.cell (p:=⟨w.heap.size,5,none⟩) (by have:=HS3.out;simp only;omega)).trans d35
       clear hb d30 d31 d32 d33 d34 d35
       go_wp2
       go_ret
       exact⟨zAI HE.out.symm,HB4.out⟩
      ·rw[hc] at hR
       simp only[if_true] at hR
       have HE:Hid (R=zKt c.lits):=hR.symm
       have HC:Hid (zCd c=true):=hc
       clear hc hR
       go_enter Tryz.func113,Tryz.ntmps113
       go_wp2_with fail
       refine (zDu c _ _ _ _ _ (HK.out _ (zAA _ _))).mono ?_
       rintro e w1 ⟨rfl,hb⟩
       rw[HM.out]
       have HB1:Hid (Below w.heap.size w w1):=(zAA _ _).trans (hb.mono (by simp))
       have HS1:Hid (w.heap.size+1≤w1.heap.size):=show w.heap.size+1≤w1.heap.size by simpa using hb.size
       have d10:w1.cell? ⟨w.heap.size,0,none⟩=some (.int .i64 c.kind):=(hb.cell (by simp)).trans (by simp)
       have d11:w1.cell? ⟨w.heap.size,1,none⟩=some (.slice a1 c.vars.length c1):=(hb.cell (by simp)).trans (by simp)
       have d12:w1.cell? ⟨w.heap.size,2,none⟩=some (.slice a2 c.consts.length c2):=(hb.cell (by simp)).trans (by simp)
       have d13:w1.cell? ⟨w.heap.size,3,none⟩=some (.int .i64 c.n):=(hb.cell (by simp)).trans (by simp)
       have d14:w1.cell? ⟨w.heap.size,4,none⟩=some (.slice a3 c.rows.length c3):=(hb.cell (by simp)).trans (by simp)
       have d15:w1.cell? ⟨w.heap.size,5,none⟩=some (.slice a4 c.lits.length c4):=(hb.cell (by simp)).trans (by simp)
       clear hb
       go_wp2_with fail
       refine (zEw c _ _ _ _ _ (HK.out _ HB1.out) HL.out.1 HL.out.2.1 HL.out.2.2.1 HL.out.2.2.2).mono ?_
       rintro e w2 ⟨rfl,hb⟩
       rw[HF.out]
       have HB2:Hid (Below w.heap.size w w2):=HB1.out.trans (hb.mono HB1.out.size)
       have HS2:Hid (w.heap.size+1≤w2.heap.size):=Nat.le_trans HS1.out hb.size
       have d20:=(hb.cell (p:=⟨w.heap.size,0,none⟩) (by have:=HS1.out;simp only;omega)).trans d10
       have d21:=(hb.cell (p:=⟨w.heap.size,1,none⟩) (by have:=HS1.out;simp only;omega)).trans d11
       have d22:=(hb.cell (p:=⟨w.heap.size,2,none⟩) (by have:=HS1.out;simp only;omega)).trans d12
       have d23:=(hb.cell (p:=⟨w.heap.size,3,none⟩) (by have:=HS1.out;simp only;omega)).trans d13
       have d24:=(hb.cell (p:=⟨w.heap.size,4,none⟩) (by have:=HS1.out;simp only;omega)).trans d14
       have d25:=(hb.cell (p:=⟨w.heap.size,5,none⟩) (by have:=HS1.out;simp only;omega)).trans d15
       clear hb d10 d11 d12 d13 d14 d15
       go_wp2_with fail
       refine (zGf c n _ _ _ _ _ (HK.out _ HB2.out)).mono ?_
       rintro e w3 ⟨rfl,hb⟩
       rw[HV.out]
       have HB3:Hid (Below w.heap.size w w3):=HB2.out.trans (hb.mono HB2.out.size)
       have HS3:Hid (w.heap.size+1≤w3.heap.size):=Nat.le_trans HS2.out hb.size
       have d30:=(hb.cell (p:=⟨w.heap.size,0,none⟩) (by have:=HS2.out;simp only;omega)).trans d20
       have d31:=(hb.cell (p:=⟨w.heap.size,1,none⟩) (by have:=HS2.out;simp only;omega)).trans d21
       have d32:=(hb.cell (p:=⟨w.heap.size,2,none⟩) (by have:=HS2.out;simp only;omega)).trans d22
       have d33:=(hb.cell (p:=⟨w.heap.size,3,none⟩) (by have:=HS2.out;simp only;omega)).trans d23
       have d34:=(hb.cell (p:=⟨w.heap.size,4,none⟩) (by have:=HS2.out;simp only;omega)).trans d24
       have d35:=(hb.cell (p:=⟨w.heap.size,5,none⟩) (by have:=HS2.out;simp only;omega)).trans d25
       clear hb d20 d21 d22 d23 d24 d25
       go_wp2_with fail
       refine (zDv c _ _ _ _ _ (HK.out _ HB3.out)).mono ?_
       rintro e w4 ⟨rfl,hb⟩
       rw[HC.out]
       have HB4:Hid (Below w.heap.size w w4):=HB3.out.trans (hb.mono HB3.out.size)
       have HS4:Hid (w.heap.size+1≤w4.heap.size):=Nat.le_trans HS3.out hb.size
       have d40:=(hb.cell (p:=⟨w.heap.size,0,none⟩) (by have:=HS3.out;simp only;omega)).trans d30
       have d41:=(hb.cell (p:=⟨w.heap.size,1,none⟩) (by have:=HS3.out;simp only;omega)).trans d31
       have d42:=(hb.cell (p:=⟨w.heap.size,2,none⟩) (by have:=HS3.out;simp only;omega)).trans d32
       have d43:=(hb.cell (p:=⟨w.heap.size,3,none⟩) (by have:=HS3.out;simp only;omega)).trans d33
       have d44:=(hb.cell (p:=⟨w.heap.size,4,none⟩) (by have:=HS3.out;simp only;omega)).trans d34
       have d45:=(hb.cell (p:=⟨w.heap.size,5,none⟩) (by have:=HS3.out;simp only;omega)).trans d35
       clear hb d30 d31 d32 d33 d34 d35
       go_wp2_with fail
       refine (zMC c.lits _ _ (HK.out _ HB4.out).2.2.2).mono ?_
       rintro e w5 ⟨rfl,hb⟩
       have HB5:Hid (Below w.heap.size w w5):=HB4.out.trans (hb.mono HB4.out.size)
       go_wp2
       go_ret
       exact⟨zAI HE.out.symm,HB5.out⟩
   ·rw[hm] at hR
    have HE:Hid (R=2):=hR.symm
    have HM:Hid (zFA c=true):=hm
    clear hm hR
    go_enter Tryz.func113,Tryz.ntmps113
    go_wp2_with fail
    refine (zDu c _ _ _ _ _ (HK.out _ (zAA _ _))).mono ?_
    rintro e w1 ⟨rfl,hb⟩
    rw[HM.out]
    have HB1:Hid (Below w.heap.size w w1):=(zAA _ _).trans (hb.mono (by simp))
    have HS1:Hid (w.heap.size+1≤w1.heap.size):=show w.heap.size+1≤w1.heap.size by simpa using hb.size
    have d10:w1.cell? ⟨w.heap.size,0,none⟩=some (.int .i64 c.kind):=(hb.cell (by simp)).trans (by simp)
    have d11:w1.cell? ⟨w.heap.size,1,none⟩=some (.slice a1 c.vars.length c1):=(hb.cell (by simp)).trans (by simp)
    have d12:w1.cell? ⟨w.heap.size,2,none⟩=some (.slice a2 c.consts.length c2):=(hb.cell (by simp)).trans (by simp)
    have d13:w1.cell? ⟨w.heap.size,3,none⟩=some (.int .i64 c.n):=(hb.cell (by simp)).trans (by simp)
    have d14:w1.cell? ⟨w.heap.size,4,none⟩=some (.slice a3 c.rows.length c3):=(hb.cell (by simp)).trans (by simp)
    have d15:w1.cell? ⟨w.heap.size,5,none⟩=some (.slice a4 c.lits.length c4):=(hb.cell (by simp)).trans (by simp)
    clear hb
    go_wp2
    go_ret
    exact⟨zAI HE.out.symm,HB1.out⟩
  ·rw[if_neg (fun h=>hhi h.2)] at hR
   have HE:Hid (R=7):=hR.symm
   clear hR
   go_enter Tryz.func113,Tryz.ntmps113
   go_wp2
   go_ret
   exact⟨zAI HE.out.symm,zAA _ _⟩
 ·rw[if_neg (fun h=>hlo h.1)] at hR
  have HE:Hid (R=7):=hR.symm
  clear hR
  go_enter Tryz.func113,Tryz.ntmps113
  go_wp2
  go_ret
  exact⟨zAI HE.out.symm,zAA _ _⟩
set_option maxHeartbeats 800000 in
set_option maxRecDepth 100000 in
theorem zMD (m:Mod) (vs cs:Value) (w:World) (hm:MArg w vs cs m) :
 Calls Tryz.prog 114 #[modV vs cs m] w fun e w'=>e=.returned (.int .i64 (zIS m))∧Below w.heap.size w w':=by
 obtain⟨⟨a1,c1,rfl,_,_⟩,⟨a2,c2,rfl,_,_⟩⟩:=hm
 obtain⟨R,hR⟩:∃R,zIS m=R:=⟨_,rfl⟩
 rw[hR]
 unfold zIS at hR
 unfold modV
 by_cases h0:m.goal=0
 ·rw[if_pos h0] at hR
  have g0:(m.goal==0)=true:=by simpa using h0
  by_cases hv:m.var=0
  ·rw[if_pos hv] at hR
   have HE:Hid (R=0):=hR.symm
   have v0:(m.var != 0)=false:=by simpa using hv
   clear hR h0 hv
   go_enter Tryz.func114,Tryz.ntmps114
   go_wp2
   go_ret
   exact⟨zAI HE.out.symm,zAA _ _⟩
  ·rw[if_neg hv] at hR
   have HE:Hid (R=1):=hR.symm
   have v0:(m.var != 0)=true:=by simpa using hv
   clear hR h0 hv
   go_enter Tryz.func114,Tryz.ntmps114
   go_wp2
   go_ret
   exact⟨zAI HE.out.symm,zAA _ _⟩
 ·rw[if_neg h0] at hR
  have g0:(m.goal==0)=false:=by simpa using h0
  by_cases h12:m.goal=1∨m.goal=2
  ·rw[if_pos h12] at hR
   cases hv:zBJ m.var m.vars.length
   ·rw[hv] at hR
    have HE:Hid (R=5):=hR.symm
    have HV:Hid (zBJ m.var m.vars.length=false):=hv
    clear hR h0 hv
    rcases h12 with h | h
    ·have g1:(m.goal==1)=true:=by simpa using h
     clear h
     go_enter Tryz.func114,Tryz.ntmps114
     go_wp2_with fail
     refine (zBy _ _ _).mono ?_
     rintro e w2 ⟨rfl,hw2⟩
     rw[HV.out,hw2]
     clear hw2
     go_wp2
     go_ret
     exact⟨zAI HE.out.symm,zAA _ _⟩
    ·have g1:(m.goal==1)=false:=by simp[h]
     have g2:(m.goal==2)=true:=by simpa using h
     clear h
     go_enter Tryz.func114,Tryz.ntmps114
     go_wp2_with fail
     refine (zBy _ _ _).mono ?_
     rintro e w2 ⟨rfl,hw2⟩
     rw[HV.out,hw2]
     clear hw2
     go_wp2
     go_ret
     exact⟨zAI HE.out.symm,zAA _ _⟩
   ·rw[hv] at hR
    have HE:Hid (R=0):=hR.symm
    have HV:Hid (zBJ m.var m.vars.length=true):=hv
    clear hR h0 hv
    rcases h12 with h | h
    ·have g1:(m.goal==1)=true:=by simpa using h
     clear h
     go_enter Tryz.func114,Tryz.ntmps114
     go_wp2_with fail
     refine (zBy _ _ _).mono ?_
     rintro e w2 ⟨rfl,hw2⟩
     rw[HV.out,hw2]
     clear hw2
     go_wp2
     go_ret
     exact⟨zAI HE.out.symm,zAA _ _⟩
    ·have g1:(m.goal==1)=false:=by simp[h]
     have g2:(m.goal==2)=true:=by simpa using h
     clear h
     go_enter Tryz.func114,Tryz.ntmps114
     go_wp2_with fail
     refine (zBy _ _ _).mono ?_
     rintro e w2 ⟨rfl,hw2⟩
     rw[HV.out,hw2]
     clear hw2
     go_wp2
     go_ret
     exact⟨zAI HE.out.symm,zAA _ _⟩
  ·rw[if_neg h12] at hR
   have HE:Hid (R=7):=hR.symm
   have g1:(m.goal==1)=false:=by simpa using (fun h=>h12 (Or.inl h))
   have g2:(m.goal==2)=false:=by simpa using (fun h=>h12 (Or.inr h))
   clear hR h0 h12
   go_enter Tryz.func114,Tryz.ntmps114
   go_wp2
   go_ret
   exact⟨zAI HE.out.symm,zAA _ _⟩
end Go.Proofs.YtndcpnlaadikoaaGreatDoor
