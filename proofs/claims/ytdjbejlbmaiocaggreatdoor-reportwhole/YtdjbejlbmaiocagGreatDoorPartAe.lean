/- What the proof leans on, part 5. -/
import Derived.Test.YtdjbejlbmaiocagGreatDoorPartAd
import Derived.ProofKit
import Derived.OpenShut
import Derived.ShutString
import Derived.ChangeOld
import Derived.Below
import Derived.SizedLaws
import Derived.Deep.Slices
import Derived.Deep.Strs
import Derived.Lib.SmallJoins
namespace Go.Proofs.YtdjbejlbmaiocagGreatDoor
open Go.RowKit
set_option maxHeartbeats 1600000 in
set_option maxRecDepth 100000 in
theorem zSu (c:MCon) (n:Int) (vv vc vr vl:Value) (w:World) (hk:KArg w vv vc vr vl c) :
 Calls Tryz.prog 85 #[conV vv vc vr vl c,.int .i64 n] w fun e w'=>e=.returned (.int .i64 (conE n c))∧Below w.heap.size w w':=by
 have HK:Hid (∀w':World,Below w.heap.size w w'→KArg w' vv vc vr vl c):=fun w' h=>KArg.below h hk
 obtain⟨⟨a1,c1,rfl,_,_⟩,⟨a2,c2,rfl,_,_⟩,⟨a3,c3,rfl,_,_⟩,⟨a4,c4,rfl,_,_⟩⟩:=hk
 obtain⟨R,hR⟩:∃R,conE n c=R:=⟨_,rfl⟩
 rw[hR]
 unfold conE at hR
 unfold conV
 by_cases hlo:1≤c.kind
 ·by_cases hhi:c.kind≤10
  ·rw[if_pos ⟨hlo,hhi⟩] at hR
   cases hm:zF0 c
   ·rw[hm] at hR
    simp only[Bool.false_eq_true,if_false] at hR
    have HM:Hid (zF0 c=false):=hm
    have HL:Hid (c.vars.length≤4∧c.consts.length≤8∧c.rows.length≤20∧c.lits.length≤4):=by
     simp only[zF0,Bool.or_eq_false_iff,decide_eq_false_iff_not] at hm
     exact⟨by omega,by omega,by omega,by omega⟩
    clear hm
    cases hf:zDS c
    ·rw[hf] at hR
     have HE:Hid (R=1):=hR.symm
     have HF:Hid (zDS c=false):=hf
     clear hf hR
     go_enter Tryz.func85,Tryz.ntmps85
     go_wp2_with fail
     refine (zF2 c _ _ _ _ _ (HK.out _ (zAA _ _))).mono ?_
     rintro e w1 ⟨rfl,hb⟩
     rw[HM.out]
     have HB1:Hid (Below w.heap.size w w1):=(zAA _ _).trans (hb.mono (by simp))
     have HS1:Hid (w.heap.size+1≤w1.heap.size):=show w.heap.size+1≤w1.heap.size by simpa using hb.size
     have d10:w1.cell? ⟨w.heap.size,0,none⟩=some (.int .i64 c.kind):=(hb.cell (by simp)).trans (by simp)
     have d11:w1.cell? ⟨w.heap.size,1,none⟩=some (.slice a1 c.vars.length c1):=(hb.cell (by simp)).trans (by simp)
     have d12:w1.cell? ⟨w.heap.size,2,none⟩=some (.slice a2 c.consts.length c2):=(hb.cell (by simp)).trans (by simp)
     have d13:w1.cell? ⟨w.heap.size,3,none⟩=some (.int .i64 c.n):=(hb.cell (by simp)).trans (by simp)
     have d14:w1.cell? ⟨w.heap.size,4,none⟩=some (.slice a3 c.rows.length c3):=(hb.cell (by simp)).trans (by simp)
     have d15:w1.cell? ⟨w.heap.size,5,none⟩=some (.slice a4 c.lits.length c4):=(hb.cell (by simp)).trans (by simp)
     clear hb
     go_wp2_with fail
     refine (zHJ c _ _ _ _ _ (HK.out _ HB1.out) HL.out.1 HL.out.2.1 HL.out.2.2.1 HL.out.2.2.2).mono ?_
     rintro e w2 ⟨rfl,hb⟩
     rw[HF.out]
     have HB2:Hid (Below w.heap.size w w2):=HB1.out.trans (hb.mono HB1.out.size)
     have HS2:Hid (w.heap.size+1≤w2.heap.size):=Nat.le_trans HS1.out hb.size
     have d20:=(hb.cell (p:=⟨w.heap.size,0,none⟩) (by have:=HS1.out;simp only;omega)).trans d10
     have d21:=(hb.cell (p:=⟨w.heap.size,1,none⟩) (by have:=HS1.out;simp only;omega)).trans d11
     have d22:=(hb.cell (p:=⟨w.heap.size,2,none⟩) (by have:=HS1.out;simp only;omega)).trans d12
     have d23:=(hb.cell (p:=⟨w.heap.size,3,none⟩) (by have:=HS1.out;simp only;omega)).trans d13
     have d24:=(hb.cell (p:=⟨w.heap.size,4,none⟩) (by have:=HS1.out;simp only;omega)).trans d14
     have d25:=(hb.cell (p:=⟨w.heap.size,5,none⟩) (by have:=HS1.out;simp only;omega)).trans d15
     clear hb d10 d11 d12 d13 d14 d15
     go_wp2
     go_ret
     exact⟨zAH HE.out.symm,HB2.out⟩
    ·rw[hf] at hR
     simp only[if_true] at hR
     have HF:Hid (zDS c=true):=hf
     clear hf
     cases hv:zHR c n
     ·rw[hv] at hR
      have HE:Hid (R=5):=hR.symm
      have HV:Hid (zHR c n=false):=hv
      clear hv hR
      go_enter Tryz.func85,Tryz.ntmps85
      go_wp2_with fail
      refine (zF2 c _ _ _ _ _ (HK.out _ (zAA _ _))).mono ?_
      rintro e w1 ⟨rfl,hb⟩
      rw[HM.out]
      have HB1:Hid (Below w.heap.size w w1):=(zAA _ _).trans (hb.mono (by simp))
      have HS1:Hid (w.heap.size+1≤w1.heap.size):=show w.heap.size+1≤w1.heap.size by simpa using hb.size
      have d10:w1.cell? ⟨w.heap.size,0,none⟩=some (.int .i64 c.kind):=(hb.cell (by simp)).trans (by simp)
      have d11:w1.cell? ⟨w.heap.size,1,none⟩=some (.slice a1 c.vars.length c1):=(hb.cell (by simp)).trans (by simp)
      have d12:w1.cell? ⟨w.heap.size,2,none⟩=some (.slice a2 c.consts.length c2):=(hb.cell (by simp)).trans (by simp)
      have d13:w1.cell? ⟨w.heap.size,3,none⟩=some (.int .i64 c.n):=(hb.cell (by simp)).trans (by simp)
      have d14:w1.cell? ⟨w.heap.size,4,none⟩=some (.slice a3 c.rows.length c3):=(hb.cell (by simp)).trans (by simp)
      have d15:w1.cell? ⟨w.heap.size,5,none⟩=some (.slice a4 c.lits.length c4):=(hb.cell (by simp)).trans (by simp)
      clear hb
      go_wp2_with fail
      refine (zHJ c _ _ _ _ _ (HK.out _ HB1.out) HL.out.1 HL.out.2.1 HL.out.2.2.1 HL.out.2.2.2).mono ?_
      rintro e w2 ⟨rfl,hb⟩
      rw[HF.out]
      have HB2:Hid (Below w.heap.size w w2):=HB1.out.trans (hb.mono HB1.out.size)
      have HS2:Hid (w.heap.size+1≤w2.heap.size):=Nat.le_trans HS1.out hb.size
      have d20:=(hb.cell (p:=⟨w.heap.size,0,none⟩) (by have:=HS1.out;simp only;omega)).trans d10
      have d21:=(hb.cell (p:=⟨w.heap.size,1,none⟩) (by have:=HS1.out;simp only;omega)).trans d11
      have d22:=(hb.cell (p:=⟨w.heap.size,2,none⟩) (by have:=HS1.out;simp only;omega)).trans d12
      have d23:=(hb.cell (p:=⟨w.heap.size,3,none⟩) (by have:=HS1.out;simp only;omega)).trans d13
      have d24:=(hb.cell (p:=⟨w.heap.size,4,none⟩) (by have:=HS1.out;simp only;omega)).trans d14
      have d25:=(hb.cell (p:=⟨w.heap.size,5,none⟩) (by have:=HS1.out;simp only;omega)).trans d15
      clear hb d10 d11 d12 d13 d14 d15
      go_wp2_with fail
      refine (zJy c n _ _ _ _ _ (HK.out _ HB2.out)).mono ?_
      rintro e w3 ⟨rfl,hb⟩
      rw[HV.out]
      have HB3:Hid (Below w.heap.size w w3):=HB2.out.trans (hb.mono HB2.out.size)
      have HS3:Hid (w.heap.size+1≤w3.heap.size):=Nat.le_trans HS2.out hb.size
      have d30:=(hb.cell (p:=⟨w.heap.size,0,none⟩) (by have:=HS2.out;simp only;omega)).trans d20
      have d31:=(hb.cell (p:=⟨w.heap.size,1,none⟩) (by have:=HS2.out;simp only;omega)).trans d21
      have d32:=(hb.cell (p:=⟨w.heap.size,2,none⟩) (by have:=HS2.out;simp only;omega)).trans d22
      have d33:=(hb.cell (p:=⟨w.heap.size,3,none⟩) (by have:=HS2.out;simp only;omega)).trans d23
      have d34:=(hb.cell (p:=⟨w.heap.size,4,none⟩) (by have:=HS2.out;simp only;omega)).trans d24
      have d35:=(hb.cell (p:=⟨w.heap.size,5,none⟩) (by have:=HS2.out;simp only;omega)).trans d25
      clear hb d20 d21 d22 d23 d24 d25
      go_wp2
      go_ret
      exact⟨zAH HE.out.symm,HB3.out⟩
     ·rw[hv] at hR
      simp only[if_true] at hR
      have HV:Hid (zHR c n=true):=hv
      clear hv
      cases hc:zDT c
      ·rw[hc] at hR
       have HE:Hid (R=3):=hR.symm
       have HC:Hid (zDT c=false):=hc
       clear hc hR
       go_enter Tryz.func85,Tryz.ntmps85
       go_wp2_with fail
       refine (zF2 c _ _ _ _ _ (HK.out _ (zAA _ _))).mono ?_
       rintro e w1 ⟨rfl,hb⟩
       rw[HM.out]
       have HB1:Hid (Below w.heap.size w w1):=(zAA _ _).trans (hb.mono (by simp))
       have HS1:Hid (w.heap.size+1≤w1.heap.size):=show w.heap.size+1≤w1.heap.size by simpa using hb.size
       have d10:w1.cell? ⟨w.heap.size,0,none⟩=some (.int .i64 c.kind):=(hb.cell (by simp)).trans (by simp)
       have d11:w1.cell? ⟨w.heap.size,1,none⟩=some (.slice a1 c.vars.length c1):=(hb.cell (by simp)).trans (by simp)
       have d12:w1.cell? ⟨w.heap.size,2,none⟩=some (.slice a2 c.consts.length c2):=(hb.cell (by simp)).trans (by simp)
       have d13:w1.cell? ⟨w.heap.size,3,none⟩=some (.int .i64 c.n):=(hb.cell (by simp)).trans (by simp)
       have d14:w1.cell? ⟨w.heap.size,4,none⟩=some (.slice a3 c.rows.length c3):=(hb.cell (by simp)).trans (by simp)
       have d15:w1.cell? ⟨w.heap.size,5,none⟩=some (.slice a4 c.lits.length c4):=(hb.cell (by simp)).trans (by simp)
       clear hb
       go_wp2_with fail
       refine (zHJ c _ _ _ _ _ (HK.out _ HB1.out) HL.out.1 HL.out.2.1 HL.out.2.2.1 HL.out.2.2.2).mono ?_
       rintro e w2 ⟨rfl,hb⟩
       rw[HF.out]
       have HB2:Hid (Below w.heap.size w w2):=HB1.out.trans (hb.mono HB1.out.size)
       have HS2:Hid (w.heap.size+1≤w2.heap.size):=Nat.le_trans HS1.out hb.size
       have d20:=(hb.cell (p:=⟨w.heap.size,0,none⟩) (by have:=HS1.out;simp only;omega)).trans d10
       have d21:=(hb.cell (p:=⟨w.heap.size,1,none⟩) (by have:=HS1.out;simp only;omega)).trans d11
       have d22:=(hb.cell (p:=⟨w.heap.size,2,none⟩) (by have:=HS1.out;simp only;omega)).trans d12
       have d23:=(hb.cell (p:=⟨w.heap.size,3,none⟩) (by have:=HS1.out;simp only;omega)).trans d13
       have d24:=(hb.cell (p:=⟨w.heap.size,4,none⟩) (by have:=HS1.out;simp only;omega)).trans d14
       have d25:=(hb.cell (p:=⟨w.heap.size,5,none⟩) (by have:=HS1.out;simp only;omega)).trans d15
       clear hb d10 d11 d12 d13 d14 d15
       go_wp2_with fail
       refine (zJy c n _ _ _ _ _ (HK.out _ HB2.out)).mono ?_
       rintro e w3 ⟨rfl,hb⟩
       rw[HV.out]
       have HB3:Hid (Below w.heap.size w w3):=HB2.out.trans (hb.mono HB2.out.size)
       have HS3:Hid (w.heap.size+1≤w3.heap.size):=Nat.le_trans HS2.out hb.size
       have d30:=(hb.cell (p:=⟨w.heap.size,0,none⟩) (by have:=HS2.out;simp only;omega)).trans d20
       have d31:=(hb.cell (p:=⟨w.heap.size,1,none⟩) (by have:=HS2.out;simp only;omega)).trans d21
       have d32:=(hb.cell (p:=⟨w.heap.size,2,none⟩) (by have:=HS2.out;simp only;omega)).trans d22
       have d33:=(hb.cell (p:=⟨w.heap.size,3,none⟩) (by have:=HS2.out;simp only;omega)).trans d23
       have d34:=(hb.cell (p:=⟨w.heap.size,4,none⟩) (by have:=HS2.out;simp only;omega)).trans d24
       have d35:=(hb.cell (p:=⟨w.heap.size,5,none⟩) (by have:=HS2.out;simp only;omega)).trans d25
       clear hb d20 d21 d22 d23 d24 d25
       go_wp2_with fail
       refine (zF3 c _ _ _ _ _ (HK.out _ HB3.out)).mono ?_
       rintro e w4 ⟨rfl,hb⟩
       rw[HC.out]
       have HB4:Hid (Below w.heap.size w w4):=HB3.out.trans (hb.mono HB3.out.size)
       have HS4:Hid (w.heap.size+1≤w4.heap.size):=Nat.le_trans HS3.out hb.size
       have d40:=(hb.cell (p:=⟨w.heap.size,0,none⟩) (by have:=HS3.out;simp only;omega)).trans d30
       have d41:=(hb.cell (p:=⟨w.heap.size,1,none⟩) (by have:=HS3.out;simp only;omega)).trans d31
       have d42:=(hb.cell (p:=⟨w.heap.size,2,none⟩) (by have:=HS3.out;simp only;omega)).trans d32
       have d43:=(hb.cell (p:=⟨w.heap.size,3,none⟩) (by have:=HS3.out;simp only;omega)).trans d33
       have d44:=(hb.cell (p:=⟨w.heap.size,4,none⟩) (by have:=HS3.out;simp only;omega)).trans d34
       have d45:=(hb.cell (p:=⟨w.heap.size,5,none⟩) (by have:=HS3.out;simp only;omega)).trans d35
       clear hb d30 d31 d32 d33 d34 d35
       go_wp2
       go_ret
       exact⟨zAH HE.out.symm,HB4.out⟩
      ·rw[hc] at hR
       simp only[if_true] at hR
       have HE:Hid (R=zN4 c.lits):=hR.symm
       have HC:Hid (zDT c=true):=hc
       clear hc hR
       go_enter Tryz.func85,Tryz.ntmps85
       go_wp2_with fail
       refine (zF2 c _ _ _ _ _ (HK.out _ (zAA _ _))).mono ?_
       rintro e w1 ⟨rfl,hb⟩
       rw[HM.out]
       have HB1:Hid (Below w.heap.size w w1):=(zAA _ _).trans (hb.mono (by simp))
       have HS1:Hid (w.heap.size+1≤w1.heap.size):=show w.heap.size+1≤w1.heap.size by simpa using hb.size
       have d10:w1.cell? ⟨w.heap.size,0,none⟩=some (.int .i64 c.kind):=(hb.cell (by simp)).trans (by simp)
       have d11:w1.cell? ⟨w.heap.size,1,none⟩=some (.slice a1 c.vars.length c1):=(hb.cell (by simp)).trans (by simp)
       have d12:w1.cell? ⟨w.heap.size,2,none⟩=some (.slice a2 c.consts.length c2):=(hb.cell (by simp)).trans (by simp)
       have d13:w1.cell? ⟨w.heap.size,3,none⟩=some (.int .i64 c.n):=(hb.cell (by simp)).trans (by simp)
       have d14:w1.cell? ⟨w.heap.size,4,none⟩=some (.slice a3 c.rows.length c3):=(hb.cell (by simp)).trans (by simp)
       have d15:w1.cell? ⟨w.heap.size,5,none⟩=some (.slice a4 c.lits.length c4):=(hb.cell (by simp)).trans (by simp)
       clear hb
       go_wp2_with fail
       refine (zHJ c _ _ _ _ _ (HK.out _ HB1.out) HL.out.1 HL.out.2.1 HL.out.2.2.1 HL.out.2.2.2).mono ?_
       rintro e w2 ⟨rfl,hb⟩
       rw[HF.out]
       have HB2:Hid (Below w.heap.size w w2):=HB1.out.trans (hb.mono HB1.out.size)
       have HS2:Hid (w.heap.size+1≤w2.heap.size):=Nat.le_trans HS1.out hb.size
       have d20:=(hb.cell (p:=⟨w.heap.size,0,none⟩) (by have:=HS1.out;simp only;omega)).trans d10
       have d21:=(hb.cell (p:=⟨w.heap.size,1,none⟩) (by have:=HS1.out;simp only;omega)).trans d11
       have d22:=(hb.cell (p:=⟨w.heap.size,2,none⟩) (by have:=HS1.out;simp only;omega)).trans d12
       have d23:=(hb.cell (p:=⟨w.heap.size,3,none⟩) (by have:=HS1.out;simp only;omega)).trans d13
       have d24:=(hb.cell (p:=⟨w.heap.size,4,none⟩) (by have:=HS1.out;simp only;omega)).trans d14
       have d25:=(hb.cell (p:=⟨w.heap.size,5,none⟩) (by have:=HS1.out;simp only;omega)).trans d15
       clear hb d10 d11 d12 d13 d14 d15
       go_wp2_with fail
       refine (zJy c n _ _ _ _ _ (HK.out _ HB2.out)).mono ?_
       rintro e w3 ⟨rfl,hb⟩
       rw[HV.out]
       have HB3:Hid (Below w.heap.size w w3):=HB2.out.trans (hb.mono HB2.out.size)
       have HS3:Hid (w.heap.size+1≤w3.heap.size):=Nat.le_trans HS2.out hb.size
       have d30:=(hb.cell (p:=⟨w.heap.size,0,none⟩) (by have:=HS2.out;simp only;omega)).trans d20
       have d31:=(hb.cell (p:=⟨w.heap.size,1,none⟩) (by have:=HS2.out;simp only;omega)).trans d21
       have d32:=(hb.cell (p:=⟨w.heap.size,2,none⟩) (by have:=HS2.out;simp only;omega)).trans d22
       have d33:=(hb.cell (p:=⟨w.heap.size,3,none⟩) (by have:=HS2.out;simp only;omega)).trans d23
       have d34:=(hb.cell (p:=⟨w.heap.size,4,none⟩) (by have:=HS2.out;simp only;omega)).trans d24
       have d35:=(hb.cell (p:=⟨w.heap.size,5,none⟩) (by have:=HS2.out;simp only;omega)).trans d25
       clear hb d20 d21 d22 d23 d24 d25
       go_wp2_with fail
       refine (zF3 c _ _ _ _ _ (HK.out _ HB3.out)).mono ?_
       rintro e w4 ⟨rfl,hb⟩
       rw[HC.out]
       have HB4:Hid (Below w.heap.size w w4):=HB3.out.trans (hb.mono HB3.out.size)
       have HS4:Hid (w.heap.size+1≤w4.heap.size):=Nat.le_trans HS3.out hb.size
       have d40:=(hb.cell (p:=⟨w.heap.size,0,none⟩) (by have:=HS3.out;simp only;omega)).trans d30
       have d41:=(hb.cell (p:=⟨w.heap.size,1,none⟩) (by have:=HS3.out;simp only;omega)).trans d31
       have d42:=(hb.cell (p:=⟨w.heap.size,2,none⟩) (by have:=HS3.out;simp only;omega)).trans d32
       have d43:=(hb.cell (p:=⟨w.heap.size,3,none⟩) (by have:=HS3.out;simp only;omega)).trans d33
       have d44:=(hb.cell (p:=⟨w.heap.size,4,none⟩) (by have:=HS3.out;simp only;omega)).trans d34
       have d45:=(hb.cell (p:=⟨w.heap.size,5,none⟩) (by have:=HS3.out;simp only;omega)).trans d35
       clear hb d30 d31 d32 d33 d34 d35
       go_wp2_with fail
       refine (zRL c.lits _ _ (HK.out _ HB4.out).2.2.2).mono ?_
       rintro e w5 ⟨rfl,hb⟩
       have HB5:Hid (Below w.heap.size w w5):=HB4.out.trans (hb.mono HB4.out.size)
       go_wp2
       go_ret
       exact⟨zAH HE.out.symm,HB5.out⟩
   ·rw[hm] at hR
    have HE:Hid (R=2):=hR.symm
    have HM:Hid (zF0 c=true):=hm
    clear hm hR
    go_enter Tryz.func85,Tryz.ntmps85
    go_wp2_with fail
    refine (zF2 c _ _ _ _ _ (HK.out _ (zAA _ _))).mono ?_
    rintro e w1 ⟨rfl,hb⟩
    rw[HM.out]
    have HB1:Hid (Below w.heap.size w w1):=(zAA _ _).trans (hb.mono (by simp))
    have HS1:Hid (w.heap.size+1≤w1.heap.size):=show w.heap.size+1≤w1.heap.size by simpa using hb.size
    have d10:w1.cell? ⟨w.heap.size,0,none⟩=some (.int .i64 c.kind):=(hb.cell (by simp)).trans (by simp)
    have d11:w1.cell? ⟨w.heap.size,1,none⟩=some (.slice a1 c.vars.length c1):=(hb.cell (by simp)).trans (by simp)
    have d12:w1.cell? ⟨w.heap.size,2,none⟩=some (.slice a2 c.consts.length c2):=(hb.cell (by simp)).trans (by simp)
    have d13:w1.cell? ⟨w.heap.size,3,none⟩=some (.int .i64 c.n):=(hb.cell (by simp)).trans (by simp)
    have d14:w1.cell? ⟨w.heap.size,4,none⟩=some (.slice a3 c.rows.length c3):=(hb.cell (by simp)).trans (by simp)
    have d15:w1.cell? ⟨w.heap.size,5,none⟩=some (.slice a4 c.lits.length c4):=(hb.cell (by simp)).trans (by simp)
    clear hb
    go_wp2
    go_ret
    exact⟨zAH HE.out.symm,HB1.out⟩
  ·rw[if_neg (fun h=>hhi h.2)] at hR
   have HE:Hid (R=7):=hR.symm
   clear hR
   go_enter Tryz.func85,Tryz.ntmps85
   go_wp2
   go_ret
   exact⟨zAH HE.out.symm,zAA _ _⟩
 ·rw[if_neg (fun h=>hlo h.1)] at hR
  have HE:Hid (R=7):=hR.symm
  clear hR
  go_enter Tryz.func85,Tryz.ntmps85
  go_wp2
  go_ret
  exact⟨zAH HE.out.symm,zAA _ _⟩
set_option maxHeartbeats 800000 in
set_option maxRecDepth 100000 in
theorem zRM (m:Mod) (vs cs:Value) (w:World) (hm:MArg w vs cs m) :
 Calls Tryz.prog 86 #[modV vs cs m] w fun e w'=>e=.returned (.int .i64 (zJx m))∧Below w.heap.size w w':=by
 obtain⟨⟨a1,c1,rfl,_,_⟩,⟨a2,c2,rfl,_,_⟩⟩:=hm
 obtain⟨R,hR⟩:∃R,zJx m=R:=⟨_,rfl⟩
 rw[hR]
 unfold zJx at hR
 unfold modV
 by_cases h0:m.goal=0
 ·rw[if_pos h0] at hR
  have g0:(m.goal==0)=true:=by simpa using h0
  by_cases hv:m.var=0
  ·rw[if_pos hv] at hR
   have HE:Hid (R=0):=hR.symm
   have v0:(m.var != 0)=false:=by simpa using hv
   clear hR h0 hv
   go_enter Tryz.func86,Tryz.ntmps86
   go_wp2
   go_ret
   exact⟨zAH HE.out.symm,zAA _ _⟩
  ·rw[if_neg hv] at hR
   have HE:Hid (R=1):=hR.symm
   have v0:(m.var != 0)=true:=by simpa using hv
   clear hR h0 hv
   go_enter Tryz.func86,Tryz.ntmps86
   go_wp2
   go_ret
   exact⟨zAH HE.out.symm,zAA _ _⟩
 ·rw[if_neg h0] at hR
  have g0:(m.goal==0)=false:=by simpa using h0
  by_cases h12:m.goal=1∨m.goal=2
  ·rw[if_pos h12] at hR
   cases hv:zBu m.var m.vars.length
   ·rw[hv] at hR
    have HE:Hid (R=5):=hR.symm
    have HV:Hid (zBu m.var m.vars.length=false):=hv
    clear hR h0 hv
    rcases h12 with h | h
    ·have g1:(m.goal==1)=true:=by simpa using h
     clear h
     go_enter Tryz.func86,Tryz.ntmps86
     go_wp2_with fail
     refine (zC5 _ _ _).mono ?_
     rintro e w2 ⟨rfl,hw2⟩
     rw[HV.out,hw2]
     clear hw2
     go_wp2
     go_ret
     exact⟨zAH HE.out.symm,zAA _ _⟩
    ·have g1:(m.goal==1)=false:=by simp[h]
     have g2:(m.goal==2)=true:=by simpa using h
     clear h
     go_enter Tryz.func86,Tryz.ntmps86
     go_wp2_with fail
     refine (zC5 _ _ _).mono ?_
     rintro e w2 ⟨rfl,hw2⟩
     rw[HV.out,hw2]
     clear hw2
     go_wp2
     go_ret
     exact⟨zAH HE.out.symm,zAA _ _⟩
   ·rw[hv] at hR
    have HE:Hid (R=0):=hR.symm
    have HV:Hid (zBu m.var m.vars.length=true):=hv
    clear hR h0 hv
    rcases h12 with h | h
    ·have g1:(m.goal==1)=true:=by simpa using h
     clear h
     go_enter Tryz.func86,Tryz.ntmps86
     go_wp2_with fail
     refine (zC5 _ _ _).mono ?_
     rintro e w2 ⟨rfl,hw2⟩
     rw[HV.out,hw2]
     clear hw2
     go_wp2
     go_ret
     exact⟨zAH HE.out.symm,zAA _ _⟩
    ·have g1:(m.goal==1)=false:=by simp[h]
     have g2:(m.goal==2)=true:=by simpa using h
     clear h
     go_enter Tryz.func86,Tryz.ntmps86
     go_wp2_with fail
     refine (zC5 _ _ _).mono ?_
     rintro e w2 ⟨rfl,hw2⟩
     rw[HV.out,hw2]
     clear hw2
     go_wp2
     go_ret
     exact⟨zAH HE.out.symm,zAA _ _⟩
  ·rw[if_neg h12] at hR
   have HE:Hid (R=7):=hR.symm
   have g1:(m.goal==1)=false:=by simpa using (fun h=>h12 (Or.inl h))
   have g2:(m.goal==2)=false:=by simpa using (fun h=>h12 (Or.inr h))
   clear hR h0 h12
   go_enter Tryz.func86,Tryz.ntmps86
   go_wp2
   go_ret
   exact⟨zAH HE.out.symm,zAA _ _⟩
def varL (m:Mod):List Int:=(List.range m.vars.length).map fun i=>varE (m.vars.take i) (m.vars.getD i ⟨ByteArray.empty,0,0⟩)
theorem zRN (m:Mod) (k:Nat) (t:MVar) (h:m.vars[k]? = some t):(varL m)[k]? = some (varE (m.vars.take k) t):=by
 have hk:k<m.vars.length:=(List.getElem?_eq_some_iff.1 h).1
 unfold varL
 rw[List.getElem?_map,List.getElem?_range hk]
 simp[List.getD,h]
theorem zRO (m:Mod):(varL m).length=m.vars.length:=by simp[varL]
def conL (m:Mod):List Int:=m.cons.map (conE m.vars.length)
theorem zRP (m:Mod) (k:Nat) (t:MCon) (h:m.cons[k]? = some t):(conL m)[k]? = some (conE m.vars.length t):=by simp[conL,h]
set_option maxHeartbeats 1600000 in
set_option maxRecDepth 100000 in
theorem zBU (m:Mod) (vs cs:Value) (w:World) (hm:MArg w vs cs m) :
 Calls Tryz.prog 40 #[modV vs cs m] w fun e w'=>e=.returned (.int .i64 (zAE m))∧Below w.heap.size w w':=by
 have HMA:Hid (∀w':World,Below w.heap.size w w'→MArg w' vs cs m):=fun w' h=>MArg.below h hm
 obtain⟨⟨a1,c1,rfl,hl1,hr1⟩,⟨a2,c2,rfl,hl2,hr2⟩⟩:=hm
 obtain⟨R,hR⟩:∃R,zAE m=R:=⟨_,rfl⟩
 rw[hR]
 unfold maxLen at hl1 hl2
 obtain⟨hl11,hl1⟩:=hl1
 obtain⟨hl21,hl2⟩:=hl2
 clear hr1 hr2
 unfold modV
 by_cases h0:m.vars.length=0
 ·have HE:Hid (R=1):=by rw[←hR];unfold zAE;rw[if_pos h0];rfl
  have g0:((m.vars.length:Int)==0)=true:=by simp[h0]
  clear hR h0
  go_enter Tryz.func40,Tryz.ntmps40
  go_wp2
  go_ret
  exact⟨zAH HE.out.symm,zAA _ _⟩
 ·have g0:((m.vars.length:Int)==0)=false:=by simpa using h0
  by_cases h6:6<m.vars.length
  ·have HE:Hid (R=2):=by rw[←hR];unfold zAE;rw[if_neg h0,if_pos (Or.inl h6)];rfl
   clear hR h0
   go_enter Tryz.func40,Tryz.ntmps40
   go_wp2
   go_ret
   exact⟨zAH HE.out.symm,zAA _ _⟩
  ·by_cases h8:8<m.cons.length
   ·have HE:Hid (R=2):=by rw[←hR];unfold zAE;rw[if_neg h0,if_pos (Or.inr h8)];rfl
    clear hR h0
    go_enter Tryz.func40,Tryz.ntmps40
    go_wp2
    go_ret
    exact⟨zAH HE.out.symm,zAA _ _⟩
   ·have HE:Hid (R=if zAi (varL m)=0 then (if zAi (conL m)=0 then zJx m else zAi (conL m)) else zAi (varL m)):=by
     rw[←hR];unfold zAE;rw[if_neg h0,if_neg (by omega)];rfl
    clear hR h0
    go_enter Tryz.func40,Tryz.ntmps40
    go_wp2
    obtain⟨w0,hw0⟩:∃w0:World,w0=w.alloc (.cells #[.slice a1 m.vars.length c1,.slice a2 m.cons.length c2,.int .i64 m.goal,.int .i64 m.var] 25):=⟨_,rfl⟩
    rw[←hw0]
    have HB0:Hid (Below w.heap.size w w0):=by rw[hw0];exact zAA _ _
    have HZ0:Hid (w0.heap.size=w.heap.size+1):=by show _=_;rw[hw0];simp
    have HD:Hid (w0.cell? ⟨w.heap.size,0,none⟩=some (.slice a1 m.vars.length c1)∧w0.cell? ⟨w.heap.size,1,none⟩=some (.slice a2 m.cons.length c2)∧w0.cell? ⟨w.heap.size,2,none⟩=some (.int .i64 m.goal)∧w0.cell? ⟨w.heap.size,3,none⟩=some (.int .i64 m.var)):=by
     rw[hw0];exact⟨by simp,by simp,by simp,by simp⟩
    clear hw0
    go_loopw [25] (fun i wr=>∃k:Nat,k≤m.vars.length∧i=.int .i64 k∧Hid (zAi ((varL m).take k)=0)∧Below w0.heap.size w0 wr) (fun i _=>m.vars.length - (intOf i).toNat)
    case atStart=>exact⟨0,by omega,rfl,rfl,Below.refl _ _⟩
    case round =>
     obtain⟨k,hk,rfl,hno,hbw⟩:=hrel
     have hlt0:w.heap.size<w0.heap.size:=by rw[HZ0.out];omega
     have d0:=(hbw.cell (p:=⟨w.heap.size,0,none⟩) hlt0).trans HD.out.1
     have d1:=(hbw.cell (p:=⟨w.heap.size,1,none⟩) hlt0).trans HD.out.2.1
     have d2:=(hbw.cell (p:=⟨w.heap.size,2,none⟩) hlt0).trans HD.out.2.2.1
     have d3:=(hbw.cell (p:=⟨w.heap.size,3,none⟩) hlt0).trans HD.out.2.2.2
     have HBW:Hid (Below w.heap.size w wr):=HB0.out.trans (hbw.mono (by omega))
     by_cases hlt:k<m.vars.length
     ·obtain⟨t,ht⟩:∃t,m.vars[k]? = some t:=⟨m.vars[k],by simp[hlt]⟩
      have HG:Hid ((varL m)[k]? = some (varE (m.vars.take k) t)):=zRN m k t ht
      have HT:Hid (m.vars[k]? = some t):=ht
      clear ht
      go_wp2_with fail
      refine (zPP m.vars _ k t _ (HMA.out _ HBW.out).1 HT.out).mono ?_
      rintro e w1 ⟨rfl,hb1⟩
      obtain⟨er,her⟩:∃er,varE (m.vars.take k) t=er:=⟨_,rfl⟩
      have HG2:Hid ((varL m)[k]? = some er):=by rw[←her];exact HG.out
      rw[her]
      clear her
      have hbt:Below w0.heap.size w0 w1:=hbw.trans (hb1.mono hbw.size)
      by_cases he:er=0
      ·subst he
       have HN:Hid (zAi ((varL m).take (k+1))=0):=zDU _ k hno.out HG2.out
       clear hb1
       go_wp2
       go_roundw
       case rel=>exact⟨k+1,by omega,by go_num,HN,hbt⟩
       case measure=>simp[intOf];omega
      ·have HN:Hid (R=er):=by
        have hf:=zD4 (varL m) k er hno.out HG2.out he
        rw[HE.out,hf,if_neg he];rfl
       have he2:(er != 0)=true:=by simpa using he
       clear hb1 he
       go_wp2
       go_ret
       exact⟨zAH HN.out.symm,HB0.out.trans (hbt.mono (by omega))⟩
     ·have HV:Hid (zAi (varL m)=0):=by
       have:=hno.out;rw[List.take_of_length_le (by rw[zRO];omega)] at this;exact this
      have HBO:Hid (Below w0.heap.size w0 wr):=hbw
      obtain⟨wo,rfl⟩:∃wo:World,wo=wr:=⟨_,rfl⟩
      go_wp2
      clear hk hno hbw hlt d0 d1 d2 d3
      go_loopw [39] (fun i wr=>∃k:Nat,k≤m.cons.length∧i=.int .i64 k∧Hid (zAi ((conL m).take k)=0)∧Below w0.heap.size w0 wr) (fun i _=>m.cons.length - (intOf i).toNat)
      case atStart=>exact⟨0,by omega,rfl,rfl,HBO.out⟩
      case round =>
       obtain⟨k,hk,rfl,hno,hbw⟩:=hrel
       have d0:=(hbw.cell (p:=⟨w.heap.size,0,none⟩) hlt0).trans HD.out.1
       have d1:=(hbw.cell (p:=⟨w.heap.size,1,none⟩) hlt0).trans HD.out.2.1
       have d2:=(hbw.cell (p:=⟨w.heap.size,2,none⟩) hlt0).trans HD.out.2.2.1
       have d3:=(hbw.cell (p:=⟨w.heap.size,3,none⟩) hlt0).trans HD.out.2.2.2
       have HB2:Hid (Below w.heap.size w wr):=HB0.out.trans (hbw.mono (by omega))
       by_cases hlt:k<m.cons.length
       ·obtain⟨t,ht⟩:∃t,m.cons[k]? = some t:=⟨m.cons[k],by simp[hlt]⟩
        have HG:Hid ((conL m)[k]? = some (conE m.vars.length t)):=zRP m k t ht
        obtain⟨a2',c2',hva,_,hrc⟩:=(HMA.out _ HB2.out).2
        obtain⟨b,off,vv,vc,vr,vl,ha,hb,e0,e1,e2,e3,e4,e5,hka⟩:=hrc k t ht
        have ha2:a2=some ⟨b,off,none⟩:=by cases hva;exact ha
        subst ha2
        have HKA:Hid (KArg wr vv vc vr vl t):=hka
        obtain⟨⟨q1,r1,rfl,_,_⟩,⟨q2,r2,rfl,_,_⟩,⟨q3,r3,rfl,_,_⟩,⟨q4,r4,rfl,_,_⟩⟩:=hka
        have hsz:=hbw.size
        have hlw:w.heap.size<wr.heap.size:=by omega
        clear ht hva hrc ha
        go_wp2_with fail
        refine (zSu t _ _ _ _ _ _ (KArg.below (zAA _ _) HKA.out)).mono ?_
        rintro e w1 ⟨rfl,hb1⟩
        obtain⟨er,her⟩:∃er,conE m.vars.length t=er:=⟨_,rfl⟩
        have HG2:Hid ((conL m)[k]? = some er):=by rw[←her];exact HG.out
        rw[her]
        clear her
        have hbt:Below w0.heap.size w0 w1:=(hbw.alloc hsz _).trans (hb1.mono (by simp;omega))
        by_cases he:er=0
        ·subst he
         have HN:Hid (zAi ((conL m).take (k+1))=0):=zDU _ k hno.out HG2.out
         clear hb1
         go_wp2
         go_roundw
         case rel=>exact⟨k+1,by omega,by go_num,HN,hbt⟩
         case measure=>simp[intOf];omega
        ·have HN:Hid (R=er):=by
          have hf:=zD4 (conL m) k er hno.out HG2.out he
          rw[HE.out,HV.out,if_pos rfl,hf,if_neg he];rfl
         have he2:(er != 0)=true:=by simpa using he
         clear hb1 he
         go_wp2
         go_ret
         exact⟨zAH HN.out.symm,HB0.out.trans (hbt.mono (by omega))⟩
       ·have HN:Hid (R=zJx m):=by
         have hc0:zAi (conL m)=0:=by have:=hno.out;rw[List.take_of_length_le (by simp[conL];omega)] at this;exact this
         rw[HE.out,HV.out,if_pos rfl,hc0,if_pos rfl];rfl
        go_wp2_with fail
        refine (zRM m _ _ _ (HMA.out _ HB2.out)).mono ?_
        rintro e w3 ⟨rfl,hb3⟩
        go_wp2
        go_ret
        exact⟨zAH HN.out.symm,HB2.out.trans (hb3.mono HB2.out.size)⟩
open Go.ChangeShapes Go.WideShapes Go.ChangeAt Go.RowKit Go.Deep
section
variable {H:Type} {enc:TypeId×Value→H} {w:World} {base:Nat} {spare:Nat→Bool} {held:Bool}
theorem zGd {α:Type} [Inhabited α] {t e:TypeId} {size:Nat} (ht:Tryz.prog.underlying t=some (.slice e)) (hc:Tryz.prog.cellsOf e=size) (hsz:0<size) (cellsOf:α→List Value) (good:α→Prop)
 (hel:∀(n:Nat) (cs':List Value) (x':DataW H×List MemPlace),DataW.trod enc Tryz.prog w base spare held n e cs'=some x'→∃a:α,cs'=cellsOf a∧good a)
 {fuel:Nat} {cs:List Value} {x:DataW H×List MemPlace} (h:DataW.trod enc Tryz.prog w base spare held fuel t cs=some x) :
 ∃(l:List α) (a:Option Addr) (c:Nat),cs=[.slice a l.length c]∧(l.length≤c∧c≤maxLen)∧∀(i:Nat) (y:α),l[i]? = some y→good y∧∃b off,a=some ⟨b,off,none⟩∧b<w.heap.size∧∀(j:Nat) (u:Value),(cellsOf y)[j]? = some u→w.cell? ⟨b,off+(i * size+j),none⟩=some u:=by
 rcases open_slice ht h with ⟨hcs,_⟩ | ⟨a,len,cap,m,n,D,Pl,hcs,_,hl,hcm,hmm,_,hx⟩
 ·exact⟨[],none,0,hcs,⟨Nat.le_refl _,Nat.zero_le _⟩,fun i y h=>by simp at h⟩
 ·have hlm:len≤m:=by rw[hmm];split <;> omega
  have each:∀i,i<len→∃y:α,good y∧(cellsOf y).length=size∧∀j u,(cellsOf y)[j]? = some u→w.cell? (a.add (i * size+j))=some u:=by
   intro i hi
   obtain⟨cs',hc',ht'⟩:=hx i (by omega)
   obtain⟨y,rfl,hg⟩:=hel n cs' _ ht'
   obtain⟨_,hlen,hcell⟩:=World.cells?_some hc'
   rw[hc] at hlen
   refine⟨y,hg,hlen,fun j u hj=>?_⟩
   have hj3:j<(cellsOf y).length:=(List.getElem?_eq_some_iff.1 hj).1
   have:=hcell j (by rw[hc,←hlen];exact hj3)
   rw[hc,add_add] at this
   rw[this];exact hj
  obtain⟨f,hf⟩:=choose_lt each
  refine⟨(List.range len).map f,some a,cap,by simpa using hcs,⟨by simpa using hl,hcm⟩,fun i y hy=>?_⟩
  have hi:i<len:=by have:=(List.getElem?_eq_some_iff.1 hy).1;simpa using this
  have hyf:y=f i:=by simp[hi] at hy;exact hy.symm
  subst hyf
  obtain⟨hg,hlen,hcell⟩:=hf i hi
  obtain⟨_,hlen0,hcell0⟩:=hf 0 (by omega)
  obtain⟨u0,hu0⟩:∃u0,(cellsOf (f 0))[0]? = some u0:=⟨(cellsOf (f 0))[0]'(by omega),by simp⟩
  have h00:=hcell0 0 u0 hu0
  have hspot:a.spot=none:=by simpa[Addr.add] using World.cell?_spot h00
  have hblk:a.block<w.heap.size:=by simpa[Addr.add] using World.block_lt_of_cell? w _ h00
  refine⟨hg,a.block,a.off,?_,hblk,fun j u hj=>?_⟩
  ·obtain⟨b,off,spot⟩:=a;simp only at hspot;subst hspot;rfl
  ·have:=hcell j u hj
   obtain⟨b,off,spot⟩:=a;simp only at hspot;subst hspot
   rwa [add_plain] at this
theorem Tryz.cInt:Tryz.prog.cellsOf 3=1:=by kernel_rfl
theorem Tryz.cLit:Tryz.prog.cellsOf 88=3:=by kernel_rfl
theorem zIm {fuel:Nat} {cs:List Value} {x:DataW H×List MemPlace} (h:DataW.trod enc Tryz.prog w base spare held fuel 26 cs=some x) :
 ∃v l,cs=[v]∧IArg w v l:=by
 obtain⟨l,a,c,hcs,hm,hr⟩:=zGd (α:=Int) Tryz.underlying26 Tryz.cInt (by decide) (fun z=>[.int .i64 z]) (fun _=>True)
  (fun n cs' x' h'=>by obtain⟨z,hz,_,_⟩:=DataW.trod_int Tryz.underlying3 h';exact⟨z,hz,trivial⟩) h
 refine⟨_,l,hcs,a,c,rfl,hm,fun i z hz=>?_⟩
 obtain⟨_,b,off,ha,hb,hc⟩:=hr i z hz
 have:=hc 0 _ rfl
 exact⟨b,off,ha,hb,by simpa using this⟩
set_option maxRecDepth 100000 in
theorem zSv {n:Nat} {cs:List Value} {x:DataW H×List MemPlace} (h:DataW.trod enc Tryz.prog w base spare held n 88 cs=some x) :
 ∃t:MLit,cs=[.int .i64 t.var,.int .i64 t.op,.int .i64 t.n]:=by
 obtain⟨y0,y1,y2,m,_,hl,h0,h1,h2⟩:=trod_struct3 Tryz.underlying88 h
 rw[Tryz.cLit] at hl
 obtain⟨k,hk,_,_⟩:=DataW.trod_int Tryz.underlying3 h0
 obtain⟨p,hp,_,_⟩:=DataW.trod_int Tryz.underlying3 h1
 obtain⟨s,hs,_,_⟩:=DataW.trod_int Tryz.underlying3 h2
 match cs,hl with
 | [c0,c1,c2],_ =>
   change List.take (Tryz.prog.cellsOf 3) [c0,c1,c2]=_ at hk
   change List.take (Tryz.prog.cellsOf 3) [c1,c2]=_ at hp
   change List.take (Tryz.prog.cellsOf 3) [c2]=_ at hs
   rw[Tryz.cInt] at hk hp hs
   simp at hk hp hs
   exact⟨⟨k,p,s⟩,by rw[hk,hp,hs]⟩
end
end Go.Proofs.YtdjbejlbmaiocagGreatDoor
