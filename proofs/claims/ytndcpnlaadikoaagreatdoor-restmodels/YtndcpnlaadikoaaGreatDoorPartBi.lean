/- What the proof leans on, part 35. -/
import Derived.Test.YtndcpnlaadikoaaGreatDoorPartBh
import Derived.Test.YtndcpnlaadikoaaGreatDoorPartBg
import Derived.Test.YtndcpnlaadikoaaGreatDoorPartAm
import Derived.Test.YtndcpnlaadikoaaGreatDoorPartAl
import Derived.Test.YtndcpnlaadikoaaGreatDoorPartAo
import Derived.Test.YtndcpnlaadikoaaGreatDoorPartAy
import Derived.Test.YtndcpnlaadikoaaGreatDoorPartAx
import Derived.Test.YtndcpnlaadikoaaGreatDoorPartAw
set_option maxRecDepth 100000
set_option maxHeartbeats 3200000
namespace Go.Proofs.YtndcpnlaadikoaaGreatDoor
open Go.RowKit
theorem zP3 (w:World) (v o n:Int) (B:Nat) (hB:B=w.heap.size):LArg (w.alloc (.cells #[.int .i64 v,.int .i64 o,.int .i64 n] 76)) (.slice (some ⟨B,0,none⟩) 1 1) [⟨v,o,n⟩]:=by
 subst hB;refine⟨_,1,rfl,⟨by simp,by unfold maxLen;omega⟩,fun i t ht=>?_⟩
 match i,ht with
 | 0,ht =>
   cases ht
   exact⟨_,0,rfl,by simp,World.cell?_alloc_at _ _ _ 0 (by simp),World.cell?_alloc_at _ _ _ 1 (by simp),World.cell?_alloc_at _ _ _ 2 (by simp)⟩
theorem zJC (w:World) (a b:Int) (B:Nat) (hB:B=w.heap.size):IArg (w.alloc (.cells #[.int .i64 a,.int .i64 b] 3)) (.slice (some ⟨B,0,none⟩) 2 2) [a,b]:=by
 subst hB;refine⟨_,2,rfl,⟨by simp,by unfold maxLen;omega⟩,fun i z hz=>?_⟩
 match i,hz with
 | 0,hz =>
   cases hz
   exact⟨_,0,rfl,by simp,World.cell?_alloc_at _ _ _ 0 (by simp)⟩
 | 1,hz =>
   cases hz
   exact⟨_,0,rfl,by simp,World.cell?_alloc_at _ _ _ 1 (by simp)⟩
theorem zNH {w w':World} (h:∃n,w'=w.drewN n):Below w.heap.size w w':=by
 obtain⟨n,rfl⟩:=h;exact⟨rfl,rfl,rfl,Nat.le_refl _,fun _ _=>rfl⟩
theorem zOH (w:World) (hT:TabT w) :
 Calls Tryz.prog 22 #[] w fun e w'=>e=.returned (.bool true)∧Below w.heap.size w w':=by
 have HT:Hid (∀w',Below w.heap.size w w'→TabT w'):=fun w' h=>hT.below h
 obtain⟨P,hP,hPl⟩:=zSl;have HP:Hid (zH5 twoM 20=(⟨1,[0,1],P⟩,0)):=hP;clear hT hP;go_enter Tryz.func22,Tryz.ntmps22
 go_wp2_with fail
 refine (zCN _).mono ?_;rintro e w1 ⟨vs,cs,rfl,hm,hb1⟩;have HM:Hid (MArg w1 vs cs twoM):=hm;have HA1:Hid (Below w.heap.size w w1):=hb1;clear hm hb1;go_wp2_with fail
 refine (zL5 twoM [0,2] vs cs _ _ (MArg.below (zAA _ _) HM.out) (zJC w1 0 2 _ rfl)).mono ?_;rintro e w2 ⟨x,rfl,hx,hb2⟩;rw[zTX] at hx ⊢
 dsimp only at hx ⊢
 have HX:Hid (∀Y,Below w2.heap.size w2 Y→LArg Y x [⟨1,1,1⟩]):=fun Y hY=>LArg.below hY hx.arg
 have HA2:Hid (Below w.heap.size w w2):=(HA1.out.alloc HA1.out.size _).trans (hb2.mono (by have:=HA1.out.size;simp;omega))
 obtain⟨ax,cx,hxe⟩:=zAC (show w2.ownsRow _ _ _ _ _ _ from hx)
 subst hxe;clear hx hb2 HM;go_wp2_with fail
 refine (zCN _).mono ?_;rintro e w3 ⟨vs,cs,rfl,hm,hb3⟩;have HM:Hid (MArg w3 vs cs twoM):=hm;have HX3:Hid (Below w2.heap.size w2 w3):=hb3;have HA3:Hid (Below w.heap.size w w3):=HA2.out.trans (hb3.mono HA2.out.size);clear hm hb3;go_wp2_with fail
 refine (zNG twoM 20 vs cs _ HM.out (HT.out _ HA3.out)).mono ?_;rintro e w4 ⟨vv,pp,rfl,hq,hb4⟩;rw[HP.out] at hq ⊢
 dsimp only at hq ⊢
 obtain⟨L,hst,hLe⟩:=hq.prf;simp only at hLe;have hLl:0<L.length:=by have:=congrArg List.length hLe;rw[List.length_map] at this;omega
 obtain⟨av,cv,rfl⟩:=zAC hq.val;obtain⟨ap,cp,rfl⟩:=zAC hst.1;have HV:Hid (∀Y,Below w4.heap.size w4 Y→IArg Y (.slice av [0,1].length cv) [0,1]):=fun Y hY=>IArg.below hY (zFk hq.val)
 have HX4:Hid (Below w2.heap.size w2 w4):=HX3.out.trans (hb4.mono HX3.out.size);have HA4:Hid (Below w.heap.size w w4):=HA3.out.trans (hb4.mono HA3.out.size);have hLl2:(0:Int)<(L.length:Int):=by omega
 have hLl3:¬L=[]:=fun h=>by rw[h] at hLl;cases hLl
 clear hq hb4 hst hLe HM HP hPl;go_wp2_with fail
 have hb5:Below w4.heap.size w4 (w4.alloc (.cells #[.int .i64 1,.slice av 2 cv,.slice ap L.length cp] 53)):=zAA _ _;have hbl5:=heap_alloc_new w4 (.cells #[.int .i64 1,.slice av 2 cv,.slice ap L.length cp] 53);obtain⟨W5,hW5⟩:∃W5,w4.alloc (.cells #[.int .i64 1,.slice av 2 cv,.slice ap L.length cp] 53)=W5:=⟨_,rfl⟩;have hsz5:W5.heap.size=w4.heap.size+1:=by rw[←hW5];simp
 rw[hW5] at hb5 hbl5 ⊢;refine (zFy [⟨1,1,1⟩] _ _ _ (HX.out _ ((HX4.out.trans (hb5.mono HX4.out.size)).alloc (by have:=HX4.out.size;omega) _)) (zP3 W5 1 1 1 _ hsz5.symm)).mono ?_
 rintro e w6 ⟨rfl,hd6⟩;have hB6:Below W5.heap.size W5 w6:=(zAA _ _).trans ((zNH hd6).mono (by simp))
 have HBL6:Hid (w6.heap[w4.heap.size]? = some (.cells #[.int .i64 1,.slice av 2 cv,.slice ap L.length cp] 53)):=(hB6.block _ (by omega)).trans hbl5
 have HB6:Hid (Below w4.heap.size w4 w6):=hb5.trans (hB6.mono (by omega))
 have k0:=blk9 HBL6.out 0 _ rfl;have k1:=blk9 HBL6.out 1 _ rfl;have k2:=blk9 HBL6.out 2 _ rfl;have kl:=(Array.getElem?_eq_some_iff.1 HBL6.out).1;clear hd6 hB6 hsz5 hW5 hb5 hbl5;go_wp2_with fail
 refine (zCG [0,1] [0,1] _ _ _ (HV.out _ (HB6.out.alloc HB6.out.size _)) (zJC w6 0 1 _ rfl)).mono ?_;rintro e w7 ⟨rfl,hd7⟩;have hB7:Below w6.heap.size w6 w7:=(zAA _ _).trans ((zNH hd7).mono (by simp))
 have j2:=(hB7.cell (p:=⟨w4.heap.size,2,none⟩) kl).trans k2;have jl:w4.heap.size<w7.heap.size:=Nat.lt_of_lt_of_le kl hB7.size;have HB7:Hid (Below w.heap.size w w7):=HA4.out.trans ((HB6.out.trans (hB7.mono HB6.out.size)).mono HA4.out.size);rw[show (decide (([0,1]:List Int)=[0,1]))=true from rfl]
 clear hd7 hB7 k0 k1 k2;go_wp2
 go_ret
 exact⟨rfl,HB7.out⟩
def zDV (w:World) (v:Value) (l:List Cla):Prop :=
 ∃a c,v=.slice a l.length c∧(l.length≤c∧c≤maxLen)∧∀(i:Nat) (t:Cla),l[i]? = some t→∃b off x,a=some ⟨b,off,none⟩∧b<w.heap.size∧w.cell? ⟨b,off+i,none⟩=some x∧LArg w x t
theorem zDV.below {w w':World} {v:Value} {l:List Cla} (hb:Below w.heap.size w w') (h:zDV w v l):zDV w' v l:=by
 obtain⟨a,c,hv,hm,hr⟩:=h;refine⟨a,c,hv,hm,fun i z hz=>?_⟩
 obtain⟨b,off,x,ha,hlt,hc,hx⟩:=hr i z hz;exact⟨b,off,x,ha,Nat.lt_of_lt_of_le hlt hb.size,(hb.cell (p:=⟨b,off+i,none⟩) hlt).trans hc,LArg.below hb hx⟩
theorem zP4 (vs:List MVar) (l:MLit) (v:Value) (w:World) (hv:VArg w v vs) :
 Calls Tryz.prog 192 #[v,.agg #[.int .i64 l.var,.int .i64 l.op,.int .i64 l.n]] w fun e w'=>e=.returned (.int .i64 (litE vs l))∧Below w.heap.size w w':=by
 obtain⟨a,c,rfl,hm,_⟩:=hv;unfold maxLen at hm;obtain⟨hm1,hm⟩:=hm;obtain⟨R,hR⟩:∃R,litE vs l=R:=⟨_,rfl⟩;rw[hR];unfold litE at hR;by_cases q1:l.var<0
 ·have HE:Hid (R=5):=by rw[←hR,if_pos (Or.inl q1)];rfl
  clear hR;go_enter Tryz.func192,Tryz.ntmps192
  go_wp2
  go_ret
  exact⟨zAI HE.out.symm,zAA _ _⟩
 by_cases q2:(vs.length:Int)≤l.var
 ·have HE:Hid (R=5):=by rw[←hR,if_pos (Or.inr q2)];rfl
  clear hR;go_enter Tryz.func192,Tryz.ntmps192
  go_wp2
  go_ret
  exact⟨zAI HE.out.symm,zAA _ _⟩
 rw[if_neg (by omega)] at hR
 by_cases q3:l.op<1
 ·have HE:Hid (R=7):=by rw[←hR,if_pos (Or.inl q3)];rfl
  clear hR;go_enter Tryz.func192,Tryz.ntmps192
  go_wp2
  go_ret
  exact⟨zAI HE.out.symm,zAA _ _⟩
 by_cases q4:4<l.op
 ·have HE:Hid (R=7):=by rw[←hR,if_pos (Or.inr q4)];rfl
  clear hR;go_enter Tryz.func192,Tryz.ntmps192
  go_wp2
  go_ret
  exact⟨zAI HE.out.symm,zAA _ _⟩
 rw[if_neg (by omega)] at hR
 by_cases q5:l.n < -1000
 ·have HE:Hid (R=3):=by rw[←hR,if_pos (Or.inl q5)];rfl
  clear hR;go_enter Tryz.func192,Tryz.ntmps192
  go_wp2
  go_ret
  exact⟨zAI HE.out.symm,zAA _ _⟩
 by_cases q6:1000<l.n
 ·have HE:Hid (R=3):=by rw[←hR,if_pos (Or.inr q6)];rfl
  clear hR;go_enter Tryz.func192,Tryz.ntmps192
  go_wp2
  go_ret
  exact⟨zAI HE.out.symm,zAA _ _⟩
 have HE:Hid (R=0):=by rw[←hR,if_neg (by omega)];rfl
 clear hR;go_enter Tryz.func192,Tryz.ntmps192
 go_wp2
 go_ret
 exact⟨zAI HE.out.symm,zAA _ _⟩
theorem zF1 (vs:List MVar) (c:Cla) (v u:Value) (w:World) (hv:VArg w v vs) (hu:LArg w u c) :
 Calls Tryz.prog 118 #[v,u] w fun e w'=>e=.returned (.int .i64 (claE vs c))∧Below w.heap.size w w':=by
 have HVA:Hid (∀w':World,Below w.heap.size w w'→VArg w' v vs):=fun w' h=>VArg.below h hv
 obtain⟨a1,c1,rfl,_,_⟩:=hv;obtain⟨a,cc,rfl,hm,hr⟩:=hu;have HV:Hid (∀(i:Nat) (t:MLit),c[i]? = some t→∃b off,a=some ⟨b,off,none⟩∧b<w.heap.size ∧
  w.cell? ⟨b,off+i * 3,none⟩=some (.int .i64 t.var)∧w.cell? ⟨b,off+i * 3+1,none⟩=some (.int .i64 t.op)∧w.cell? ⟨b,off+i * 3+2,none⟩=some (.int .i64 t.n)):=hr
 unfold maxLen at hm;obtain⟨hm1,hm⟩:=hm;obtain⟨R,hR⟩:∃R,claE vs c=R:=⟨_,rfl⟩;rw[hR];have HE:Hid (R=if 40<c.length then 2 else zAj (c.map (litE vs))):=by rw[←hR];rfl
 clear hR hr;by_cases h40:40<c.length
 ·have HN:Hid (R=2):=by rw[HE.out,if_pos h40];rfl
  go_enter Tryz.func118,Tryz.ntmps118
  go_wp2
  go_ret
  exact⟨zAI HN.out.symm,Below.refl _ _⟩
 ·have HE2:Hid (R=zAj (c.map (litE vs))):=by rw[HE.out,if_neg h40];rfl
  go_enter Tryz.func118,Tryz.ntmps118
  go_wp2_with fail
  go_loopw [13] (fun i wr=>∃k:Nat,k≤c.length∧i=.int .i64 k∧Hid (zAj ((c.map (litE vs)).take k)=0)∧Below w.heap.size w wr) (fun i _=>c.length - (intOf i).toNat)
  case atStart=>exact⟨0,by omega,rfl,rfl,Below.refl _ _⟩
  case round =>
   obtain⟨k,hk,rfl,hall,hbw⟩:=hrel;by_cases hlt:k<c.length
   ·obtain⟨t,hz⟩:∃z,c[k]? = some z:=⟨c[k],by simp[hlt]⟩
    obtain⟨b,off,ha,hb,q0,q1,q2⟩:=HV.out k t hz;have hc0:=(hbw.cell (p:=⟨b,off+k * 3,none⟩) hb).trans q0;have hc1:=(hbw.cell (p:=⟨b,off+k * 3+1,none⟩) hb).trans q1;have hc2:=(hbw.cell (p:=⟨b,off+k * 3+2,none⟩) hb).trans q2;have hsz:=hbw.size;subst ha;obtain⟨er,her⟩:∃er,litE vs t=er:=⟨_,rfl⟩;have HER:Hid (litE vs t=er):=her;have HZ:Hid ((c.map (litE vs))[k]? = some er):=by show _=_;rw[List.getElem?_map,hz,←her];rfl
    clear hz q0 q1 q2 her;go_wp2_with fail
    refine (zP4 vs t _ _ ?_).mono ?_
    ·exact HVA.out _ (hbw.alloc hsz _)
    rintro e w2 ⟨rfl,hb2⟩;rw[HER.out];have hB2:Below w.heap.size w w2:=(hbw.alloc hsz _).trans (hb2.mono (by simp;omega))
    clear hb2;by_cases he:er=0
    ·subst he
     have HN:Hid (zAj ((c.map (litE vs)).take (k+1))=0):=zDF _ k hall.out HZ.out;go_wp2
     go_roundw
     case rel=>exact⟨k+1,by omega,by go_num,HN,hB2⟩
     case measure=>simp[intOf];omega
    ·have HN:Hid (R=er):=by rw[HE2.out];exact zDm _ k er hall.out HZ.out he
     have he2:(er != 0)=true:=by simpa using he
     clear he;go_wp2
     go_ret
     exact⟨zAI HN.out.symm,hB2⟩
   ·have HN:Hid (R=0):=by
     have:=hall.out;rw[List.take_of_length_le (by simp;omega)] at this
     rw[HE2.out];exact this
    go_wp2
    go_ret
    exact⟨zAI HN.out.symm,hbw⟩
theorem zJD (vs:List MVar) (l:List Cla) (v u:Value) (w:World) (hv:VArg w v vs) (hu:zDV w u l) :
 Calls Tryz.prog 121 #[v,u] w fun e w'=>e=.returned (.int .i64 (zEK vs l))∧Below w.heap.size w w':=by
 have HVA:Hid (∀w':World,Below w.heap.size w w'→VArg w' v vs):=fun w' h=>VArg.below h hv
 obtain⟨a1,c1,rfl,_,_⟩:=hv;obtain⟨a,cc,rfl,hm,hr⟩:=hu;have HV:Hid (∀(i:Nat) (t:Cla),l[i]? = some t→∃b off x,a=some ⟨b,off,none⟩∧b<w.heap.size∧w.cell? ⟨b,off+i,none⟩=some x∧LArg w x t):=hr;unfold maxLen at hm;obtain⟨hm1,hm⟩:=hm;obtain⟨R,hR⟩:∃R,zEK vs l=R:=⟨_,rfl⟩;rw[hR];have HE:Hid (R=if 600<l.length then 2 else zAj (l.map (claE vs))):=by rw[←hR];rfl
 clear hR hr;by_cases h40:600<l.length
 ·have HN:Hid (R=2):=by rw[HE.out,if_pos h40];rfl
  go_enter Tryz.func121,Tryz.ntmps121
  go_wp2
  go_ret
  exact⟨zAI HN.out.symm,Below.refl _ _⟩
 ·have HE2:Hid (R=zAj (l.map (claE vs))):=by rw[HE.out,if_neg h40];rfl
  go_enter Tryz.func121,Tryz.ntmps121
  go_wp2_with fail
  go_loopw [13] (fun i wr=>∃k:Nat,k≤l.length∧i=.int .i64 k∧Hid (zAj ((l.map (claE vs)).take k)=0)∧Below w.heap.size w wr) (fun i _=>l.length - (intOf i).toNat)
  case atStart=>exact⟨0,by omega,rfl,rfl,Below.refl _ _⟩
  case round =>
   obtain⟨k,hk,rfl,hall,hbw⟩:=hrel;by_cases hlt:k<l.length
   ·obtain⟨t,hz⟩:∃z,l[k]? = some z:=⟨l[k],by simp[hlt]⟩
    obtain⟨b,off,x,ha,hb,q0,hx⟩:=HV.out k t hz;have HX:Hid (LArg wr x t):=LArg.below hbw hx;obtain⟨a5,c5,rfl,_,_⟩:=hx;have hc0:=(hbw.cell (p:=⟨b,off+k,none⟩) hb).trans q0;subst ha;obtain⟨er,her⟩:∃er,claE vs t=er:=⟨_,rfl⟩;have HER:Hid (claE vs t=er):=her;have HZ:Hid ((l.map (claE vs))[k]? = some er):=by show _=_;rw[List.getElem?_map,hz,←her];rfl
    clear hz q0 her;go_wp2_with fail
    refine (zF1 vs t _ _ _ (HVA.out _ hbw) HX.out).mono ?_;rintro e w2 ⟨rfl,hb2⟩;rw[HER.out];have hB2:Below w.heap.size w w2:=hbw.trans (hb2.mono hbw.size);clear hb2;by_cases he:er=0
    ·subst he
     have HN:Hid (zAj ((l.map (claE vs)).take (k+1))=0):=zDF _ k hall.out HZ.out;go_wp2
     go_roundw
     case rel=>exact⟨k+1,by omega,by go_num,HN,hB2⟩
     case measure=>simp[intOf];omega
    ·have HN:Hid (R=er):=by rw[HE2.out];exact zDm _ k er hall.out HZ.out he
     have he2:(er != 0)=true:=by simpa using he
     clear he;go_wp2
     go_ret
     exact⟨zAI HN.out.symm,hB2⟩
   ·have HN:Hid (R=0):=by
     have:=hall.out;rw[List.take_of_length_le (by simp;omega)] at this
     rw[HE2.out];exact this
    go_wp2
    go_ret
    exact⟨zAI HN.out.symm,hbw⟩
theorem zJs (m:Mod) (hm:zAG m=0) (c:Cla):zAH m.vars c<2 ^ 36:=zFi m.vars (zAy m hm) _
theorem Tryz.infoPartP:(Tryz.prog.info? 136).map (fun i=>(i.zero,i.size,i.bytes))=some (some (.int .u64 0),1,8):=by kernel_rfl
theorem zP5 (w:World) (n base:Nat) (hn:n≤100000) (hb:base≤w.heap.size):(w.alloc (.cells (madeCells #[.int .u64 0] n) 136)).ownsRow base 136 1 (.slice (some ⟨w.heap.size,0,none⟩) n n) n (List.replicate n (.int .u64 0)):=by
 refine⟨by simp,Or.inr ⟨w.heap.size,n,_,rfl,hb,heap_alloc_new w _,Nat.le_refl _,by unfold maxLen;omega,?_,?_⟩⟩
 ·have h:=congrArg List.length (toList_madeCells_one (.int .u64 0) n)
  simp at h;simpa using h
 ·rw[toList_madeCells_one]
  simp
theorem zK0 (m:Mod) (hm:zAG m=0) (l:List Cla) (hl6:l.length≤600) (vs cs u:Value) (w:World) (hma:MArg w vs cs m) (hu:zDV w u l) :
 Calls Tryz.prog 122 #[modV vs cs m,u] w fun e w'=>∃x,e=.returned x∧w'.ownsRow (w.heap.size+1) 136 1 x l.length (u64s (l.map (zAH m.vars)))∧Below w.heap.size w w':=by
 have HMA:Hid (∀w',Below w.heap.size w w'→MArg w' vs cs m):=fun w' h=>MArg.below h hma
 have HM:Hid (zAG m=0):=hm;have hmk:=run_make_row' (P:=Tryz.prog) 139 136 (.int .u64 0) 8 Tryz.underParts Tryz.infoPartP rfl .i64 .i64 l.length (by omega) (by omega)
 obtain⟨⟨a1,c1,rfl,_,_⟩,⟨a2,c2,rfl,_,_⟩⟩:=hma;obtain⟨a3,c3,rfl,hm3,hr3⟩:=hu;have HR3:Hid (∀(i:Nat) (t:Cla),l[i]? = some t→∃b off x,a3=some ⟨b,off,none⟩∧b<w.heap.size∧w.cell? ⟨b,off+i,none⟩=some x∧LArg w x t):=hr3;unfold maxLen at hm3;obtain⟨hm31,hm3⟩:=hm3;unfold modV;clear hm hr3;go_enter Tryz.func122,Tryz.ntmps122
 go_wp2_with fail
 clear hmk;have HB0:Hid (Below w.heap.size w ((w.alloc (.cells #[.slice a1 m.vars.length c1,.slice a2 m.cons.length c2,.int .i64 m.goal,.int .i64 m.var] 25)).alloc (.cells (madeCells #[.int .u64 0] l.length) 136))):=(zAA _ _).alloc (by simp) _
 have HQ0:Hid (((w.alloc (.cells #[.slice a1 m.vars.length c1,.slice a2 m.cons.length c2,.int .i64 m.goal,.int .i64 m.var] 25)).alloc (.cells (madeCells #[.int .u64 0] l.length) 136)).cell? ⟨w.heap.size,0,none⟩=some (.slice a1 m.vars.length c1)) :=
  (World.cell?_alloc_past _ _ _ (by simp)).trans (World.cell?_alloc_at _ _ _ 0 (by simp))
 have HO0:Hid (((w.alloc (.cells #[.slice a1 m.vars.length c1,.slice a2 m.cons.length c2,.int .i64 m.goal,.int .i64 m.var] 25)).alloc (.cells (madeCells #[.int .u64 0] l.length) 136)).ownsRow (w.heap.size+1) 136 1 (.slice (some ⟨w.heap.size+1,0,none⟩) l.length l.length) l.length (List.replicate l.length (.int .u64 0))):=by
  have h:=zP5 (w.alloc (.cells #[.slice a1 m.vars.length c1,.slice a2 m.cons.length c2,.int .i64 m.goal,.int .i64 m.var] 25)) l.length (w.heap.size+1) (by omega) (by simp)
  show World.ownsRow _ _ _ _ _ _ _;simpa using h
 have HS0:Hid (((w.alloc (.cells #[.slice a1 m.vars.length c1,.slice a2 m.cons.length c2,.int .i64 m.goal,.int .i64 m.var] 25)).alloc (.cells (madeCells #[.int .u64 0] l.length) 136)).heap.size=w.heap.size+2):=by show _=_;simp
 obtain⟨W,hW⟩:∃W,(w.alloc (.cells #[.slice a1 m.vars.length c1,.slice a2 m.cons.length c2,.int .i64 m.goal,.int .i64 m.var] 25)).alloc (.cells (madeCells #[.int .u64 0] l.length) 136)=W:=⟨_,rfl⟩;rw[hW] at HB0 HQ0 HO0 HS0 ⊢;clear hW;go_loopw [13] (fun i wr=>∃(k:Nat) (cells:List Value),k≤l.length∧i=.int .i64 k∧wr.ownsRow (w.heap.size+1) 136 1 (.slice (some ⟨w.heap.size+1,0,none⟩) l.length l.length) l.length cells∧Hid (∀j c,j<k→l[j]? = some c→cells[j]? = some (.int .u64 ((zAH m.vars c:Nat):Int)))∧Below (w.heap.size+1) W wr) (fun i _=>l.length - (intOf i).toNat)
 case atStart=>exact⟨0,_,by omega,rfl,HO0.out,fun j c h=>by omega,Below.refl _ _⟩
 case round =>
  obtain⟨k,cells,hk,rfl,hown,hall,hbw⟩:=hrel;have HOW:Hid (wr.ownsRow (w.heap.size+1) 136 1 (.slice (some ⟨w.heap.size+1,0,none⟩) l.length l.length) l.length cells):=hown;have HBW:Hid (Below (w.heap.size+1) W wr):=hbw;have HBN:Hid (Below w.heap.size w wr):=HB0.out.trans (hbw.mono (by omega))
  have hq0:=(hbw.cell (p:=⟨w.heap.size,0,none⟩) (by simp only;omega)).trans HQ0.out
  clear hown hbw;by_cases hlt:k<l.length
  ·obtain⟨c,hc⟩:∃c,l[k]? = some c:=⟨l[k],by simp[hlt]⟩
   obtain⟨b,off,x,hax,hb,hcc0,hxa⟩:=HR3.out k c hc;subst hax;have hcc:=(HBN.out.cell (p:=⟨b,off+k,none⟩) hb).trans hcc0;have HXA:Hid (LArg wr x c):=LArg.below HBN.out hxa;obtain⟨ax,cx,rfl,_,_⟩:=hxa;have HCK:Hid (l[k]? = some c):=hc;have hlen:cells.length=l.length:=by have:=HOW.out.1;omega
   have HLEN:Hid (cells.length=l.length):=hlen;clear hc hlen hcc0 hb;obtain⟨wo,rfl⟩:∃wo:World,wo=wr:=⟨_,rfl⟩;go_wp2_with fail
   refine (zCm m.vars (zBg m HM.out) c _ _ _ (HMA.out _ HBN.out).1 HXA.out).mono ?_;rintro e w1 ⟨rfl,hb1⟩;have HOW1:Hid (w1.ownsRow (w.heap.size+1) 136 1 (.slice (some ⟨w.heap.size+1,0,none⟩) l.length l.length) l.length cells):=zAB HOW.out hb1;have HBW1:Hid (Below (w.heap.size+1) W w1):=HBW.out.trans (hb1.mono (by have:=HBW.out.size;have:=HS0.out;omega))
   obtain⟨y,hy⟩:∃y,cells[k]? = some y:=⟨cells[k]'(by rw[HLEN.out];exact hlt),by simp⟩
   have cN:w1.cell? ⟨w.heap.size+1,k,none⟩=some y:=by rw[HOW1.out.cellAt k (by omega)];exact hy
   have zN:=HOW1.out.frozenAt k;have HST:Hid ((w1.setCell ⟨w.heap.size+1,k,none⟩ (.int .u64 ((zAH m.vars c:Nat):Int))).ownsRow (w.heap.size+1) 136 1 (.slice (some ⟨w.heap.size+1,0,none⟩) l.length l.length) l.length (cells.set k (.int .u64 ((zAH m.vars c:Nat):Int)))):=(HOW1.out.stored k _).1;have HBS:Hid (Below (w.heap.size+1) W (w1.setCell ⟨w.heap.size+1,k,none⟩ (.int .u64 ((zAH m.vars c:Nat):Int)))):=HBW1.out.setCell (show w.heap.size+1≤w.heap.size+1 from Nat.le_refl _) _
   have HAL:Hid (∀j d,j<k+1→l[j]? = some d→(cells.set k (.int .u64 ((zAH m.vars c:Nat):Int)))[j]? = some (.int .u64 ((zAH m.vars d:Nat):Int))):=by
    intro j d hj hd;by_cases hjk:j=k
    ·subst hjk
     rw[HCK.out] at hd;cases hd
     rw[List.getElem?_set_self (by rw[HLEN.out];exact hlt)]
    ·rw[List.getElem?_set_ne (fun h=>hjk h.symm)]
     exact hall.out j d (by omega) hd
   have hlN:w.heap.size+1<w1.heap.size:=by have:=(HOW1.out.lt (w.heap.size+1) rfl).2;exact this
   clear hy hb1 hq0;go_wp2
   go_roundw
   case rel=>exact⟨k+1,_,by omega,by go_num,HST.out,HAL,HBS.out⟩
   case measure=>simp[intOf];omega
  ·have hke:k=l.length:=by omega
   have HE:Hid (cells=u64s (l.map (zAH m.vars))):=by
    show _=_;have hlen:cells.length=l.length:=by have:=HOW.out.1;omega
    apply List.ext_getElem?;intro j;by_cases hj:j<l.length
    ·rw[hall.out j l[j] (by omega) (by simp[hj])]
     unfold u64s;simp[hj]
    ·rw[List.getElem?_eq_none (by omega),List.getElem?_eq_none (by unfold u64s;simp;omega)]
   have HF:Hid (wr.ownsRow (w.heap.size+1) 136 1 (.slice (some ⟨w.heap.size+1,0,none⟩) l.length l.length) l.length (u64s (l.map (zAH m.vars)))):=by rw[←HE.out];exact HOW.out
   clear hke hq0;go_wp2
   go_ret
   exact⟨_,rfl,HF.out,HBN.out⟩
def zK1 (m:Mod) (con:Int) (c:Cla):Bool×Int :=
 if zAw m con=0 then (if claE m.vars c=0 then (zBv m.vars (zAK m.vars (m.cons.getD con.toNat zGD)) (zAH m.vars c),0) else (false,claE m.vars c)) else (false,zAw m con)
def zGq (m:Mod) (l:List Cla) (c:Cla):Bool×Int :=
 if zAG m=0 then (if zEK m.vars l=0 then (if claE m.vars c=0 then (zCE m.vars (l.map (zAH m.vars)) (zAH m.vars c),0) else (false,claE m.vars c)) else (false,zEK m.vars l)) else (false,zAG m)
theorem zOI (m:Mod) (con:Int):(zCr m con).2=zAw m con:=by
 unfold zCr
 split
 ·rename_i h;exact h.symm
 ·rfl
theorem zRf (m:Mod) (con:Int) (c:Cla) (vs cs u:Value) (w:World) (hma:MArg w vs cs m) (hu:LArg w u c) :
 Calls Tryz.prog 63 #[modV vs cs m,.int .i64 con,u] w fun e w'=>e=.returned (.tuple #[.bool (zK1 m con c).1,.int .i64 (zK1 m con c).2])∧Below w.heap.size w w':=by
 have HMA:Hid (∀w',Below w.heap.size w w'→MArg w' vs cs m):=fun w' h=>MArg.below h hma
 have HU:Hid (∀w',Below w.heap.size w w'→LArg w' u c):=fun w' h=>LArg.below h hu
 obtain⟨R,hR⟩:∃R,zK1 m con c=R:=⟨_,rfl⟩;have HR:Hid (zK1 m con c=R):=hR;rw[hR];obtain⟨⟨a1,c1,rfl,_,_⟩,⟨a2,c2,rfl,_,_⟩⟩:=hma;obtain⟨a3,c3,rfl,_,_⟩:=hu;unfold modV;clear hR;go_enter Tryz.func63,Tryz.ntmps63
 go_wp2_with fail
 refine (zEt m con _ _ _ (HMA.out _ (zAA _ _))).mono ?_;rw[zOI];rintro e w1 ⟨x,rfl,hx,hb1⟩;obtain⟨ax,cx,rfl,_,_⟩:=hx;have HB1:Hid (Below w.heap.size w w1):=(zAA _ _).trans (hb1.mono (by simp))
 have l1:w.heap.size<w1.heap.size:=by have:=hb1.size;simp at this;omega
 have k0:w1.cell? ⟨w.heap.size,0,none⟩=some (.slice a1 m.vars.length c1):=(hb1.cell (by simp)).trans (World.cell?_alloc_at _ _ _ 0 (by simp))
 have k1:w1.cell? ⟨w.heap.size,1,none⟩=some (.slice a2 m.cons.length c2):=(hb1.cell (by simp)).trans (World.cell?_alloc_at _ _ _ 1 (by simp))
 have k2:w1.cell? ⟨w.heap.size,2,none⟩=some (.int .i64 m.goal):=(hb1.cell (by simp)).trans (World.cell?_alloc_at _ _ _ 2 (by simp))
 have k3:w1.cell? ⟨w.heap.size,3,none⟩=some (.int .i64 m.var):=(hb1.cell (by simp)).trans (World.cell?_alloc_at _ _ _ 3 (by simp))
 clear hb1;obtain⟨er,her⟩:∃er,zAw m con=er:=⟨_,rfl⟩;have HER:Hid (zAw m con=er):=her;rw[her];clear her;by_cases he:er=0
 ·subst he
  obtain⟨ok1,ok2,ok3⟩:=zFG m con HER.out;obtain⟨j,rfl⟩:∃j:Nat,con=(j:Int):=⟨con.toNat,by omega⟩
  have hj:j<m.cons.length:=by omega
  obtain⟨k,hk⟩:∃k,m.cons[j]? = some k:=⟨m.cons[j],by simp[hj]⟩
  have HK:Hid (m.cons[j]? = some k):=hk;have HM:Hid (zAG m=0):=ok1;have HR2:Hid (R=if claE m.vars c=0 then (zBv m.vars (zAK m.vars k) (zAH m.vars c),0) else (false,claE m.vars c)):=by
   show _=_;rw[←HR.out];unfold zK1;rw[if_pos HER.out,Int.toNat_natCast,List.getD_eq_getElem?_getD,hk];rfl
  clear hk ok1 ok2 ok3;go_wp2_with fail
  refine (zF1 m.vars c _ _ _ (HMA.out _ HB1.out).1 (HU.out _ HB1.out)).mono ?_;rintro e w2 ⟨rfl,hb2⟩;have HB2:Hid (Below w.heap.size w w2):=HB1.out.trans (hb2.mono HB1.out.size);have l2:w.heap.size<w2.heap.size:=Nat.lt_of_lt_of_le l1 hb2.size;have j0:=(hb2.cell (p:=⟨w.heap.size,0,none⟩) l1).trans k0;have j1:=(hb2.cell (p:=⟨w.heap.size,1,none⟩) l1).trans k1;have j2:=(hb2.cell (p:=⟨w.heap.size,2,none⟩) l1).trans k2;have j3:=(hb2.cell (p:=⟨w.heap.size,3,none⟩) l1).trans k3;clear hb2 k0 k1 k2 k3 l1;obtain⟨ec,hec⟩:∃ec,claE m.vars c=ec:=⟨_,rfl⟩;rw[hec] at HR2 ⊢;clear hec;by_cases hc0:ec=0
  ·subst hc0
   have HRF:Hid (R=(zBv m.vars (zAK m.vars k) (zAH m.vars c),0)):=by show _=_;rw[HR2.out,if_pos rfl]
   have HPT:Hid (∀Y,Below w2.heap.size w2 Y→Calls Tryz.prog 120 #[.agg #[.slice a1 m.vars.length c1,.slice a2 m.cons.length c2,.int .i64 m.goal,.int .i64 m.var],.int .i64 (j:Int)] Y fun e w'=>∃x,e=.returned x∧PArg w' x (zAK m.vars k)∧Below Y.heap.size Y w'):=fun Y hY =>
    zN5 m j k _ _ Y HM.out HK.out (HMA.out _ (HB2.out.trans (hY.mono HB2.out.size)))
   have HHE:Hid (∀Y,Below w2.heap.size w2 Y→Calls Tryz.prog 85 #[.slice a1 m.vars.length c1,.slice a3 (List.length c) c3] Y fun e w'=>e=.returned (.int .u64 ((zAH m.vars c:Nat):Int))∧Below Y.heap.size Y w'):=fun Y hY =>
    zCm m.vars (zBg m HM.out) c _ _ Y (HMA.out _ (HB2.out.trans (hY.mono HB2.out.size))).1 (HU.out _ (HB2.out.trans (hY.mono HB2.out.size)))
   have HSA:Hid (∀(Y:World) (pv:Value),Below w2.heap.size w2 Y→PArg Y pv (zAK m.vars k)→Calls Tryz.prog 119 #[.slice a1 m.vars.length c1,pv,.int .u64 ((zAH m.vars c:Nat):Int)] Y fun e w'=>e=.returned (.bool (zBv m.vars (zAK m.vars k) (zAH m.vars c)))∧Below Y.heap.size Y w'):=fun Y pv hY hp =>
    zJm m.vars (zBg m HM.out) _ _ (zJs m HM.out c) _ pv Y (HMA.out _ (HB2.out.trans (hY.mono HB2.out.size))).1 hp
   clear HR2 HR HER;go_wp2_with fail
   go_region_held3 (fun w'=>Below w2.heap.size w2 w'∧w'.cell? ⟨w.heap.size,0,none⟩=some (.slice a1 m.vars.length c1)∧w'.cell? ⟨w.heap.size,1,none⟩=some (.slice a2 m.cons.length c2)∧w'.cell? ⟨w.heap.size,2,none⟩=some (.int .i64 m.goal)∧w'.cell? ⟨w.heap.size,3,none⟩=some (.int .i64 m.var))
    ((refine (fun (hB:Below w2.heap.size w2 _)=>⟨hB,(hB.cell (p:=⟨w.heap.size,0,none⟩) l2).trans j0,(hB.cell (p:=⟨w.heap.size,1,none⟩) l2).trans j1,(hB.cell (p:=⟨w.heap.size,2,none⟩) l2).trans j2,(hB.cell (p:=⟨w.heap.size,3,none⟩) l2).trans j3⟩:Below w2.heap.size w2 _→_) ?_;first | exact (Below.refl _ _).drew | exact zA7 (by assumption) hbq))
    (first
      | (go_at_call 120;refine (HPT.out _ (show Below w2.heap.size w2 _∧_ by assumption).1).mono ?_;rintro e w3 ⟨x,rfl,hp3,hbq⟩;have HP3:Hid (PArg w3 x (zAK m.vars k)):=hp3;obtain⟨ap,cp,rfl,_,_⟩:=hp3;have hB3:=zA7 (by assumption) hbq)
      | (go_at_call 85;refine (HHE.out _ (show Below w2.heap.size w2 _∧_ by assumption).1).mono ?_;rintro e w4 ⟨rfl,hbq⟩;have HP4:Hid (PArg w4 _ (zAK m.vars k)):=PArg.below hbq HP3.out;have hB4:=zA7 (by assumption) hbq)
      | (go_at_call 119;refine (HSA.out _ _ (show Below w2.heap.size w2 _∧_ by assumption).1 HP4.out).mono ?_;rintro e w5 ⟨rfl,hbq⟩;have hB5:=zA7 (by assumption) hbq))
   have HB5:Hid (Below w.heap.size w w5):=HB2.out.trans (hB5.mono HB2.out.size);go_wp2
   go_ret2
   exact⟨by rw[HRF.out];rfl,HB5.out⟩
  ·have HRF:Hid (R=(false,ec)):=by show _=_;rw[HR2.out,if_neg hc0]
   have he2:(ec != 0)=true:=by simpa using hc0
   clear hc0 HR2;go_wp2
   go_ret2
   exact⟨by rw[HRF.out];rfl,HB2.out⟩
 ·have HRF:Hid (R=(false,er)):=by
   show _=_;rw[←HR.out];unfold zK1;rw[HER.out,if_neg he]
  have he2:(er != 0)=true:=by simpa using he
  clear he;go_wp2
  go_ret2
  exact⟨by rw[HRF.out];rfl,HB1.out⟩
theorem zNI (m:Mod) (hm:zAG m=0) (l:List Cla):∀z∈l.map (zAH m.vars),z<2 ^ 36:=by
 intro z hz;obtain⟨c,_,rfl⟩:=List.mem_map.1 hz;exact zJs m hm c
theorem zP6 (m:Mod) (l:List Cla) (c:Cla) (vs cs ul u:Value) (w:World) (hma:MArg w vs cs m) (hul:zDV w ul l) (hu:LArg w u c) (hT:TabT w) :
 Calls Tryz.prog 64 #[modV vs cs m,ul,u] w fun e w'=>e=.returned (.tuple #[.bool (zGq m l c).1,.int .i64 (zGq m l c).2])∧Below w.heap.size w w':=by
 have HMA:Hid (∀w',Below w.heap.size w w'→MArg w' vs cs m):=fun w' h=>MArg.below h hma
 have HU:Hid (∀w',Below w.heap.size w w'→LArg w' u c):=fun w' h=>LArg.below h hu
 have HL:Hid (∀w',Below w.heap.size w w'→zDV w' ul l):=fun w' h=>zDV.below h hul
 have HT:Hid (∀w',Below w.heap.size w w'→TabT w'):=fun w' h=>hT.below h
 obtain⟨R,hR⟩:∃R,zGq m l c=R:=⟨_,rfl⟩;have HR:Hid (zGq m l c=R):=hR;rw[hR];obtain⟨⟨a1,c1,rfl,_,_⟩,⟨a2,c2,rfl,_,_⟩⟩:=hma;obtain⟨a3,c3,rfl,_,_⟩:=hu;obtain⟨a4,c4,rfl,_,_⟩:=hul;unfold modV;clear hR hT;go_enter Tryz.func64,Tryz.ntmps64
 go_wp2_with fail
 refine (zA9 m _ _ _ (HMA.out _ (zAA _ _))).mono ?_;rintro e w1 ⟨rfl,hb1⟩;have HB1:Hid (Below w.heap.size w w1):=(zAA _ _).trans (hb1.mono (by simp))
 have l1:w.heap.size<w1.heap.size:=by have:=hb1.size;simp at this;omega
 have k0:w1.cell? ⟨w.heap.size,0,none⟩=some (.slice a1 m.vars.length c1):=(hb1.cell (by simp)).trans (World.cell?_alloc_at _ _ _ 0 (by simp))
 have k1:w1.cell? ⟨w.heap.size,1,none⟩=some (.slice a2 m.cons.length c2):=(hb1.cell (by simp)).trans (World.cell?_alloc_at _ _ _ 1 (by simp))
 have k2:w1.cell? ⟨w.heap.size,2,none⟩=some (.int .i64 m.goal):=(hb1.cell (by simp)).trans (World.cell?_alloc_at _ _ _ 2 (by simp))
 have k3:w1.cell? ⟨w.heap.size,3,none⟩=some (.int .i64 m.var):=(hb1.cell (by simp)).trans (World.cell?_alloc_at _ _ _ 3 (by simp))
 clear hb1;obtain⟨er,her⟩:∃er,zAG m=er:=⟨_,rfl⟩;have HER:Hid (zAG m=er):=her;rw[her];clear her;by_cases he:er=0
 ·subst he
  have HM:Hid (zAG m=0):=HER.out;have HR2:Hid (R=if zEK m.vars l=0 then (if claE m.vars c=0 then (zCE m.vars (l.map (zAH m.vars)) (zAH m.vars c),0) else (false,claE m.vars c)) else (false,zEK m.vars l)):=by
   show _=_;rw[←HR.out];unfold zGq;rw[if_pos HM.out]
  clear HR HER;go_wp2_with fail
  refine (zJD m.vars l _ _ _ (HMA.out _ HB1.out).1 (HL.out _ HB1.out)).mono ?_;rintro e w2 ⟨rfl,hb2⟩;have HB2:Hid (Below w.heap.size w w2):=HB1.out.trans (hb2.mono HB1.out.size);have l2:w.heap.size<w2.heap.size:=Nat.lt_of_lt_of_le l1 hb2.size;have j0:=(hb2.cell (p:=⟨w.heap.size,0,none⟩) l1).trans k0;have j1:=(hb2.cell (p:=⟨w.heap.size,1,none⟩) l1).trans k1;have j2:=(hb2.cell (p:=⟨w.heap.size,2,none⟩) l1).trans k2;have j3:=(hb2.cell (p:=⟨w.heap.size,3,none⟩) l1).trans k3;clear hb2 k0 k1 k2 k3 l1;obtain⟨el,hel⟩:∃el,zEK m.vars l=el:=⟨_,rfl⟩;have HEL:Hid (zEK m.vars l=el):=hel;rw[hel] at HR2 ⊢;clear hel;by_cases hl0:el=0
  ·subst hl0
   have HLO:=zMt m.vars l HEL.out;have HL6:Hid (l.length≤600):=HLO.1;have HR3:Hid (R=if claE m.vars c=0 then (zCE m.vars (l.map (zAH m.vars)) (zAH m.vars c),0) else (false,claE m.vars c)):=by show _=_;rw[HR2.out,if_pos rfl]
   clear HR2 HEL HLO;go_wp2_with fail
   refine (zF1 m.vars c _ _ _ (HMA.out _ HB2.out).1 (HU.out _ HB2.out)).mono ?_;rintro e w3 ⟨rfl,hb3⟩;have HB3:Hid (Below w.heap.size w w3):=HB2.out.trans (hb3.mono HB2.out.size);have l3:w.heap.size<w3.heap.size:=Nat.lt_of_lt_of_le l2 hb3.size;have i0:=(hb3.cell (p:=⟨w.heap.size,0,none⟩) l2).trans j0;have i1:=(hb3.cell (p:=⟨w.heap.size,1,none⟩) l2).trans j1;have i2:=(hb3.cell (p:=⟨w.heap.size,2,none⟩) l2).trans j2;have i3:=(hb3.cell (p:=⟨w.heap.size,3,none⟩) l2).trans j3;clear hb3 j0 j1 j2 j3 l2;obtain⟨ec,hec⟩:∃ec,claE m.vars c=ec:=⟨_,rfl⟩;rw[hec] at HR3 ⊢;clear hec;by_cases hc0:ec=0
   ·subst hc0
    obtain⟨L,hLL⟩:∃L,l.map (zAH m.vars)=L:=⟨_,rfl⟩;have HLL:Hid (l.map (zAH m.vars)=L):=hLL;have HLT:Hid (∀z∈L,z<2 ^ 36):=by rw[←hLL];exact zNI m HM.out l
    rw[hLL] at HR3;have HRF:Hid (R=(zCE m.vars L (zAH m.vars c),0)):=by show _=_;rw[HR3.out,if_pos rfl]
    clear hLL;have HTO:Hid (∀Y,Below w3.heap.size w3 Y→Below w.heap.size w Y):=fun Y hY=>HB3.out.trans (hY.mono HB3.out.size)
    have HPH:Hid (∀Y,Below w3.heap.size w3 Y→Calls Tryz.prog 122 #[.agg #[.slice a1 m.vars.length c1,.slice a2 m.cons.length c2,.int .i64 m.goal,.int .i64 m.var],.slice a4 l.length c4] Y fun e w'=>∃x,e=.returned x∧PArg w' x L∧Below Y.heap.size Y w'):=fun Y hY =>
     (zK0 m HM.out l HL6.out _ _ _ Y (HMA.out _ (HTO.out _ hY)) (HL.out _ (HTO.out _ hY))).mono fun e w' ⟨x,h1,h2,h3⟩=>⟨x,h1,zCu (by rw[←HLL.out,List.length_map];exact h2) HLT.out,h3⟩
    have HHE:Hid (∀Y,Below w3.heap.size w3 Y→Calls Tryz.prog 85 #[.slice a1 m.vars.length c1,.slice a3 (List.length c) c3] Y fun e w'=>e=.returned (.int .u64 ((zAH m.vars c:Nat):Int))∧Below Y.heap.size Y w'):=fun Y hY =>
     zCm m.vars (zBg m HM.out) c _ _ Y (HMA.out _ (HTO.out _ hY)).1 (HU.out _ (HTO.out _ hY))
    have HFA:Hid (∀(Y:World) (pv:Value),Below w3.heap.size w3 Y→PArg Y pv L→Calls Tryz.prog 88 #[.slice a1 m.vars.length c1,pv,.int .u64 ((zAH m.vars c:Nat):Int)] Y fun e w'=>e=.returned (.bool (zCE m.vars L (zAH m.vars c)))∧Below Y.heap.size Y w'):=fun Y pv hY hp =>
     zHw m.vars (zBg m HM.out) (zAe m HM.out).1 _ _ (zJs m HM.out c) _ pv Y (HMA.out _ (HTO.out _ hY)).1 hp (HT.out _ (HTO.out _ hY))
    clear HR3;go_wp2_with fail
    go_region_held3 (fun w'=>Below w3.heap.size w3 w'∧w'.cell? ⟨w.heap.size,0,none⟩=some (.slice a1 m.vars.length c1)∧w'.cell? ⟨w.heap.size,1,none⟩=some (.slice a2 m.cons.length c2)∧w'.cell? ⟨w.heap.size,2,none⟩=some (.int .i64 m.goal)∧w'.cell? ⟨w.heap.size,3,none⟩=some (.int .i64 m.var))
     ((refine (fun (hB:Below w3.heap.size w3 _)=>⟨hB,(hB.cell (p:=⟨w.heap.size,0,none⟩) l3).trans i0,(hB.cell (p:=⟨w.heap.size,1,none⟩) l3).trans i1,(hB.cell (p:=⟨w.heap.size,2,none⟩) l3).trans i2,(hB.cell (p:=⟨w.heap.size,3,none⟩) l3).trans i3⟩:Below w3.heap.size w3 _→_) ?_;first | exact (Below.refl _ _).drew | exact zA7 (by assumption) hbq))
     (first
       | (go_at_call 122;refine (HPH.out _ (show Below w3.heap.size w3 _∧_ by assumption).1).mono ?_;rintro e w4 ⟨x,rfl,hp4,hbq⟩;have HP4:Hid (PArg w4 x L):=hp4;obtain⟨ap,cp,rfl,_,_⟩:=hp4;have hB4:=zA7 (by assumption) hbq)
       | (go_at_call 85;refine (HHE.out _ (show Below w3.heap.size w3 _∧_ by assumption).1).mono ?_;rintro e w5 ⟨rfl,hbq⟩;have HP5:Hid (PArg w5 _ L):=PArg.below hbq HP4.out;have hB5:=zA7 (by assumption) hbq)
       | (go_at_call 88;refine (HFA.out _ _ (show Below w3.heap.size w3 _∧_ by assumption).1 HP5.out).mono ?_;rintro e w6 ⟨rfl,hbq⟩;have hB6:=zA7 (by assumption) hbq))
    have HB6:Hid (Below w.heap.size w w6):=HTO.out _ hB6;go_wp2
    go_ret2
    exact⟨by rw[HRF.out];rfl,HB6.out⟩
   ·have HRF:Hid (R=(false,ec)):=by show _=_;rw[HR3.out,if_neg hc0]
    have he2:(ec != 0)=true:=by simpa using hc0
    clear hc0 HR3;go_wp2
    go_ret2
    exact⟨by rw[HRF.out];rfl,HB3.out⟩
  ·have HRF:Hid (R=(false,el)):=by show _=_;rw[HR2.out,if_neg hl0]
   have he2:(el != 0)=true:=by simpa using hl0
   clear hl0 HR2;go_wp2
   go_ret2
   exact⟨by rw[HRF.out];rfl,HB2.out⟩
 ·have HRF:Hid (R=(false,er)):=by
   show _=_;rw[←HR.out];unfold zGq;rw[HER.out,if_neg he]
  have he2:(er != 0)=true:=by simpa using he
  clear he;go_wp2
  go_ret2
  exact⟨by rw[HRF.out];rfl,HB1.out⟩
end Go.Proofs.YtndcpnlaadikoaaGreatDoor
