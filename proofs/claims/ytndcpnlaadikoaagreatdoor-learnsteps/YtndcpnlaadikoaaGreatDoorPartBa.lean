/- What the proof leans on, part 27. -/
import Derived.Test.YtndcpnlaadikoaaGreatDoorPartAu
import Derived.Test.YtndcpnlaadikoaaGreatDoorPartAj
import Derived.Test.YtndcpnlaadikoaaGreatDoorPartAg
import Derived.Test.YtndcpnlaadikoaaGreatDoorPartAm
import Derived.Test.YtndcpnlaadikoaaGreatDoorPartAo
import Derived.Test.YtndcpnlaadikoaaGreatDoorPartAs
namespace Go.Proofs.YtndcpnlaadikoaaGreatDoor
open Go.RowKit
theorem zNh (m:Mod) (hm:zAP m=0):∀pts∈ptsM m,∀z∈pts,z<2 ^ 36:=by
 intro pts hp
 obtain⟨c,hcm,rfl⟩:=List.mem_map.1 hp
 obtain⟨j,hj⟩:=List.mem_iff_getElem?.1 hcm
 exact zKO m hm j c hj
theorem zN4 {w W:World} {r:Nat} {sv pv:Value} {vs:List MVar} {pt:List (List Nat)} (hr:w.heap.size≤r) (hrW:r<W.heap.size) (hb:Below w.heap.size w W) (hv:VArg w sv vs) (hT:TabT w) (hp:PRow (r+1) W pv pt) (hl:∀pts∈pt,∀z∈pts,z<2 ^ 36):Rul W r sv pv vs pt:=by
 refine⟨hrW,fun w' hf=>?_⟩
 have hb2:Below w.heap.size w w':=⟨hf.os.trans hb.os,hf.tape.trans hb.tape,hf.output.trans hb.output,Nat.le_trans hb.size hf.size,fun k hk=>(hf.block k (Nat.lt_of_lt_of_le hk hb.size) (by omega)).trans (hb.block k hk)⟩
 exact⟨VArg.below hb2 hv,(hp.fr hf (fun g hg=>by omega)).arg hl,hT.below hb2⟩
set_option maxHeartbeats 3200000 in
set_option maxRecDepth 100000 in
theorem zLg (m:Mod) (hm:zAP m=0) (vs cs:Value) (w:World) (hma:MArg w vs cs m) (hT:TabT w) :
 Calls Tryz.prog 82 #[modV vs cs m] w fun e w'=>∃r pv,e=.returned (.pointer (some ⟨r,0,none⟩))∧Rul w' r vs pv m.vars (ptsM m)∧RulD w' w' r vs pv (.slice none 0 0) []∧w.heap.size≤r∧Below w.heap.size w w'∧PRow (r+1) w' pv (ptsM m):=by
 obtain⟨i0,hi0,hz0,hz1,hz2⟩:=info_parts Tryz.infoPts
 have HMA:Hid (∀w',Below w.heap.size w w'→MArg w' vs cs m):=fun w' h=>MArg.below h hma
 have HVW:Hid (VArg w vs m.vars):=hma.1
 have HT:Hid (TabT w):=hT
 have HM:Hid (zAP m=0):=hm
 have h8:m.cons.length≤8:=(zAo m hm).2.2.1
 obtain⟨⟨a1,c1,rfl,_,_⟩,⟨a2,c2,rfl,_,_⟩⟩:=hma
 unfold modV
 obtain⟨L,hL⟩:∃L,ptsM m=L:=⟨_,rfl⟩
 have HL:Hid (ptsM m=L):=hL
 have HLL:Hid (L.length=m.cons.length):=by show _=_;rw[←hL];unfold ptsM;rw[List.length_map]
 rw[hL]
 clear hL
 clear hm hT
 go_enter Tryz.func82,Tryz.ntmps82
 go_wp2_with fail
 have HB0:Hid (Below w.heap.size w ((w.alloc (.cells #[.slice a1 m.vars.length c1,.slice a2 m.cons.length c2,.int .i64 m.goal,.int .i64 m.var] 25)).alloc (.cells #[.slice a1 m.vars.length c1,.slice none 0 0,.slice none 0 0] 141))):=(zAA _ _).alloc (by simp) _
 have HQ:Hid (((w.alloc (.cells #[.slice a1 m.vars.length c1,.slice a2 m.cons.length c2,.int .i64 m.goal,.int .i64 m.var] 25)).alloc (.cells #[.slice a1 m.vars.length c1,.slice none 0 0,.slice none 0 0] 141)).heap[w.heap.size]? = some (.cells #[.slice a1 m.vars.length c1,.slice a2 m.cons.length c2,.int .i64 m.goal,.int .i64 m.var] 25)):=((zAA (w.alloc (.cells #[.slice a1 m.vars.length c1,.slice a2 m.cons.length c2,.int .i64 m.goal,.int .i64 m.var] 25)) (.cells #[.slice a1 m.vars.length c1,.slice none 0 0,.slice none 0 0] 141)).block w.heap.size (by simp)).trans (heap_alloc_new w _)
 have HBK:Hid (((w.alloc (.cells #[.slice a1 m.vars.length c1,.slice a2 m.cons.length c2,.int .i64 m.goal,.int .i64 m.var] 25)).alloc (.cells #[.slice a1 m.vars.length c1,.slice none 0 0,.slice none 0 0] 141)).heap[w.heap.size+1]? = some (.cells #[.slice a1 m.vars.length c1,.slice none 0 0,.slice none 0 0] 141)):=by
  have h:=heap_alloc_new (w.alloc (.cells #[.slice a1 m.vars.length c1,.slice a2 m.cons.length c2,.int .i64 m.goal,.int .i64 m.var] 25)) (.cells #[.slice a1 m.vars.length c1,.slice none 0 0,.slice none 0 0] 141)
  rw[World.size_alloc] at h
  exact h
 have HS0:Hid (((w.alloc (.cells #[.slice a1 m.vars.length c1,.slice a2 m.cons.length c2,.int .i64 m.goal,.int .i64 m.var] 25)).alloc (.cells #[.slice a1 m.vars.length c1,.slice none 0 0,.slice none 0 0] 141)).heap.size=w.heap.size+2):=by show _=_;simp
 obtain⟨W,hW⟩:∃W,((w.alloc (.cells #[.slice a1 m.vars.length c1,.slice a2 m.cons.length c2,.int .i64 m.goal,.int .i64 m.var] 25)).alloc (.cells #[.slice a1 m.vars.length c1,.slice none 0 0,.slice none 0 0] 141))=W:=⟨_,rfl⟩
 rw[hW] at HB0 HQ HBK HS0 ⊢
 clear hW
 go_loopw [12] (fun i wr=>∃(k:Nat) (pv:Value),k≤m.cons.length∧i=.int .i64 k∧Hid (PRow (w.heap.size+2) wr pv (L.take k))∧Hid (wr.heap[w.heap.size+1]? = some (.cells #[.slice a1 m.vars.length c1,pv,.slice none 0 0] 141))∧Hid (Below (w.heap.size+1) W wr)) (fun i _=>m.cons.length - (intOf i).toNat)
 case atStart=>exact⟨0,.slice none 0 0,by omega,rfl,⟨[],World.ownsRow_nil _ _ _ _,fun i pts h=>by simp at h⟩,HBK,Below.refl _ _⟩
 case round =>
  obtain⟨k,pv,hk,rfl,HROW,HBLK,HBW⟩:=hrel
  have HBN:Hid (Below w.heap.size w wr):=HB0.out.trans (HBW.out.mono (by omega))
  have HSZ:Hid (w.heap.size+2≤wr.heap.size):=by have:=HBW.out.size;have:=HS0.out;show _≤_;omega
  have HMB:Hid (wr.heap[w.heap.size]? = some (.cells #[.slice a1 m.vars.length c1,.slice a2 m.cons.length c2,.int .i64 m.goal,.int .i64 m.var] 25)):=(HBW.out.block w.heap.size (by omega)).trans HQ.out
  have k0:wr.cell? ⟨w.heap.size,0,none⟩=some (.slice a1 m.vars.length c1):=blk9 HMB.out 0 _ rfl
  have k1:wr.cell? ⟨w.heap.size,1,none⟩=some (.slice a2 m.cons.length c2):=blk9 HMB.out 1 _ rfl
  have k2:wr.cell? ⟨w.heap.size,2,none⟩=some (.int .i64 m.goal):=blk9 HMB.out 2 _ rfl
  have k3:wr.cell? ⟨w.heap.size,3,none⟩=some (.int .i64 m.var):=blk9 HMB.out 3 _ rfl
  obtain⟨cells,hcw,hrows⟩:=HROW.out
  have HCW:Hid (wr.ownsRow (w.heap.size+2) 139 1 pv (L.take k).length cells):=hcw
  have HRW:Hid (∀(i:Nat) (p:List Nat),(L.take k)[i]? = some p→∃x,cells[i]? = some x∧wr.ownsRow (w.heap.size+2) 136 1 x p.length (u64s p)):=hrows
  obtain⟨ap,cp,hpv⟩:=zAE hcw
  have HTL:Hid ((L.take k).length=k):=by show _=_;rw[List.length_take,HLL.out];omega
  rw[HTL.out] at hpv HCW
  subst hpv
  have g1:wr.cell? ⟨w.heap.size+1,1,none⟩=some (.slice ap k cp):=blk9 HBLK.out 1 _ rfl
  have lr:w.heap.size<wr.heap.size:=by have:=HSZ.out;omega
  have lr1:w.heap.size+1<wr.heap.size:=by have:=HSZ.out;omega
  clear hcw hrows
  by_cases hlt:k<m.cons.length
  ·obtain⟨c,hc⟩:∃c,m.cons[k]? = some c:=⟨m.cons[k],by simp[hlt]⟩
   have HLK:Hid (L[k]? = some (zAR m.vars c)):=by show _=_;rw[←HL.out];unfold ptsM;rw[List.getElem?_map,hc];rfl
   have HPT:Hid (∀Y,Below wr.heap.size wr Y→Calls Tryz.prog 120 #[.agg #[.slice a1 m.vars.length c1,.slice a2 m.cons.length c2,.int .i64 m.goal,.int .i64 m.var],.int .i64 (k:Int)] Y fun e w'=>∃x,e=.returned x∧w'.ownsRow Y.heap.size 136 1 x (zAR m.vars c).length (u64s (zAR m.vars c))∧Below Y.heap.size Y w'):=fun Y hY =>
    zKN m k c _ _ Y HM.out hc (HMA.out _ (HBN.out.trans (hY.mono HBN.out.size)))
   have HTN:Hid (L.take (k+1)=L.take k++[zAR m.vars c]):=by show _=_;rw[List.take_add_one,HLK.out];rfl
   obtain⟨pts,hpts⟩:∃pts,zAR m.vars c=pts:=⟨_,rfl⟩
   rw[hpts] at HPT HTN
   clear hc hpts
   go_wp2_with fail
   go_region_law
    (first
      | (rw[if_pos (by rfl)];refine wp_append_own _ _ _ 138 rfl (w.heap.size+2) 139 i0 _ 1 24 Tryz.underPts hi0 hz0 hz1 hz2 rfl (by decide) _ _ _ rfl (hw3.alloc _) ⟨w3.heap.size,0,none⟩ 1 1 [.slice ax pts.length cx] rfl rfl (zMk w3 (.slice ax pts.length cx)) (by intro u hu;simp at hu;subst hu;rfl) ?_ ?_ ?_ ?_;(unfold maxLen;omega);omega;(have:=hB3.size;have:=HSZ.out;simp;omega);intro v4 w4 hown4 hg4 _;have hP:PRow (w.heap.size+2) w4 v4 (L.take k++[pts]):=PRow.push (by rw[HTL.out];exact hw3.alloc _) (fun i p hi=>(hr3 i p hi).imp fun y hy=>⟨hy.1,hy.2.alloc _⟩) (hx3.alloc _) hg4 (by rw[HTL.out]) hown4;obtain⟨a9,b9,hv9⟩:=zAE hown4;subst hv9;have hk4:=zB0 (((zAA w3 _).block (w.heap.size+1) l3).trans hbk3) hg4 (hw3.alloc _) (by decide);have d2:w4.cell? ⟨w.heap.size+1,1,none⟩=some (.slice ap k cp):=blk9 hk4 1 _ rfl;have z2:w4.frozen? ⟨w.heap.size+1,1,none⟩=false:=frz9 hk4 1)
      | (rw[if_pos (by rfl)];go_simp;go_at_call 120;refine (HPT.out _ (Below.refl _ _).drew).mono ?_;rintro e w3 ⟨x,rfl,hx,hb3⟩;obtain⟨ax,cx,rfl⟩:=zAE hx;have hB3:Below wr.heap.size wr w3:=(Below.refl _ _).drew.trans hb3;have c3:w3.cell? ⟨w.heap.size+1,1,none⟩=some (.slice ap k cp):=(hB3.cell (p:=⟨w.heap.size+1,1,none⟩) lr1).trans g1;have hw3:w3.ownsRow (w.heap.size+2) 139 1 (.slice ap k cp) k cells:=zAD HCW.out hB3;have hr3:∀(i:Nat) (p:List Nat),(L.take k)[i]? = some p→∃x,cells[i]? = some x∧w3.ownsRow (w.heap.size+2) 136 1 x p.length (u64s p):=fun i p hi=>(HRW.out i p hi).imp fun y hy=>⟨hy.1,zAD hy.2 hB3⟩;have hx3:w3.ownsRow (w.heap.size+2) 136 1 (.slice ax pts.length cx) pts.length (u64s pts):=World.ownsRow.mono hx HSZ.out;have l3:w.heap.size+1<w3.heap.size:=Nat.lt_of_lt_of_le lr1 hB3.size;have hbk3:=(hB3.block (w.heap.size+1) lr1).trans HBLK.out;dsimp only))
   all_goals
    have HR4:Hid (PRow (w.heap.size+2) (w4.setCell ⟨w.heap.size+1,1,none⟩ (.slice a9 (k+1) b9)) (.slice a9 (k+1) b9) (L.take (k+1))):=by
     rw[HTN.out]
     exact hP.fr (X:=fun g=>g=w.heap.size+1) (Fr.setX (X:=fun g=>g=w.heap.size+1) (Fr.refl _ _) (p:=⟨w.heap.size+1,1,none⟩) rfl _) (fun g hg=>by omega)
    have HK4:Hid ((w4.setCell ⟨w.heap.size+1,1,none⟩ (.slice a9 (k+1) b9)).heap[w.heap.size+1]? = some (.cells #[.slice a1 m.vars.length c1,.slice a9 (k+1) b9,.slice none 0 0] 141)):=by show _=_;rw[heap_setCell_same w4 (w.heap.size+1) 1 _ _ _ hk4];rfl
    have HB4:Hid (Below (w.heap.size+1) W (w4.setCell ⟨w.heap.size+1,1,none⟩ (.slice a9 (k+1) b9))):=((((HBW.out.trans (hB3.mono (by have:=HSZ.out;omega))).alloc (by have:=hB3.size;have:=HSZ.out;omega) _).grown hg4 (by have:=hB3.size;have:=HSZ.out;simp;omega) (fun g hg=>by have:=((hw3.alloc (.cells #[.slice ax pts.length cx] 139)).lt g hg).1;omega))).setCell (show w.heap.size+1≤w.heap.size+1 from Nat.le_refl _) _
    clear hP hx hb3 hB3 c3 hw3 hr3 hx3 l3 hbk3 hown4 hg4 hk4 k0 k1 k2 k3 g1 HROW HBLK HBW
    go_wp2
    go_roundw
    case rel=>exact⟨k+1,_,by omega,by go_num,HR4,HK4,HB4⟩
    case measure=>simp[intOf];omega
  ·have hke:k=m.cons.length:=by omega
   have HFIN:Hid (PRow (w.heap.size+2) wr (.slice ap k cp) L):=by have:=HROW.out;rw[List.take_of_length_le (by rw[HLL.out];omega)] at this;exact this
   have HRU:Hid (Rul wr (w.heap.size+1) (.slice a1 m.vars.length c1) (.slice ap k cp) m.vars L):=zN4 (by omega) lr1 HBN.out HVW.out HT.out HFIN.out (by rw[←HL.out];exact zNh m HM.out)
   have HRD:Hid (RulD wr wr (w.heap.size+1) (.slice a1 m.vars.length c1) (.slice ap k cp) (.slice none 0 0) []):=⟨HBLK.out,World.ownsRow_nil _ _ _ _,(fun z hz=>by cases hz),Fr.refl _ _⟩
   have hle:¬((k:Int)<(m.cons.length:Int)):=by omega
   clear hke k0 k1 k2 k3 g1
   go_wp2
   go_ret
   exact⟨w.heap.size+1,rfl,_,HRU.out,HRD.out,by omega,HBN.out,HFIN.out⟩
theorem zMp (m:Mod) (hm:zAP m=0) (vs cs:Value) (w:World) (hma:MArg w vs cs m) (hT:TabT w) :
 Calls Tryz.prog 82 #[modV vs cs m] w fun e w'=>∃r pv,e=.returned (.pointer (some ⟨r,0,none⟩))∧Rul w' r vs pv m.vars (ptsM m)∧RulD w' w' r vs pv (.slice none 0 0) []∧w.heap.size≤r∧Below w.heap.size w w' :=
 (zLg m hm vs cs w hma hT).mono (by rintro e w' ⟨r,pv,h1,h2,h3,h4,h5,_⟩;exact⟨r,pv,h1,h2,h3,h4,h5⟩)
def zA8 (w:World) (v:Value) (l:List Cla):Prop :=
 ∃a c,v=.slice a l.length c∧(l.length≤c∧c≤maxLen)∧∀(i:Nat) (t:Cla),l[i]? = some t→∃b off x,a=some ⟨b,off,none⟩∧b<w.heap.size∧w.cell? ⟨b,off+i,none⟩=some x∧LArg w x t
theorem zA8.below {w w':World} {v:Value} {l:List Cla} (hb:Below w.heap.size w w') (h:zA8 w v l):zA8 w' v l:=by
 obtain⟨a,c,hv,hm,hr⟩:=h
 refine⟨a,c,hv,hm,fun i z hz=>?_⟩
 obtain⟨b,off,x,ha,hlt,hc,hx⟩:=hr i z hz
 exact⟨b,off,x,ha,Nat.lt_of_lt_of_le hlt hb.size,(hb.cell (p:=⟨b,off+i,none⟩) hlt).trans hc,LArg.below hb hx⟩
set_option maxHeartbeats 800000 in
set_option maxRecDepth 100000 in
theorem zFa (vs:List MVar) (l:MLit) (v:Value) (w:World) (hv:VArg w v vs) :
 Calls Tryz.prog 192 #[v,.agg #[.int .i64 l.var,.int .i64 l.op,.int .i64 l.n]] w fun e w'=>e=.returned (.int .i64 (litE vs l))∧Below w.heap.size w w':=by
 obtain⟨a,c,rfl,hm,_⟩:=hv
 unfold maxLen at hm
 obtain⟨hm1,hm⟩:=hm
 obtain⟨R,hR⟩:∃R,litE vs l=R:=⟨_,rfl⟩
 rw[hR]
 unfold litE at hR
 by_cases q1:l.var<0
 ·have HE:Hid (R=5):=by rw[←hR,if_pos (Or.inl q1)];rfl
  clear hR
  go_enter Tryz.func192,Tryz.ntmps192
  go_wp2
  go_ret
  exact⟨zAI HE.out.symm,zAA _ _⟩
 by_cases q2:(vs.length:Int)≤l.var
 ·have HE:Hid (R=5):=by rw[←hR,if_pos (Or.inr q2)];rfl
  clear hR
  go_enter Tryz.func192,Tryz.ntmps192
  go_wp2
  go_ret
  exact⟨zAI HE.out.symm,zAA _ _⟩
 rw[if_neg (by omega)] at hR
 by_cases q3:l.op<1
 ·have HE:Hid (R=7):=by rw[←hR,if_pos (Or.inl q3)];rfl
  clear hR
  go_enter Tryz.func192,Tryz.ntmps192
  go_wp2
  go_ret
  exact⟨zAI HE.out.symm,zAA _ _⟩
 by_cases q4:4<l.op
 ·have HE:Hid (R=7):=by rw[←hR,if_pos (Or.inr q4)];rfl
  clear hR
  go_enter Tryz.func192,Tryz.ntmps192
  go_wp2
  go_ret
  exact⟨zAI HE.out.symm,zAA _ _⟩
 rw[if_neg (by omega)] at hR
 by_cases q5:l.n < -1000
 ·have HE:Hid (R=3):=by rw[←hR,if_pos (Or.inl q5)];rfl
  clear hR
  go_enter Tryz.func192,Tryz.ntmps192
  go_wp2
  go_ret
  exact⟨zAI HE.out.symm,zAA _ _⟩
 by_cases q6:1000<l.n
 ·have HE:Hid (R=3):=by rw[←hR,if_pos (Or.inr q6)];rfl
  clear hR
  go_enter Tryz.func192,Tryz.ntmps192
  go_wp2
  go_ret
  exact⟨zAI HE.out.symm,zAA _ _⟩
 have HE:Hid (R=0):=by rw[←hR,if_neg (by omega)];rfl
 clear hR
 go_enter Tryz.func192,Tryz.ntmps192
 go_wp2
 go_ret
 exact⟨zAI HE.out.symm,zAA _ _⟩
set_option maxHeartbeats 800000 in
set_option maxRecDepth 100000 in
theorem zHx (vs:List MVar) (c:Cla) (v u:Value) (w:World) (hv:VArg w v vs) (hu:LArg w u c) :
 Calls Tryz.prog 118 #[v,u] w fun e w'=>e=.returned (.int .i64 (claE vs c))∧Below w.heap.size w w':=by
 have HVA:Hid (∀w':World,Below w.heap.size w w'→VArg w' v vs):=fun w' h=>VArg.below h hv
 obtain⟨a1,c1,rfl,_,_⟩:=hv
 obtain⟨a,cc,rfl,hm,hr⟩:=hu
 have HV:Hid (∀(i:Nat) (t:MLit),c[i]? = some t→∃b off,a=some ⟨b,off,none⟩∧b<w.heap.size ∧
  w.cell? ⟨b,off+i * 3,none⟩=some (.int .i64 t.var)∧w.cell? ⟨b,off+i * 3+1,none⟩=some (.int .i64 t.op)∧w.cell? ⟨b,off+i * 3+2,none⟩=some (.int .i64 t.n)):=hr
 unfold maxLen at hm
 obtain⟨hm1,hm⟩:=hm
 obtain⟨R,hR⟩:∃R,claE vs c=R:=⟨_,rfl⟩
 rw[hR]
 have HE:Hid (R=if 40<c.length then 2 else zAe (c.map (litE vs))):=by rw[←hR];rfl
 clear hR hr
 by_cases h40:40<c.length
 ·have HN:Hid (R=2):=by rw[HE.out,if_pos h40];rfl
  go_enter Tryz.func118,Tryz.ntmps118
  go_wp2
  go_ret
  exact⟨zAI HN.out.symm,Below.refl _ _⟩
 ·have HE2:Hid (R=zAe (c.map (litE vs))):=by rw[HE.out,if_neg h40];rfl
  go_enter Tryz.func118,Tryz.ntmps118
  go_wp2_with fail
  go_loopw [13] (fun i wr=>∃k:Nat,k≤c.length∧i=.int .i64 k∧Hid (zAe ((c.map (litE vs)).take k)=0)∧Below w.heap.size w wr) (fun i _=>c.length - (intOf i).toNat)
  case atStart=>exact⟨0,by omega,rfl,rfl,Below.refl _ _⟩
  case round =>
   obtain⟨k,hk,rfl,hall,hbw⟩:=hrel
   by_cases hlt:k<c.length
   ·obtain⟨t,hz⟩:∃z,c[k]? = some z:=⟨c[k],by simp[hlt]⟩
    obtain⟨b,off,ha,hb,q0,q1,q2⟩:=HV.out k t hz
    have hc0:=(hbw.cell (p:=⟨b,off+k * 3,none⟩) hb).trans q0
    have hc1:=(hbw.cell (p:=⟨b,off+k * 3+1,none⟩) hb).trans q1
    have hc2:=(hbw.cell (p:=⟨b,off+k * 3+2,none⟩) hb).trans q2
    have hsz:=hbw.size
    subst ha
    obtain⟨er,her⟩:∃er,litE vs t=er:=⟨_,rfl⟩
    have HER:Hid (litE vs t=er):=her
    have HZ:Hid ((c.map (litE vs))[k]? = some er):=by show _=_;rw[List.getElem?_map,hz,←her];rfl
    clear hz q0 q1 q2 her
    go_wp2_with fail
    refine (zFa vs t _ _ ?_).mono ?_
    ·exact HVA.out _ (hbw.alloc hsz _)
    rintro e w2 ⟨rfl,hb2⟩
    rw[HER.out]
    have hB2:Below w.heap.size w w2:=(hbw.alloc hsz _).trans (hb2.mono (by simp;omega))
    clear hb2
    by_cases he:er=0
    ·subst he
     have HN:Hid (zAe ((c.map (litE vs)).take (k+1))=0):=zCv _ k hall.out HZ.out
     go_wp2
     go_roundw
     case rel=>exact⟨k+1,by omega,by go_num,HN,hB2⟩
     case measure=>simp[intOf];omega
    ·have HN:Hid (R=er):=by rw[HE2.out];exact zDN _ k er hall.out HZ.out he
     have he2:(er != 0)=true:=by simpa using he
     clear he
     go_wp2
     go_ret
     exact⟨zAI HN.out.symm,hB2⟩
   ·have HN:Hid (R=0):=by
     have:=hall.out
     rw[List.take_of_length_le (by simp;omega)] at this
     rw[HE2.out];exact this
    go_wp2
    go_ret
    exact⟨zAI HN.out.symm,hbw⟩
set_option maxHeartbeats 800000 in
set_option maxRecDepth 100000 in
theorem zKT (vs:List MVar) (l:List Cla) (v u:Value) (w:World) (hv:VArg w v vs) (hu:zA8 w u l) :
 Calls Tryz.prog 121 #[v,u] w fun e w'=>e=.returned (.int .i64 (zDz vs l))∧Below w.heap.size w w':=by
 have HVA:Hid (∀w':World,Below w.heap.size w w'→VArg w' v vs):=fun w' h=>VArg.below h hv
 obtain⟨a1,c1,rfl,_,_⟩:=hv
 obtain⟨a,cc,rfl,hm,hr⟩:=hu
 have HV:Hid (∀(i:Nat) (t:Cla),l[i]? = some t→∃b off x,a=some ⟨b,off,none⟩∧b<w.heap.size∧w.cell? ⟨b,off+i,none⟩=some x∧LArg w x t):=hr
 unfold maxLen at hm
 obtain⟨hm1,hm⟩:=hm
 obtain⟨R,hR⟩:∃R,zDz vs l=R:=⟨_,rfl⟩
 rw[hR]
 have HE:Hid (R=if 600<l.length then 2 else zAe (l.map (claE vs))):=by rw[←hR];rfl
 clear hR hr
 by_cases h40:600<l.length
 ·have HN:Hid (R=2):=by rw[HE.out,if_pos h40];rfl
  go_enter Tryz.func121,Tryz.ntmps121
  go_wp2
  go_ret
  exact⟨zAI HN.out.symm,Below.refl _ _⟩
 ·have HE2:Hid (R=zAe (l.map (claE vs))):=by rw[HE.out,if_neg h40];rfl
  go_enter Tryz.func121,Tryz.ntmps121
  go_wp2_with fail
  go_loopw [13] (fun i wr=>∃k:Nat,k≤l.length∧i=.int .i64 k∧Hid (zAe ((l.map (claE vs)).take k)=0)∧Below w.heap.size w wr) (fun i _=>l.length - (intOf i).toNat)
  case atStart=>exact⟨0,by omega,rfl,rfl,Below.refl _ _⟩
  case round =>
   obtain⟨k,hk,rfl,hall,hbw⟩:=hrel
   by_cases hlt:k<l.length
   ·obtain⟨t,hz⟩:∃z,l[k]? = some z:=⟨l[k],by simp[hlt]⟩
    obtain⟨b,off,x,ha,hb,q0,hx⟩:=HV.out k t hz
    have HX:Hid (LArg wr x t):=LArg.below hbw hx
    obtain⟨a5,c5,rfl,_,_⟩:=hx
    have hc0:=(hbw.cell (p:=⟨b,off+k,none⟩) hb).trans q0
    subst ha
    obtain⟨er,her⟩:∃er,claE vs t=er:=⟨_,rfl⟩
    have HER:Hid (claE vs t=er):=her
    have HZ:Hid ((l.map (claE vs))[k]? = some er):=by show _=_;rw[List.getElem?_map,hz,←her];rfl
    clear hz q0 her
    go_wp2_with fail
    refine (zHx vs t _ _ _ (HVA.out _ hbw) HX.out).mono ?_
    rintro e w2 ⟨rfl,hb2⟩
    rw[HER.out]
    have hB2:Below w.heap.size w w2:=hbw.trans (hb2.mono hbw.size)
    clear hb2
    by_cases he:er=0
    ·subst he
     have HN:Hid (zAe ((l.map (claE vs)).take (k+1))=0):=zCv _ k hall.out HZ.out
     go_wp2
     go_roundw
     case rel=>exact⟨k+1,by omega,by go_num,HN,hB2⟩
     case measure=>simp[intOf];omega
    ·have HN:Hid (R=er):=by rw[HE2.out];exact zDN _ k er hall.out HZ.out he
     have he2:(er != 0)=true:=by simpa using he
     clear he
     go_wp2
     go_ret
     exact⟨zAI HN.out.symm,hB2⟩
   ·have HN:Hid (R=0):=by
     have:=hall.out
     rw[List.take_of_length_le (by simp;omega)] at this
     rw[HE2.out];exact this
    go_wp2
    go_ret
    exact⟨zAI HN.out.symm,hbw⟩
set_option maxHeartbeats 800000 in
set_option maxRecDepth 100000 in
theorem zNi (l:MLit) (w:World) (h1:1≤l.op∧l.op≤4) (h2:-1000≤l.n∧l.n≤1000) :
 Calls Tryz.prog 226 #[.agg #[.int .i64 l.var,.int .i64 l.op,.int .i64 l.n]] w fun e w'=>e=.returned (.agg #[.int .i64 (oppL l).var,.int .i64 (oppL l).op,.int .i64 (oppL l).n])∧Below w.heap.size w w':=by
 obtain⟨v,op,n⟩:=l
 simp only at h1 h2
 obtain⟨h21,h22⟩:=h2
 rcases (show op=1∨op=2∨op=3∨op=4 by omega) with rfl | rfl | rfl | rfl
 all_goals
  clear h1
  go_enter Tryz.func226,Tryz.ntmps226
  go_wp2
  refine bodyPost_ret (by simp[results,Tryz.results226,go_sem];exact⟨rfl,rfl,rfl⟩) rfl ⟨rfl,?_⟩
  exact (zAA _ _).alloc (by simp) _
set_option maxHeartbeats 800000 in
set_option maxRecDepth 100000 in
theorem zKU (m:Mod) (l:MLit) (vs cs:Value) (w:World) (hm:MArg w vs cs m) :
 Calls Tryz.prog 225 #[modV vs cs m,.agg #[.int .i64 l.var,.int .i64 l.op,.int .i64 l.n]] w fun e w'=>e=.returned (.int .i64 (zCe m l))∧Below w.heap.size w w':=by
 have HMA:Hid (∀w':World,Below w.heap.size w w'→MArg w' vs cs m):=fun w' h=>MArg.below h hm
 obtain⟨⟨a1,c1,rfl,_,_⟩,⟨a2,c2,rfl,_,_⟩⟩:=hm
 obtain⟨R,hR⟩:∃R,zCe m l=R:=⟨_,rfl⟩
 rw[hR]
 obtain⟨er,her⟩:∃er,zAP m=er:=⟨_,rfl⟩
 have HER:Hid (zAP m=er):=her
 have HE:Hid (R=if er=0 then litE m.vars l else er):=by rw[←hR,←her];rfl
 clear hR her
 unfold modV
 go_enter Tryz.func225,Tryz.ntmps225
 go_wp2_with fail
 refine (zDg m (.slice a1 m.vars.length c1) (.slice a2 m.cons.length c2) _ ?_).mono ?_
 ·exact HMA.out _ ((zAA _ _).alloc (by simp) _)
 rintro e w1 ⟨rfl,hb1⟩
 rw[HER.out]
 have g0:w1.cell? ⟨w.heap.size,0,none⟩=some (.slice a1 m.vars.length c1):=(hb1.cell (by simp;omega)).trans (by simp)
 have d0:w1.cell? ⟨w.heap.size+1,0,none⟩=some (.int .i64 l.var):=(hb1.cell (by simp)).trans (World.cell?_alloc_at _ _ _ 0 (by simp))
 have d1:w1.cell? ⟨w.heap.size+1,1,none⟩=some (.int .i64 l.op):=(hb1.cell (by simp)).trans (World.cell?_alloc_at _ _ _ 1 (by simp))
 have d2:w1.cell? ⟨w.heap.size+1,2,none⟩=some (.int .i64 l.n):=(hb1.cell (by simp)).trans (World.cell?_alloc_at _ _ _ 2 (by simp))
 have HB1:Hid (Below w.heap.size w w1):=((zAA _ _).alloc (by simp) _).trans (hb1.mono (by simp;omega))
 clear hb1
 by_cases he:er=0
 ·subst he
  have HN:Hid (R=litE m.vars l):=by rw[HE.out,if_pos rfl];rfl
  go_wp2_with fail
  refine (zFa m.vars l _ _ (HMA.out _ HB1.out).1).mono ?_
  rintro e w2 ⟨rfl,hb2⟩
  have hb3:Below w.heap.size w w2:=HB1.out.trans (hb2.mono HB1.out.size)
  clear hb2
  go_wp2
  go_ret
  exact⟨zAI HN.out.symm,hb3⟩
 ·have HN:Hid (R=er):=by rw[HE.out,if_neg he];rfl
  have he2:(er != 0)=true:=by simpa using he
  clear he
  go_wp2
  go_ret
  exact⟨zAI HN.out.symm,HB1.out⟩
theorem zGO (m:Mod) (s:Sto) (hm:zAP m=0) (hs:zHP m.vars s=0):s.length≤6∧∀r∈s,r.length≤6:=by
 have h1:=(zAo m hm).2.1
 have h2:=((zFC _ _).1 hs).1
 refine⟨by omega,fun r hr=>?_⟩
 obtain⟨i,hi⟩:=List.mem_iff_getElem?.1 hr
 exact zLV m s hm hs i r hi
end Go.Proofs.YtndcpnlaadikoaaGreatDoor
