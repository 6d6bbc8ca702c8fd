/- What the proof leans on, part 16. -/
import Derived.Test.YtdjbejlbmaiocagGreatDoorPartAo
import Derived.Test.YtdjbejlbmaiocagGreatDoorPartAn
import Derived.Test.YtdjbejlbmaiocagGreatDoorPartAj
set_option maxRecDepth 100000
set_option maxHeartbeats 3200000
namespace Go.Proofs.YtdjbejlbmaiocagGreatDoor
open Go.RowKit
theorem Tryz.infoParts:(Tryz.prog.info? 180).map (fun i=>(i.zero,i.size,i.bytes))=some (some (.slice none 0 0),1,24):=by kernel_rfl
theorem Tryz.underPartss:Tryz.prog.underlying 198=some (.slice 180):=by kernel_rfl
theorem zSG (w:World) (n base:Nat) (hn:n≤1000) (hb:base≤w.heap.size):(w.alloc (.cells (madeCells #[.slice none 0 0] n) 180)).ownsRow base 180 1 (.slice (some ⟨w.heap.size,0,none⟩) n n) n (List.replicate n (.slice none 0 0)):=by
 refine⟨by simp,Or.inr ⟨w.heap.size,n,_,rfl,hb,heap_alloc_new w _,Nat.le_refl _,by unfold maxLen;omega,?_,?_⟩⟩
 ·have h:=congrArg List.length (toList_madeCells_one (.slice none 0 0) n)
  simp at h;simpa using h
 ·rw[toList_madeCells_one]
  simp
def zFM (B n:Nat) (cells:List Value) (l:List (List Nat)) (k:Nat) (w:World):Prop :=
 w.ownsRow B 180 1 (.slice (some ⟨B,0,none⟩) n n) n cells∧∀j r,j<k→l[j]? = some r→∃x,cells[j]? = some x∧w.ownsRow (B+1) 183 1 x r.length (u64s r)
theorem zFM.below {B n k:Nat} {cells:List Value} {l:List (List Nat)} {w w':World} (h:zFM B n cells l k w) (hb:Below w.heap.size w w'):zFM B n cells l k w':=by
 refine⟨zAG h.1 hb,fun j r hj hr=>?_⟩
 obtain⟨x,h1,h2⟩:=h.2 j r hj hr;exact⟨x,h1,zAG h2 hb⟩
theorem zFM.put {B n k:Nat} {cells:List Value} {l:List (List Nat)} {w:World} {x:Value} {r:List Nat} (h:zFM B n cells l k w) (hk:k<n) (hr:l[k]? = some r) (hx:w.ownsRow (B+1) 183 1 x r.length (u64s r)):zFM B n (cells.set k x) l (k+1) (w.setCell ⟨B,k,none⟩ x):=by
 have hlen:cells.length=n:=by have:=h.1.1;omega
 have keep:∀{y:Value} {q:List Nat},w.ownsRow (B+1) 183 1 y q.length (u64s q)→(w.setCell ⟨B,k,none⟩ x).ownsRow (B+1) 183 1 y q.length (u64s q):=fun hy =>
  zFs hy fun g hg=>Below.heap_setCell _ _ _ _ (fun he=>by have:=(hy.lt g hg).1;simp only at he;omega)
 refine⟨(h.1.stored k x).1,fun j q hj hq=>?_⟩
 by_cases hjk:j=k
 ·subst hjk
  rw[hr] at hq;cases hq
  exact⟨x,by rw[List.getElem?_set_self (by omega)],keep hx⟩
 ·obtain⟨y,h1,h2⟩:=h.2 j q (by omega) hq
  exact⟨y,by rw[List.getElem?_set_ne (fun h=>hjk h.symm)];exact h1,keep h2⟩
theorem zFM.arg {B n:Nat} {cells:List Value} {l:List (List Nat)} {w:World} (h:zFM B n cells l n w) (hl:l.length=n) (hlt:∀r∈l,∀z∈r,z<2 ^ 36) (hn:n≤1000):zGA w (.slice (some ⟨B,0,none⟩) n n) l:=by
 refine⟨_,n,by rw[hl],⟨by omega,by unfold maxLen;omega⟩,fun i r hr=>?_⟩
 have hi:i<n:=by rw[←hl];exact (List.getElem?_eq_some_iff.1 hr).1
 obtain⟨x,h1,h2⟩:=h.2 i r hi hr;exact⟨B,0,x,rfl,(h.1.lt B rfl).2,by rw[Nat.zero_add,h.1.cellAt i (by omega)];exact h1,zEh h2 (hlt r (List.mem_of_getElem? hr))⟩
theorem zSH (m:Mod) (hm:zAF m=0) (given:List Cla) (hg6:given.length≤600) (vs cs u:Value) (w:World) (hma:MArg w vs cs m) (hu:zFA w u given) (hT:TabT w) :
 Calls Tryz.prog 81 #[modV vs cs m,u] w fun e w'=>∃N bm bp ba pv,e=.returned (.func (.func 143) #[] #[.pointer (some ⟨bm,0,none⟩),.pointer (some ⟨bp,0,none⟩),.pointer (some ⟨ba,0,none⟩)]) ∧
  zFB N bm bp ba m vs cs pv (given.map (zAH m.vars)) w'∧w.heap.size≤N∧Below w.heap.size w w':=by
 have HMA:Hid (∀w',Below w.heap.size w w'→MArg w' vs cs m):=fun w' h=>MArg.below h hma
 have HU:Hid (∀w',Below w.heap.size w w'→zFA w' u given):=fun w' h=>zFA.below h hu
 have HT:Hid (∀w',Below w.heap.size w w'→TabT w'):=fun w' h=>hT.below h
 have HM:Hid (zAF m=0):=hm;have hc8:m.cons.length≤8:=(zA9 m hm).2.2.1;have hmk:=run_make_row' (P:=Tryz.prog) 198 180 (.slice none 0 0) 24 Tryz.underPartss Tryz.infoParts rfl .i64 .i64 m.cons.length (by omega) (by omega)
 obtain⟨⟨a1,c1,rfl,_,_⟩,⟨a2,c2,rfl,hm2,_⟩⟩:=hma;unfold maxLen at hm2;obtain⟨hm21,hm2⟩:=hm2;obtain⟨a3,c3,rfl,_,_⟩:=hu;unfold modV;clear hm hT;go_enter Tryz.func81,Tryz.ntmps81
 go_wp2_with fail
 clear hmk;have HB0:Hid (Below w.heap.size w (((w.alloc (.cells #[.slice a1 m.vars.length c1,.slice a2 m.cons.length c2,.int .i64 m.goal,.int .i64 m.var] 25)).alloc (.cells (madeCells #[.slice none 0 0] m.cons.length) 180)).alloc (.cells #[.slice (some ⟨w.heap.size+1,0,none⟩) m.cons.length m.cons.length] 198))):=((zAA _ _).alloc (by simp) _).alloc (by simp;omega) _
 have HQ:Hid ((((w.alloc (.cells #[.slice a1 m.vars.length c1,.slice a2 m.cons.length c2,.int .i64 m.goal,.int .i64 m.var] 25)).alloc (.cells (madeCells #[.slice none 0 0] m.cons.length) 180)).alloc (.cells #[.slice (some ⟨w.heap.size+1,0,none⟩) m.cons.length m.cons.length] 198)).cell? ⟨w.heap.size,0,none⟩=some (.slice a1 m.vars.length c1)∧(((w.alloc (.cells #[.slice a1 m.vars.length c1,.slice a2 m.cons.length c2,.int .i64 m.goal,.int .i64 m.var] 25)).alloc (.cells (madeCells #[.slice none 0 0] m.cons.length) 180)).alloc (.cells #[.slice (some ⟨w.heap.size+1,0,none⟩) m.cons.length m.cons.length] 198)).cell? ⟨w.heap.size,1,none⟩=some (.slice a2 m.cons.length c2)∧(((w.alloc (.cells #[.slice a1 m.vars.length c1,.slice a2 m.cons.length c2,.int .i64 m.goal,.int .i64 m.var] 25)).alloc (.cells (madeCells #[.slice none 0 0] m.cons.length) 180)).alloc (.cells #[.slice (some ⟨w.heap.size+1,0,none⟩) m.cons.length m.cons.length] 198)).cell? ⟨w.heap.size,2,none⟩=some (.int .i64 m.goal)∧(((w.alloc (.cells #[.slice a1 m.vars.length c1,.slice a2 m.cons.length c2,.int .i64 m.goal,.int .i64 m.var] 25)).alloc (.cells (madeCells #[.slice none 0 0] m.cons.length) 180)).alloc (.cells #[.slice (some ⟨w.heap.size+1,0,none⟩) m.cons.length m.cons.length] 198)).cell? ⟨w.heap.size,3,none⟩=some (.int .i64 m.var)):=by
  refine⟨?_,?_,?_,?_⟩
  all_goals rw[World.cell?_alloc_past _ _ _ (by simp;omega),World.cell?_alloc_past _ _ _ (by simp)]
  ·exact World.cell?_alloc_at _ _ _ 0 (by simp)
  ·exact World.cell?_alloc_at _ _ _ 1 (by simp)
  ·exact World.cell?_alloc_at _ _ _ 2 (by simp)
  ·exact World.cell?_alloc_at _ _ _ 3 (by simp)
 have HQP:Hid ((((w.alloc (.cells #[.slice a1 m.vars.length c1,.slice a2 m.cons.length c2,.int .i64 m.goal,.int .i64 m.var] 25)).alloc (.cells (madeCells #[.slice none 0 0] m.cons.length) 180)).alloc (.cells #[.slice (some ⟨w.heap.size+1,0,none⟩) m.cons.length m.cons.length] 198)).cell? ⟨w.heap.size+1+1,0,none⟩=some (.slice (some ⟨w.heap.size+1,0,none⟩) m.cons.length m.cons.length)):=World.cell?_alloc_at _ _ _ 0 (by simp)
 have HO0:Hid (zFM (w.heap.size+1) m.cons.length (List.replicate m.cons.length (.slice none 0 0)) (m.cons.map (zAM m.vars)) 0 (((w.alloc (.cells #[.slice a1 m.vars.length c1,.slice a2 m.cons.length c2,.int .i64 m.goal,.int .i64 m.var] 25)).alloc (.cells (madeCells #[.slice none 0 0] m.cons.length) 180)).alloc (.cells #[.slice (some ⟨w.heap.size+1,0,none⟩) m.cons.length m.cons.length] 198))):=by
  refine⟨?_,fun j r hj=>by omega⟩
  have h:=(zSG (w.alloc (.cells #[.slice a1 m.vars.length c1,.slice a2 m.cons.length c2,.int .i64 m.goal,.int .i64 m.var] 25)) m.cons.length (w.heap.size+1) (by omega) (by simp)).alloc (.cells #[.slice (some ⟨w.heap.size+1,0,none⟩) m.cons.length m.cons.length] 198)
  simpa using h
 have HS0:Hid ((((w.alloc (.cells #[.slice a1 m.vars.length c1,.slice a2 m.cons.length c2,.int .i64 m.goal,.int .i64 m.var] 25)).alloc (.cells (madeCells #[.slice none 0 0] m.cons.length) 180)).alloc (.cells #[.slice (some ⟨w.heap.size+1,0,none⟩) m.cons.length m.cons.length] 198)).heap.size=w.heap.size+3):=by show _=_;simp
 obtain⟨W,hW⟩:∃W,(((w.alloc (.cells #[.slice a1 m.vars.length c1,.slice a2 m.cons.length c2,.int .i64 m.goal,.int .i64 m.var] 25)).alloc (.cells (madeCells #[.slice none 0 0] m.cons.length) 180)).alloc (.cells #[.slice (some ⟨w.heap.size+1,0,none⟩) m.cons.length m.cons.length] 198))=W:=⟨_,rfl⟩;rw[hW] at HB0 HQ HQP HO0 HS0 ⊢;clear hW;obtain⟨L,hL⟩:∃L,m.cons.map (zAM m.vars)=L:=⟨_,rfl⟩;have HL:Hid (m.cons.map (zAM m.vars)=L):=hL;rw[hL] at HO0;clear hL;go_loopw [15] (fun i wr=>∃(k:Nat) (cells:List Value),k≤m.cons.length∧i=.int .i64 k∧Hid (zFM (w.heap.size+1) m.cons.length cells L k wr)∧Hid (Below (w.heap.size+1) W wr)∧Hid (wr.cell? ⟨w.heap.size+1+1,0,none⟩=some (.slice (some ⟨w.heap.size+1,0,none⟩) m.cons.length m.cons.length))) (fun i _=>m.cons.length - (intOf i).toNat)
 case atStart=>exact⟨0,_,by omega,rfl,HO0,Below.refl _ _,HQP⟩
 case round =>
  obtain⟨k,cells,hk,rfl,HROW,HBW,HCP⟩:=hrel;have HBN:Hid (Below w.heap.size w wr):=HB0.out.trans (HBW.out.mono (by omega))
  have HSZ:Hid (w.heap.size+3≤wr.heap.size):=by have:=HBW.out.size;have:=HS0.out;show _≤_;omega
  obtain⟨q0,q1,q2,q3⟩:=HQ.out;have k0:=(HBW.out.cell (p:=⟨w.heap.size,0,none⟩) (by simp only;omega)).trans q0
  have k1:=(HBW.out.cell (p:=⟨w.heap.size,1,none⟩) (by simp only;omega)).trans q1
  have k2:=(HBW.out.cell (p:=⟨w.heap.size,2,none⟩) (by simp only;omega)).trans q2
  have k3:=(HBW.out.cell (p:=⟨w.heap.size,3,none⟩) (by simp only;omega)).trans q3
  have kp:=HCP.out;clear q0 q1 q2 q3;by_cases hlt:k<m.cons.length
  ·obtain⟨c,hc⟩:∃c,m.cons[k]? = some c:=⟨m.cons[k],by simp[hlt]⟩
   have HLK:Hid (L[k]? = some (zAM m.vars c)):=by show _=_;rw[←HL.out,List.getElem?_map,hc];rfl
   have HPT:Hid (∀Y,Below wr.heap.size wr Y→Calls Tryz.prog 127 #[.agg #[.slice a1 m.vars.length c1,.slice a2 m.cons.length c2,.int .i64 m.goal,.int .i64 m.var],.int .i64 (k:Int)] Y fun e w'=>∃x,e=.returned x∧w'.ownsRow Y.heap.size 183 1 x (zAM m.vars c).length (u64s (zAM m.vars c))∧Below Y.heap.size Y w'):=fun Y hY =>
    zJg m k c _ _ Y HM.out hc (HMA.out _ (HBN.out.trans (hY.mono HBN.out.size)))
   have HLEN:Hid (cells.length=m.cons.length):=by have:=HROW.out.1.1;show _=_;omega
   obtain⟨y,hy⟩:∃y,cells[k]? = some y:=⟨cells[k]'(by rw[HLEN.out];exact hlt),by simp⟩
   have HY:Hid (cells[k]? = some y):=hy;have lr:w.heap.size<wr.heap.size:=by have:=HSZ.out;omega
   clear hc hy;go_wp2_with fail
   go_region_law
    (rw[if_pos (by rfl)];go_simp;go_at_call 127;refine (HPT.out _ (Below.refl _ _).drew).mono ?_;rintro e w3 ⟨x,rfl,hx,hb3⟩;obtain⟨ax,cx,rfl⟩:=zAB hx;have hB3:Below wr.heap.size wr w3:=(Below.refl _ _).drew.trans hb3;have s0:=(hB3.cell (p:=⟨w.heap.size+1+1,0,none⟩) (by have:=HSZ.out;simp only;omega)).trans kp;have HR3:=HROW.out.below hB3;have cB:w3.cell? ⟨w.heap.size+1,k,none⟩=some y:=(HR3.1.cellAt k (by omega)).trans HY.out;have zB:=HR3.1.frozenAt k;have lB:w.heap.size+1<w3.heap.size:=(HR3.1.lt (w.heap.size+1) rfl).2;dsimp only)
   all_goals
    have HPUT:Hid (zFM (w.heap.size+1) m.cons.length (cells.set k (.slice ax (zAM m.vars c).length cx)) L (k+1) (w3.setCell ⟨w.heap.size+1,k,none⟩ (.slice ax (zAM m.vars c).length cx))):=HR3.put hlt HLK.out (World.ownsRow.mono hx (by show w.heap.size+1+1≤wr.heap.size;have:=HSZ.out;omega))
    have HBS:Hid (Below (w.heap.size+1) W (w3.setCell ⟨w.heap.size+1,k,none⟩ (.slice ax (zAM m.vars c).length cx))):=(HBW.out.trans (hB3.mono (by have:=HSZ.out;omega))).setCell (show w.heap.size+1≤w.heap.size+1 from Nat.le_refl _) _
    have HCS:Hid ((w3.setCell ⟨w.heap.size+1,k,none⟩ (.slice ax (zAM m.vars c).length cx)).cell? ⟨w.heap.size+1+1,0,none⟩=some (.slice (some ⟨w.heap.size+1,0,none⟩) m.cons.length m.cons.length)):=(World.cell?_of_block (Below.heap_setCell _ _ _ _ (fun h=>by simp only at h;omega))).trans s0
    clear hx hb3 hB3 s0 HR3 k0 k1 k2 k3 kp;go_wp2
    go_roundw
    case rel=>exact⟨k+1,_,by omega,by go_num,HPUT,HBS,HCS⟩
    case measure=>simp[intOf];omega
  ·have hke:k=m.cons.length:=by omega
   subst hke;have HPP:Hid (zGA wr (.slice (some ⟨w.heap.size+1,0,none⟩) m.cons.length m.cons.length) L):=HROW.out.arg (by rw[←HL.out,List.length_map]) (by
    rw[←HL.out];intro r hr;obtain⟨c,hcm,rfl⟩:=List.mem_map.1 hr;obtain⟨j,hj⟩:=List.mem_iff_getElem?.1 hcm;exact zJh m HM.out j c hj) (by omega)
   have lr:w.heap.size<wr.heap.size:=by have:=HSZ.out;omega
   obtain⟨W2,hW2⟩:∃W2:World,W2=wr:=⟨_,rfl⟩;rw[←hW2] at HPP HBN HSZ k0 k1 k2 k3 kp lr ⊢;have HK0:Hid (W2.cell? ⟨w.heap.size,0,none⟩=some (.slice a1 m.vars.length c1)):=k0;have HKP:Hid (W2.cell? ⟨w.heap.size+1+1,0,none⟩=some (.slice (some ⟨w.heap.size+1,0,none⟩) m.cons.length m.cons.length)):=kp;clear hW2 HROW HBW HCP;go_wp2_with fail
   refine (zQJ m HM.out given hg6 _ _ _ _ (HMA.out _ HBN.out) (HU.out _ HBN.out)).mono ?_;rintro e w5 ⟨x,rfl,hx,hb5⟩;obtain⟨ax,cx,rfl⟩:=zAB hx;have HWS:Hid (zFB W2.heap.size w.heap.size (w.heap.size+1+1) w5.heap.size m (.slice a1 m.vars.length c1) (.slice a2 m.cons.length c2) (.slice (some ⟨w.heap.size+1,0,none⟩) m.cons.length m.cons.length) (given.map (zAH m.vars)) (w5.alloc (.cells #[.slice ax given.length cx] 180))):=by
    have hbx:Below W2.heap.size W2 (w5.alloc (.cells #[.slice ax given.length cx] 180)):=hb5.alloc hb5.size _;refine⟨⟨hb5.size,hbx.size⟩,⟨W2,Nat.le_refl _,⟨HMA.out _ HBN.out,by rw[HL.out];exact HPP.out,HK0.out,HKP.out,HT.out _ HBN.out⟩,hbx⟩,zSE m HM.out given,.slice ax given.length cx,?_,?_,?_⟩
    ·exact World.ownsRow_lit w5 #[.slice ax given.length cx] 1 hb5.size (by unfold maxLen;omega) rfl
    ·rw[List.length_map]
     exact World.ownsRow.mono (hx.alloc _) (by omega)
    ·intro he
     have:=(hx.lt _ he).2;omega
   have HBF:Hid (Below w.heap.size w (w5.alloc (.cells #[.slice ax given.length cx] 180))):=HBN.out.trans ((hb5.alloc hb5.size _).mono HBN.out.size);have HNS:Hid (w.heap.size≤W2.heap.size):=HBN.out.size;clear hx hb5 k0 k1 k2 k3 kp;go_wp2
   go_ret
   exact⟨_,_,_,_,_,rfl,HWS.out,HNS.out,HBF.out⟩
def zIK (l:List MStep):Bool:=match l.getLast? with
 | none=>false
 | some s=>decide (s.cla.length=0)
def zBR (m:Mod) (given:List Cla) (l:List MStep):Bool×Int :=
 if zDG m given l=0 then (if zIK l then (zBZ m (given.map (zAH m.vars)) l,0) else (false,0)) else (false,zDG m given l)
theorem zMm (m:Mod):∀(l:List MStep) (ahead:List Nat) (k:Nat) (s:MStep),l[k]? = some s →
 zBZ m ahead (l.drop k)=(zDg m ahead s&&zBZ m (ahead++[zAH m.vars s.cla]) (l.drop (k+1))):=by
 intro l ahead k s h;have hk:k<l.length:=(List.getElem?_eq_some_iff.1 h).1;have hs:l[k]=s:=by rw[List.getElem?_eq_getElem hk] at h;exact Option.some.inj h
 rw[List.drop_eq_getElem_cons hk,hs];rfl
theorem zOm (m:Mod) (given:List Cla) (l:List MStep) (vs cs ul u:Value) (w:World) (hma:MArg w vs cs m) (hul:zFA w ul given) (hu:zHc w u l) (hT:TabT w) :
 Calls Tryz.prog 35 #[modV vs cs m,ul,u] w fun e w'=>e=.returned (.tuple #[.bool (zBR m given l).1,.int .i64 (zBR m given l).2])∧Below w.heap.size w w':=by
 have HMA:Hid (∀w',Below w.heap.size w w'→MArg w' vs cs m):=fun w' h=>MArg.below h hma
 have HL:Hid (∀w',Below w.heap.size w w'→zFA w' ul given):=fun w' h=>zFA.below h hul
 have HSA:Hid (∀w',Below w.heap.size w w'→zHc w' u l):=fun w' h=>zHc.below h hu
 have HT:Hid (∀w',Below w.heap.size w w'→TabT w'):=fun w' h=>hT.below h
 obtain⟨R,hR⟩:∃R,zBR m given l=R:=⟨_,rfl⟩;have HR:Hid (zBR m given l=R):=hR;rw[hR];obtain⟨⟨a1,c1,rfl,_,_⟩,⟨a2,c2,rfl,_,_⟩⟩:=hma;obtain⟨a3,c3,rfl,hm3,hr3⟩:=hu;have HST:Hid (∀(i:Nat) (t:MStep),l[i]? = some t→∃b off x,a3=some ⟨b,off,none⟩∧b<w.heap.size ∧
  w.cell? ⟨b,off+i * 3,none⟩=some (.int .i64 t.kind)∧w.cell? ⟨b,off+i * 3+1,none⟩=some (.int .i64 t.con)∧w.cell? ⟨b,off+i * 3+2,none⟩=some x∧LArg w x t.cla):=hr3
 unfold maxLen at hm3;obtain⟨hm31,hm3⟩:=hm3;obtain⟨a4,c4,rfl,_,_⟩:=hul;unfold modV;clear hR hr3 hT;go_enter Tryz.func35,Tryz.ntmps35
 go_wp2_with fail
 refine (zMl m given l _ _ _ _ _ (HMA.out _ (zAA _ _)) (HL.out _ (zAA _ _)) (HSA.out _ (zAA _ _))).mono ?_;rintro e w1 ⟨rfl,hb1⟩;have HB1:Hid (Below w.heap.size w w1):=(zAA _ _).trans (hb1.mono (by simp))
 have l1:w.heap.size<w1.heap.size:=by have:=hb1.size;simp at this;omega
 have k0:w1.cell? ⟨w.heap.size,0,none⟩=some (.slice a1 m.vars.length c1):=(hb1.cell (by simp)).trans (World.cell?_alloc_at _ _ _ 0 (by simp))
 have k1:w1.cell? ⟨w.heap.size,1,none⟩=some (.slice a2 m.cons.length c2):=(hb1.cell (by simp)).trans (World.cell?_alloc_at _ _ _ 1 (by simp))
 have k2:w1.cell? ⟨w.heap.size,2,none⟩=some (.int .i64 m.goal):=(hb1.cell (by simp)).trans (World.cell?_alloc_at _ _ _ 2 (by simp))
 have k3:w1.cell? ⟨w.heap.size,3,none⟩=some (.int .i64 m.var):=(hb1.cell (by simp)).trans (World.cell?_alloc_at _ _ _ 3 (by simp))
 clear hb1;obtain⟨er,her⟩:∃er,zDG m given l=er:=⟨_,rfl⟩;have HER:Hid (zDG m given l=er):=her;rw[her];clear her;by_cases he:er=0
 ·subst he
  obtain⟨ok1,ok2,ok3,ok4,ok5⟩:=zLH m given l HER.out;have HM:Hid (zAF m=0):=ok1;have HG6:Hid (given.length≤600):=(zRw m.vars given ok3).1;have HK5:Hid (∀s∈l,s.kind=1→0≤s.con∧s.con<(m.cons.length:Int)):=ok5;have HR2:Hid (R=if zIK l then (zBZ m (given.map (zAH m.vars)) l,0) else (false,0)):=by
   show _=_;rw[←HR.out];unfold zBR;rw[if_pos HER.out]
  clear HR ok1 ok3 ok4 ok5;by_cases hl0:l.length=0
  ·have hnil:l=[]:=List.eq_nil_of_length_eq_zero hl0
   have HRF:Hid (R=(false,0)):=by show _=_;rw[HR2.out,hnil];rfl
   have g0:((l.length:Int)==0)=true:=by simp[hl0]
   clear hnil HR2;go_wp2
   go_ret2
   exact⟨by rw[HRF.out];rfl,HB1.out⟩
  ·have g0:((l.length:Int)==0)=false:=by simpa using hl0
   obtain⟨n,hn⟩:∃n,l.length=n+1:=⟨l.length - 1,by omega⟩
   obtain⟨t,ht⟩:∃t,l[n]? = some t:=⟨l[n]'(by omega),by simp⟩
   have HLB:Hid (zIK l=decide (t.cla.length=0)):=by
    show _=_;unfold zIK;rw[List.getLast?_eq_getElem?,hn,Nat.add_sub_cancel,ht]
   obtain⟨b,off,x,hax,hb,q0,q1,q2,hxa⟩:=HST.out n t ht;subst hax;have hc2:=(HB1.out.cell (p:=⟨b,off+n * 3+2,none⟩) hb).trans q2;obtain⟨ax,cx,rfl,_,_⟩:=hxa;have g1:(l.length:Int) - 1=(n:Int):=by omega
   have g2:IntKind.i64.wrap ((l.length:Int) - 1)=(n:Int):=by rw[g1];simp[IntKind.wrap,IntKind.signed,IntKind.bits];omega
   have g3:n<l.length:=by omega
   have g5:(0:Int)≤(n:Int):=by omega
   clear q0 q1 q2 ht hb hn g1;by_cases htl:t.cla.length=0
   ·have HR3:Hid (R=(zBZ m (given.map (zAH m.vars)) l,0)):=by
     show _=_;rw[HR2.out,HLB.out,decide_eq_true htl];rfl
    have g4:((t.cla.length:Int) != 0)=false:=by simp[htl]
    clear HR2 htl;go_wp2_with fail
    refine (zSH m HM.out given HG6.out _ _ _ _ (HMA.out _ HB1.out) (HL.out _ HB1.out) (HT.out _ HB1.out)).mono ?_;rintro e w2 ⟨N,bm,bp,ba,pv,rfl,hws,hN,hb2⟩;have HWS:Hid (zFB N bm bp ba m (.slice a1 m.vars.length c1) (.slice a2 m.cons.length c2) pv (given.map (zAH m.vars)) w2):=hws;have HB2:Hid (Below w.heap.size w w2):=HB1.out.trans (hb2.mono HB1.out.size);have HNN:Hid (w.heap.size≤N):=Nat.le_trans HB1.out.size hN;clear hws hb2 hN k0 k1 k2 k3 l1 hc2 g2 g4 g5;go_wp2_with fail
    go_loopw [38] (fun i wr=>∃(k:Nat) (ahead:List Nat),k≤l.length∧i=.int .i64 k∧Hid (zFB N bm bp ba m (.slice a1 m.vars.length c1) (.slice a2 m.cons.length c2) pv ahead wr)∧Hid (zBZ m (given.map (zAH m.vars)) l=zBZ m ahead (l.drop k))∧Hid (ahead.length=given.length+k)∧Hid (Below w.heap.size w wr)) (fun i _=>l.length - (intOf i).toNat)
    case atStart=>exact⟨0,_,by omega,rfl,HWS,rfl,by show _=_;simp,HB2⟩
    case round =>
     obtain⟨k,ahead,hk,rfl,HW,HSP,HAL,HBW⟩:=hrel;by_cases hlt:k<l.length
     ·obtain⟨t,ht⟩:∃t,l[k]? = some t:=⟨l[k],by simp[hlt]⟩
      obtain⟨b',off',x,hax,hb,q0,q1,q2,hxa⟩:=HST.out k t ht
      injection hax with hax
      injection hax with hax1 hax2
      subst hax1;subst hax2;have hc0:=(HBW.out.cell (p:=⟨b,off+k * 3,none⟩) hb).trans q0;have hc1:=(HBW.out.cell (p:=⟨b,off+k * 3+1,none⟩) hb).trans q1;have hc2:=(HBW.out.cell (p:=⟨b,off+k * 3+2,none⟩) hb).trans q2;have HXA:Hid (∀w',Below w.heap.size w w'→LArg w' x t.cla):=fun w' h=>LArg.below h hxa
      obtain⟨ax,cx,rfl,_,_⟩:=hxa;have HKT:Hid (t.kind=1→0≤t.con∧t.con<(m.cons.length:Int)):=HK5.out t (List.mem_of_getElem? ht);have HST2:Hid (zBZ m ahead (l.drop k)=(zDg m ahead t&&zBZ m (ahead++[zAH m.vars t.cla]) (l.drop (k+1)))):=zMm m l ahead k t ht;have hbud:ahead.length≤100000:=by have:=HAL.out;have:=HG6.out;omega
      clear ht q0 q1 q2 hb;go_wp2_with fail
      refine (zQK N bm bp ba m _ _ pv _ ahead t _ HM.out (HW.out.below (zAA _ _)) (HXA.out _ (HBW.out.alloc HBW.out.size _)) HKT.out hbud).mono ?_;rintro e w3 ⟨rfl,hw3,hb3⟩;have HW3:Hid (zFB N bm bp ba m (.slice a1 m.vars.length c1) (.slice a2 m.cons.length c2) pv (ahead++[zAH m.vars t.cla]) w3):=hw3;have HB3:Hid (Below w.heap.size w w3):=(HBW.out.alloc HBW.out.size _).trans (hb3.mono HNN.out);obtain⟨B,hB⟩:∃B,zDg m ahead t=B:=⟨_,rfl⟩;rw[hB] at HST2 ⊢;clear hw3 hb3 hB hbud hc0 hc1 hc2;cases B
      ·have HRF:Hid (R=(false,0)):=by show _=_;rw[HR3.out,HSP.out,HST2.out];rfl
       go_wp2
       go_ret2
       exact⟨by rw[HRF.out];rfl,HB3.out⟩
      ·have HSP2:Hid (zBZ m (given.map (zAH m.vars)) l=zBZ m (ahead++[zAH m.vars t.cla]) (l.drop (k+1))):=by show _=_;rw[HSP.out,HST2.out];rfl
       have HAL2:Hid ((ahead++[zAH m.vars t.cla]).length=given.length+(k+1)):=by show _=_;rw[List.length_append,HAL.out];simp;omega
       go_wp2
       go_roundw
       case rel=>exact⟨k+1,_,by omega,by go_num,HW3,HSP2,HAL2,HB3⟩
       case measure=>simp[intOf];omega
     ·have hke:k=l.length:=by omega
      have HRF:Hid (R=(true,0)):=by show _=_;rw[HR3.out,HSP.out,hke,List.drop_length];rfl
      clear hke;go_wp2
      go_ret2
      exact⟨by rw[HRF.out];rfl,HBW.out⟩
   ·have HRF:Hid (R=(false,0)):=by
     show _=_;rw[HR2.out,HLB.out,decide_eq_false htl];rfl
    have g4:((t.cla.length:Int) != 0)=true:=by simpa using htl
    clear HR2 htl;go_wp2
    go_ret2
    exact⟨by rw[HRF.out];rfl,HB1.out⟩
 ·have HRF:Hid (R=(false,er)):=by
   show _=_;rw[←HR.out];unfold zBR;rw[HER.out,if_neg he]
  have he2:(er != 0)=true:=by simpa using he
  clear he;go_wp2
  go_ret2
  exact⟨by rw[HRF.out];rfl,HB1.out⟩
theorem zGB {α:Type} (e:List α→Bool) (P:α→Prop) (hP:∀l x,x∈l→P x→e l=true):∀(k:Nat) (out:List α),k≤out.length→∃F,zA4 e k out=F++out.drop k∧(∀x∈F,x∈out.take k)∧((∃x∈out.drop k,P x)→F=[])∧((∃x∈F,P x)→F.length=1)
 | 0,out,_=>⟨[],by simp[zA4],fun x hx=>(by cases hx),fun _=>rfl,fun⟨x,hx,_⟩=>(by cases hx)⟩
 | k+1,out,hk=>by
   unfold zA4;have hkl:k<out.length:=by omega
   by_cases he:e (out.eraseIdx k)=true
   ·rw[if_pos he]
    have hlen:(out.eraseIdx k).length=out.length - 1:=by rw[List.length_eraseIdx];simp[hkl]
    obtain⟨F,f1,f2,f3,f4⟩:=zGB e P hP k (out.eraseIdx k) (by omega)
    have hd:(out.eraseIdx k).drop k=out.drop (k+1):=by
     rw[List.eraseIdx_eq_take_drop_succ,List.drop_append_of_le_length (by rw[List.length_take];omega),List.drop_of_length_le (by rw[List.length_take];omega),List.nil_append]
    have ht:(out.eraseIdx k).take k=out.take k:=by
     rw[List.eraseIdx_eq_take_drop_succ,List.take_append_of_le_length (by rw[List.length_take];omega),List.take_take,Nat.min_self]
    rw[hd] at f1 f3;rw[ht] at f2;exact⟨F,f1,fun x hx=>by rw[List.take_add_one];exact List.mem_append_left _ (f2 x hx),f3,f4⟩
   ·rw[if_neg he]
    obtain⟨F,f1,f2,f3,f4⟩:=zGB e P hP k out (by omega)
    have hd:out.drop k=out[k] :: out.drop (k+1):=List.drop_eq_getElem_cons hkl;have hno:∀x∈out.eraseIdx k,¬P x:=fun x hx hp=>he (hP _ x hx hp)
    have her:∀x,x∈out.take k∨x∈out.drop (k+1)→x∈out.eraseIdx k:=fun x hx=>by
     rw[List.eraseIdx_eq_take_drop_succ];exact List.mem_append.2 hx
    refine⟨F++[out[k]],by rw[f1,hd];simp,fun x hx=>?_,fun⟨x,hx,hp⟩=>absurd hp (hno x (her x (Or.inr hx))),fun⟨x,hx,hp⟩=>?_⟩
    ·rcases List.mem_append.1 hx with hx | hx
     ·rw[List.take_add_one];exact List.mem_append_left _ (f2 x hx)
     ·rw[List.mem_singleton.1 hx,List.take_add_one,List.getElem?_eq_getElem hkl]
      exact List.mem_append_right _ (by simp)
    ·rcases List.mem_append.1 hx with hx | hx
     ·exact absurd hp (hno x (her x (Or.inl (f2 x hx))))
     ·rw[List.mem_singleton.1 hx] at hp
      have:=f3 ⟨out[k],by rw[hd];exact List.mem_cons_self ..,hp⟩
      rw[this];rfl
theorem zMn {α:Type} (e:List α→Bool) (P:α→Prop) (hP:∀l x,x∈l→P x→e l=true) (out:List α) (x:α) (hx:x∈zA4 e out.length out) (hp:P x):zA4 e out.length out=[x]:=by
 obtain⟨F,f1,_,_,f4⟩:=zGB e P hP out.length out (Nat.le_refl _);rw[List.drop_length,List.append_nil] at f1;rw[f1] at hx ⊢;have hl:=f4 ⟨x,hx,hp⟩
 match F,hl,hx with
 | [y],_,hx=>rw[List.mem_singleton.1 hx]
theorem zIL {α:Type} (e:List α→Bool) (h:∀l,e l=true):∀(k:Nat) (out:List α),k=out.length→zA4 e k out=[]
 | 0,out,hk=>by
   unfold zA4;exact List.length_eq_zero_iff.1 hk.symm
 | k+1,out,hk=>by
   unfold zA4;rw[if_pos (h _)];exact zIL e h k _ (by rw[List.length_eraseIdx];split <;> omega)
theorem zOn (m:Mod) (hm:zAF m=0):zCO m.vars.length (zAD m.vars)=false:=by
 refine zHe _ _ fun v hv=>⟨0,by omega,?_⟩
 have h1:=(zDY m hm).2 v hv;have h6:=(zAg m hm).2 v;unfold zAD ofP;rw[zAc m.vars (zAg m hm)];simp only[Bool.and_eq_true,decide_eq_true_eq];have e:(6 * v+0) / 6=v:=by omega
 rw[e];refine⟨hv,?_,trivial⟩;unfold zB8;omega
theorem zQL (p:Nat):zAL p 0=p:=by
 apply Nat.eq_of_testBit_eq;intro i;rw[zAR,Nat.zero_testBit];simp
theorem zIM (m:Mod) (hm:zAF m=0) (pts:List Nat) (h:zCy m.vars pts 0=true):pts=[]:=by
 unfold zCy at h;rw[zQL,zOn m hm,Bool.false_or,Bool.not_eq_true',List.any_eq_false] at h;cases pts with
 | nil=>rfl
 | cons q r =>
   exfalso
   exact h q (List.mem_cons_self ..) (by unfold zEc;simp)
theorem zLJ (l:Nat):zBd [] l=0:=by unfold zBd zCh;simp
theorem zMo (vs:List MVar) (hv:zAd vs) (cs:List Nat) (pt:List (List Nat)) (hp:[]∈pt) (h:Nat):zBe vs cs pt h=0:=by
 have hcons:∀(ptl:List (List Nat)) (l:Nat),[]∈ptl→zBC ptl l=0:=by
  intro ptl
  induction ptl with
  | nil=>intro l h;cases h
  | cons pts r ih =>
    intro l hm;unfold zBC;by_cases h0:l=0
    ·rw[if_pos h0];exact h0
    ·rw[if_neg h0]
     rcases List.mem_cons.1 hm with he | hm
     ·rw[←he,zLJ]
      cases r with
      | nil=>rfl
      | cons a b=>unfold zBC;rw[if_pos rfl]
     ·exact ih _ hm
 apply Classical.byContradiction;intro hn;have:=zJa vs hv cs pt h hn;rw[hcons pt _ hp] at this;exact hn this.symm
theorem zLK (m:Mod) (hm:zAF m=0) (pts:List Nat) (any:Cla) (gone:Nat) (hg:SubP gone (zAD m.vars)) (ha:any.length≤1) (hr:∀l∈any,litE m.vars l=0):claE m.vars (whyP m.vars pts any gone)=0:=by
 unfold claE;have hl:(whyP m.vars pts any gone).length≤37:=by
  unfold whyP;rw[List.length_append];have:=zEr m.vars (zCu (fun g=>zCy m.vars pts (zAH m.vars any ||| g)) (gone+1) gone gone)
  omega
 rw[if_neg (by omega)]
 refine zDN _ fun e he=>?_
 obtain⟨x,hx,rfl⟩:=List.mem_map.1 he;unfold whyP at hx;rcases List.mem_append.1 hx with hx | hx
 ·exact hr x hx
 ·exact zJT m.vars (zAg m hm) (fun v hv=>zCg m hm v hv) _ (fun i hi=>hg i (zH1 _ _ _ _ i hi)) x hx
theorem zQM (vs:List MVar):zBj vs 0=[]:=by unfold zBj;rw[zJQ];rfl
theorem zEu (m:Mod) (hm:zAF m=0) (cs:List Nat) (h:Nat):∀x∈zAz m.vars cs (ptsM m) h,claE m.vars x.1.cla=0∧(x.2=0→x.1.cla=[]∧[]∈ptsM m):=by
 intro x hx;have hv:=zAg m hm;obtain⟨k,c,hc,_,_,hx2,hsay⟩:=zBa m hm cs h x hx;have hpm:zAM m.vars c∈ptsM m:=List.mem_map.2 ⟨c,List.mem_of_getElem? hc,rfl⟩;obtain⟨t,ht,hx⟩:=List.mem_flatMap.1 hx;obtain⟨⟨pts,hp,ha⟩,hsub,hne,hdif⟩:=zNq m.vars hv cs (ptsM m) h t ht;have hgd:(ptsM m).getD t.1 []=pts:=by rw[List.getD_eq_getElem?_getD,hp];rfl
 have hgw:SubP (zAL (zAD m.vars) t.2.1) (zAD m.vars):=fun i hi=>((zBU _ _ _).1 hi).1
 unfold zBD at hx;rw[hgd] at hx;by_cases h0:t.2.2=0
 ·rw[if_pos h0] at hx
  have hxe:=List.mem_singleton.1 hx;refine⟨by rw[hxe];exact zLK m hm pts [] _ hgw (by simp) (fun l hl=>by cases hl),fun hz=>⟨?_,?_⟩⟩
  ·rw[hxe] at hz ⊢
   have hz2:zAH m.vars (whyP m.vars pts [] (zAL (zAD m.vars) t.2.1))=0:=hz;rw[(zHg m.vars hv pts [] _ hgw).1,zGY m.vars hv,Nat.zero_or] at hz2;show whyP m.vars pts [] (zAL (zAD m.vars) t.2.1)=[];unfold whyP;unfold zK7 at hz2;rw[hz2,zQM];rfl
  ·rw[hz] at hsay
   rw[zIM m hm _ hsay] at hpm;exact hpm
 ·rw[if_neg h0] at hx
  obtain⟨lt,hlt,hxe⟩:=List.mem_map.1 hx;have hlr:=zJT m.vars hv (fun v hv=>zCg m hm v hv) (zAL t.2.1 t.2.2) (fun i hi=>hsub i ((zBU _ _ _).1 hi).1) lt hlt
  have hl4:litE m.vars ⟨lt.var,4,lt.n⟩=0:=by
   unfold litE at hlr ⊢
   split at hlr
   ·cases hlr
   ·rename_i h1
    rw[if_neg h1,if_neg (by simp only;omega)]
    split at hlr
    ·cases hlr
    ·split at hlr
     ·cases hlr
     ·rename_i h3
      rw[if_neg h3]
  refine⟨by rw[←hxe];exact zLK m hm pts _ _ hgw (by simp) (fun l hl=>by rw[List.mem_singleton.1 hl];exact hl4),fun hz=>?_⟩
  exfalso
  rw[hz] at hsay;have hnone:=zIM m hm _ hsay;rw[hnone] at hpm;have h3:x.2=zAH m.vars (whyP m.vars pts [⟨lt.var,4,lt.n⟩] (zAL (zAD m.vars) t.2.1)):=by rw[←hxe];rfl
  obtain⟨k',c',hc',hk1,hk2,_,_⟩:=zBa m hm cs h x (List.mem_flatMap.2 ⟨t,ht,by unfold zBD;rw[hgd,if_neg h0];exact hx⟩)
  have hcon:x.1.con=(t.1:Int):=by rw[←hxe];rfl
  obtain⟨k2,c2,hc2,_,hk3,_,hs2⟩:=zBa m hm cs h x (List.mem_flatMap.2 ⟨t,ht,by unfold zBD;rw[hgd,if_neg h0];exact hx⟩)
  have hkk:k2=t.1:=by omega
  subst hkk;have hpc:pts=zAM m.vars c2:=by
   unfold ptsM at hp;rw[List.getElem?_map,hc2] at hp;exact (Option.some.inj hp).symm
  rw[hz] at hs2;rw[hpc,zIM m hm _ hs2,zLJ] at ha;exact h0 ha
theorem zOo (p:Nat) (pts:List Nat) (k z:Nat) (s:Nat×Nat×Bool) (h:pts[k]? = some z):zCh p (pts.drop k) s=zCh p (pts.drop (k+1)) (if zAL z p=0 then (z,s.2.1 ||| z,true) else s):=by
 have hk:k<pts.length:=(List.getElem?_eq_some_iff.1 h).1;have hc:pts[k]=z:=by rw[List.getElem?_eq_getElem hk] at h;exact Option.some.inj h
 rw[List.drop_eq_getElem_cons hk,hc];rfl
theorem zQN (pts:List Nat) (p:Nat) (hp36:p<2 ^ 36) (pv:Value) (w:World) (hp:PArg w pv pts) (hT:TabT w) :
 Calls Tryz.prog 250 #[pv,.int .u64 p] w fun e w'=>e=.returned (.int .u64 ((zBd pts p:Nat):Int))∧w'=w:=by
 have HT:Hid (TabT w):=hT;have HP36:Hid (p<2 ^ 36):=hp36;obtain⟨R,hR⟩:∃R,zBd pts p=R:=⟨_,rfl⟩;obtain⟨S,hS⟩:∃S,zCh p pts (0,0,false)=S:=⟨_,rfl⟩;have HS:Hid (R=if S.2.2 then clrN (S.1+1) S.1 p ||| S.2.1 else 0):=by show _=_;rw[←hR,←hS];rfl
 have HS0:Hid (S=zCh p pts (0,0,false)):=hS.symm;rw[hR];obtain⟨a2,c2,rfl,hm,hrp⟩:=hp;have HP:Hid (∀(i z:Nat),pts[i]? = some z→z<2 ^ 36∧∃b off,a2=some ⟨b,off,none⟩∧b<w.heap.size∧w.cell? ⟨b,off+i,none⟩=some (.int .u64 z)):=hrp;unfold maxLen at hm;obtain⟨hm1,hm⟩:=hm;clear hT hR hS hrp hp36;go_enter Tryz.func250,Tryz.ntmps250
 go_wp2_with fail
 go_loopw [5,6,7,12] (fun s t f i wr=>∃(k ss tt:Nat) (ff:Bool),k≤pts.length∧s=.int .u64 (ss:Int)∧t=.int .u64 (tt:Int)∧f=.bool ff∧i=.int .i64 k∧Hid (ss<2 ^ 36)∧Hid (tt<2 ^ 36)∧Hid (S=zCh p (pts.drop k) (ss,tt,ff))∧wr=w) (fun _ _ _ i _=>pts.length - (intOf i).toNat)
 case atStart=>exact⟨0,0,0,false,by omega,rfl,rfl,rfl,rfl,by show _<_;decide,by show _<_;decide,HS0,rfl⟩
 case round =>
  obtain⟨k,ss,tt,ff,hk,rfl,rfl,rfl,rfl,hs36,ht36,hst,rfl⟩:=hrel;by_cases hlt:k<pts.length
  ·obtain⟨z,hz⟩:∃z,pts[k]? = some z:=⟨pts[k],by simp[hlt]⟩
   obtain⟨hz36,b,off,ha,hb,hc⟩:=HP.out k z hz;subst ha;have HZ36:Hid (z<2 ^ 36):=hz36;have HN:Hid (S=zCh p (pts.drop (k+1)) (if zAL z p=0 then (z,tt ||| z,true) else (ss,tt,ff))):=by show _=_;rw[hst.out];exact zOo p pts k z _ hz
   have hnt:=zAm z p (by omega) (by have:=HP36.out;omega)
   obtain⟨o,ho⟩:∃o,zAL z p=o:=⟨_,rfl⟩;rw[ho] at hnt HN;clear hz hst ho;by_cases ho0:o=0
   ·have HN2:Hid (S=zCh p (pts.drop (k+1)) (z,tt ||| z,true)):=by show _=_;rw[HN.out,if_pos ho0]
    have hor:=bits_or_u64_nat tt z (by have:=ht36.out;omega) (by omega)
    have HT36:Hid (tt ||| z<2 ^ 36):=zIG ht36.out hz36
    obtain⟨t2,ht2⟩:∃t2,tt ||| z=t2:=⟨_,rfl⟩
    rw[ht2] at hor HT36 HN2;subst ho0;clear ht2 HN hz36;go_wp2
    go_roundw
    case rel=>exact⟨k+1,z,t2,true,by omega,rfl,rfl,rfl,by go_num,HZ36,HT36,HN2,trivial⟩
    case measure=>simp[intOf];omega
   ·have HN2:Hid (S=zCh p (pts.drop (k+1)) (ss,tt,ff)):=by show _=_;rw[HN.out,if_neg ho0]
    have ho1:((o:Int)==0)=false:=by simpa using ho0
    clear HN ho0 hz36;go_wp2
    go_roundw
    case rel=>exact⟨k+1,ss,tt,ff,by omega,rfl,rfl,rfl,by go_num,hs36,ht36,HN2,trivial⟩
    case measure=>simp[intOf];omega
  ·have hke:k=pts.length:=by omega
   have HE:Hid (S=(ss,tt,ff)):=by show _=_;rw[hst.out,hke,List.drop_length];rfl
   have HR:Hid (R=if ff then clrN (ss+1) ss p ||| tt else 0):=by show _=_;rw[HS.out,HE.out]
   clear hst hke;cases ff
   ·have HR0:Hid (R=0):=HR.out
    go_wp2
    go_ret
    exact⟨zGu HR0.out.symm,rfl⟩
   ·have HR1:Hid (R=clrN (ss+1) ss p ||| tt):=HR.out
    clear HR;go_wp2_with fail
    go_loopw [1,5] (fun q s wx=>∃qq s2:Nat,q=.int .u64 (qq:Int)∧s=.int .u64 (s2:Int)∧Hid (qq<2 ^ 36)∧Hid (s2<2 ^ 36)∧Hid (R=clrN (s2+1) s2 qq ||| tt)∧wx=wr) (fun _ s _=>(intOf s).toNat)
    case atStart=>exact⟨p,ss,rfl,rfl,HP36,hs36,HR1,rfl⟩
    case round =>
     obtain⟨qq,s2,rfl,rfl,hq36,hs2,hr2,rfl⟩:=hrel;by_cases hs0:s2=0
     ·have HRF:Hid (R=qq ||| tt):=by show _=_;rw[hr2.out,hs0];rfl
      have hor:=bits_or_u64_nat qq tt (by have:=hq36.out;omega) (by have:=ht36.out;omega)
      obtain⟨r,hr⟩:∃r,qq ||| tt=r:=⟨_,rfl⟩
      rw[hr] at hor HRF;subst hs0;clear hr hr2;go_wp2
      go_ret
      exact⟨zGu HRF.out.symm,rfl⟩
     ·have HST:Hid (R=clrN (zAL s2 (zAl s2)+1) (zAL s2 (zAl s2)) (zAL qq (zAl s2)) ||| tt):=by show _=_;rw[hr2.out,zR1 s2 qq hs0 hs2.out]
      have HLT:Hid (zAL s2 (zAl s2)<s2):=zDr s2 hs0 hs2.out;have HF36:Hid (zAl s2<2 ^ 36):=zNu s2 hs0 hs2.out;have HN0:Hid (s2≠0):=hs0;have hne:((s2:Int) != 0)=true:=by simpa using hs0
      obtain⟨f,hf⟩:∃f,zAl s2=f:=⟨_,rfl⟩;have HF:Hid (zAl s2=f):=hf;rw[hf] at HST HLT HF36;have hn1:=zAm qq f (by have:=hq36.out;omega) (by have:=HF36.out;omega)
      have hn2:=zAm s2 f (by have:=hs2.out;omega) (by have:=HF36.out;omega)
      obtain⟨q3,hq3⟩:∃q3,zAL qq f=q3:=⟨_,rfl⟩;obtain⟨s3,hs3⟩:∃s3,zAL s2 f=s3:=⟨_,rfl⟩;have HQ3:Hid (q3<2 ^ 36):=by rw[←hq3];exact zCe 36 _ _ hq36.out
      have HS3:Hid (s3<2 ^ 36):=by rw[←hs3];exact zCe 36 _ _ hs2.out
      rw[hq3] at hn1 HST;rw[hs3] at hn2 HST HLT;clear hf hq3 hs3 hs0 hr2;go_wp2_with fail
      refine (zGa s2 HN0.out hs2.out _ HT.out).mono ?_;rintro e w ⟨rfl,rfl⟩;rw[HF.out];go_wp2_with fail
      refine (zGa s2 HN0.out hs2.out _ HT.out).mono ?_;rintro e w ⟨rfl,rfl⟩;rw[HF.out];go_wp2
      go_roundw
      case rel=>exact⟨q3,s3,rfl,rfl,HQ3,HS3,HST,trivial⟩
      case measure=>simp[intOf];exact HLT.out
end Go.Proofs.YtdjbejlbmaiocagGreatDoor
