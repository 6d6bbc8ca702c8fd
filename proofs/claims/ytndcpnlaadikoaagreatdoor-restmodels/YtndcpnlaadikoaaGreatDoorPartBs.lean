/- What the proof leans on, part 45. -/
import Derived.Test.YtndcpnlaadikoaaGreatDoorPartBr
set_option maxRecDepth 100000
set_option maxHeartbeats 12800000
namespace Go.Proofs.YtndcpnlaadikoaaGreatDoor
open Go.RowKit
theorem zMU (m:Mod) (hsz:SzM m) (s:ByteArray) (hs:s.size≤maxLen) (fuel:Int) (vs cs:Value) (w:World) (hma:MArg w vs cs m) (hT:TabT w) (hN:TabN w.heap.size w) :
 Calls Tryz.prog 5 #[modV vs cs m,.string s,.int .i64 fuel] w fun e w'=>e=.returned (.bool true)∧Below w.heap.size w w':=by
 have HMA:Hid (∀w',Below w.heap.size w w'→MArg w' vs cs m):=fun w' h=>MArg.below h hma
 have HT:Hid (∀w',Below w.heap.size w w'→TabT w'):=fun w' h=>hT.below h
 have HN:Hid (∀w',Below w.heap.size w w'→TabN w.heap.size w'):=fun w' h=>hN.below h
 have HSZ:Hid (SzM m):=hsz;have HS:Hid (s.size≤maxLen):=hs;obtain⟨A,E,hA⟩:∃A E,zC2 m fuel=(A,E):=⟨_,_,rfl⟩;have HA:Hid (zC2 m fuel=(A,E)):=hA;have HVL:Hid (A.values.length≤6):=by have h:=zOa m fuel;rw[hA] at h;exact h
 have HCK:Hid (E=0→(zBc m [] A.proof).2=0):=fun he=>by
  have h:=zMS m fuel (by rw[hA];exact he)
  rw[hA] at h;exact h
 obtain⟨PB,PE,hP⟩:∃PB PE,zBc m [] A.proof=(PB,PE):=⟨_,_,rfl⟩;have HP:Hid (zBc m [] A.proof=(PB,PE)):=hP;rw[hP] at HCK;obtain⟨⟨a1,c1,rfl,_,_⟩,⟨a2,c2,rfl,_,_⟩⟩:=hma;unfold modV;clear hT hN hsz hs hA hP;go_enter Tryz.func5,Tryz.ntmps5
 go_wp2_with fail
 have HB0:Hid (Below w.heap.size w (w.alloc (.cells #[.slice a1 m.vars.length c1,.slice a2 m.cons.length c2,.int .i64 m.goal,.int .i64 m.var] 25))):=zAA _ _;have HM0:Hid ((w.alloc (.cells #[.slice a1 m.vars.length c1,.slice a2 m.cons.length c2,.int .i64 m.goal,.int .i64 m.var] 25)).heap[w.heap.size]? = some (.cells #[.slice a1 m.vars.length c1,.slice a2 m.cons.length c2,.int .i64 m.goal,.int .i64 m.var] 25)):=heap_alloc_new _ _;obtain⟨W0,hW0⟩:∃W0,w.alloc (.cells #[.slice a1 m.vars.length c1,.slice a2 m.cons.length c2,.int .i64 m.goal,.int .i64 m.var] 25)=W0:=⟨_,rfl⟩;rw[hW0] at HB0 HM0 ⊢;clear hW0;have HMB:Hid (∀Y,Below W0.heap.size W0 Y→Y.heap[w.heap.size]? = some (.cells #[.slice a1 m.vars.length c1,.slice a2 m.cons.length c2,.int .i64 m.goal,.int .i64 m.var] 25)):=fun Y hY=>(hY.block _ (Array.getElem?_eq_some_iff.1 HM0.out).1).trans HM0.out
 have HTO:Hid (∀Y,Below W0.heap.size W0 Y→Below w.heap.size w Y):=fun Y hY=>HB0.out.trans (hY.mono HB0.out.size)
 refine (zMN _).mono ?_;rintro e w1 ⟨rfl,hb1⟩;have HB1:Hid (Below W0.heap.size W0 w1):=hb1;clear hb1;go_wp2_with fail
 refine (zOT w.heap.size _ (HN.out _ (HTO.out _ HB1.out)) (HTO.out _ HB1.out).size).mono ?_;rintro e w2 ⟨rfl,hb⟩;have HB2:Hid (Below W0.heap.size W0 w2):=HB1.out.trans (hb.mono HB1.out.size);clear hb;go_wp2_with fail
 refine (zKy _ (HT.out _ (HTO.out _ HB2.out))).mono ?_;rintro e w3 ⟨rfl,hb⟩;have HB3:Hid (Below W0.heap.size W0 w3):=HB2.out.trans (hb.mono HB2.out.size);clear hb;go_wp2_with fail
 refine (zOH _ (HT.out _ (HTO.out _ HB3.out))).mono ?_;rintro e w4 ⟨rfl,hb⟩;have HB4:Hid (Below W0.heap.size W0 w4):=HB3.out.trans (hb.mono HB3.out.size);clear hb;go_wp2_with fail
 refine (zMD _ (HT.out _ (HTO.out _ HB4.out))).mono ?_;rintro e w5 ⟨rfl,hb⟩;have HB5:Hid (Below W0.heap.size W0 w5):=HB4.out.trans (hb.mono HB4.out.size);clear hb HB1 HB2 HB3 HB4;have hmb:=HMB.out _ HB5.out;have lm:=(Array.getElem?_eq_some_iff.1 hmb).1;have q0:w5.cell? ⟨w.heap.size,0,none⟩=some (.slice a1 m.vars.length c1):=blk9 hmb 0 _ rfl;have q1:w5.cell? ⟨w.heap.size,1,none⟩=some (.slice a2 m.cons.length c2):=blk9 hmb 1 _ rfl;have q2:w5.cell? ⟨w.heap.size,2,none⟩=some (.int .i64 m.goal):=blk9 hmb 2 _ rfl;have q3:w5.cell? ⟨w.heap.size,3,none⟩=some (.int .i64 m.var):=blk9 hmb 3 _ rfl;clear hmb;go_wp2_with fail
 refine (zNu m HSZ.out _ _ w5 (HMA.out _ (HTO.out _ HB5.out))).mono ?_;rintro e w6 ⟨us,ts,rfl,hmr,hb⟩;have HB6:Hid (Below W0.heap.size W0 w6):=HB5.out.trans (hb.mono HB5.out.size);have HMN:Hid (MArg w6 us ts m):=hmr.marg;obtain⟨⟨a3,c3,rfl,_,_⟩,⟨a4,c4,rfl,_,_⟩⟩:=hmr.marg;unfold modV;clear hb hmr q0 q1 q2 q3 lm HB5;go_upto_region 4 with (fail)
 have HB7:Hid (Below W0.heap.size W0 (w6.alloc (.cells #[.slice a3 m.vars.length c3,.slice a4 m.cons.length c4,.int .i64 m.goal,.int .i64 m.var] 25))):=HB6.out.alloc HB6.out.size _;have HN7:Hid ((w6.alloc (.cells #[.slice a3 m.vars.length c3,.slice a4 m.cons.length c4,.int .i64 m.goal,.int .i64 m.var] 25)).heap[w6.heap.size]? = some (.cells #[.slice a3 m.vars.length c3,.slice a4 m.cons.length c4,.int .i64 m.goal,.int .i64 m.var] 25)):=heap_alloc_new _ _;have HMN7:Hid (MArg (w6.alloc (.cells #[.slice a3 m.vars.length c3,.slice a4 m.cons.length c4,.int .i64 m.goal,.int .i64 m.var] 25)) (.slice a3 m.vars.length c3) (.slice a4 m.cons.length c4) m):=MArg.below (zAA _ _) HMN.out;obtain⟨W2,hW2⟩:∃W2,w6.alloc (.cells #[.slice a3 m.vars.length c3,.slice a4 m.cons.length c4,.int .i64 m.goal,.int .i64 m.var] 25)=W2:=⟨_,rfl⟩;obtain⟨N,hNN⟩:∃N,w6.heap.size=N:=⟨_,rfl⟩;rw[hW2] at HB7 HN7 HMN7 ⊢;rw[hNN] at HN7 ⊢;clear hW2 hNN HMN HB6;have HBW2:Hid (Below w.heap.size w W2):=HTO.out _ HB7.out;have HMB2:Hid (W2.heap[w.heap.size]? = some (.cells #[.slice a1 m.vars.length c1,.slice a2 m.cons.length c2,.int .i64 m.goal,.int .i64 m.var] 25)):=HMB.out _ HB7.out;have HMA2:Hid (MArg W2 (.slice a1 m.vars.length c1) (.slice a2 m.cons.length c2) m):=HMA.out _ HBW2.out;clear HB0 HM0 HMB HTO HB7;have lm:=(Array.getElem?_eq_some_iff.1 HMB2.out).1;have q0:W2.cell? ⟨w.heap.size,0,none⟩=some (.slice a1 m.vars.length c1):=blk9 HMB2.out 0 _ rfl;have q1:W2.cell? ⟨w.heap.size,1,none⟩=some (.slice a2 m.cons.length c2):=blk9 HMB2.out 1 _ rfl;have q2:W2.cell? ⟨w.heap.size,2,none⟩=some (.int .i64 m.goal):=blk9 HMB2.out 2 _ rfl;have q3:W2.cell? ⟨w.heap.size,3,none⟩=some (.int .i64 m.var):=blk9 HMB2.out 3 _ rfl;go_wp2_with fail
 refine (zFx m fuel _ _ W2 HMA2.out (HT.out _ HBW2.out)).mono ?_;rintro e w7 ⟨fv,fp,rfl,hq,hb⟩;rw[HA.out] at hq ⊢
 dsimp only at hq ⊢
 obtain⟨af,cf,hff⟩:=zAC hq.val;subst hff;obtain⟨LF,hlf,_⟩:=hq.prf;obtain⟨apf,cpf,hpf⟩:=zAC hlf.1;subst hpf;have HFV:Hid (w7.ownsRow W2.heap.size 3 1 (.slice af A.values.length cf) A.values.length (A.values.map (Value.int .i64))):=hq.val;have HB27:Hid (Below W2.heap.size W2 w7):=hb;clear hb hq q0 q1 q2 q3 lm hlf;go_upto_region 5 with (fail)
 have HF8:Hid ((w7.alloc (.cells #[.int .i64 A.verdict,.slice af A.values.length cf,.slice apf LF.length cpf] 53)).heap[w7.heap.size]? = some (.cells #[.int .i64 A.verdict,.slice af A.values.length cf,.slice apf LF.length cpf] 53)):=heap_alloc_new _ _;have HB28:Hid (Below W2.heap.size W2 (w7.alloc (.cells #[.int .i64 A.verdict,.slice af A.values.length cf,.slice apf LF.length cpf] 53))):=HB27.out.alloc HB27.out.size _;have HFV8:Hid ((w7.alloc (.cells #[.int .i64 A.verdict,.slice af A.values.length cf,.slice apf LF.length cpf] 53)).ownsRow W2.heap.size 3 1 (.slice af A.values.length cf) A.values.length (A.values.map (Value.int .i64))):=World.ownsRow.alloc HFV.out _;have HLT8:Hid (∀k,(Value.slice af A.values.length cf).ownBlock=some k→W2.heap.size≤k∧k<w7.heap.size+1):=fun k hk=>⟨(HFV.out.lt k hk).1,by have:=(HFV.out.lt k hk).2;omega⟩
 have HSI8:Hid ((w7.alloc (.cells #[.int .i64 A.verdict,.slice af A.values.length cf,.slice apf LF.length cpf] 53)).heap.size=w7.heap.size+1):=by show _=_;simp
 obtain⟨W3,hW3⟩:∃W3,w7.alloc (.cells #[.int .i64 A.verdict,.slice af A.values.length cf,.slice apf LF.length cpf] 53)=W3:=⟨_,rfl⟩;obtain⟨F,hF⟩:∃F,w7.heap.size=F:=⟨_,rfl⟩;rw[hW3] at HF8 HB28 HFV8 HSI8 ⊢;rw[hF] at HF8 HLT8 HSI8 ⊢;clear hW3 hF HFV HB27;have HQ3:Hid (∀Y,Below W3.heap.size W3 Y→F<Y.heap.size∧Y.cell? ⟨F,0,none⟩=some (.int .i64 A.verdict)∧Y.cell? ⟨F,1,none⟩=some (.slice af A.values.length cf)):=fun Y hY=>by
  have h:=(hY.block _ (Array.getElem?_eq_some_iff.1 HF8.out).1).trans HF8.out;exact⟨(Array.getElem?_eq_some_iff.1 h).1,blk9 h 0 _ rfl,blk9 h 1 _ rfl⟩
 have hv8:A.values.length * 8≤140737488355328:=by
  have:=HVL.out;omega
 go_cut [10,11] (fun a b wx=>∃av cv,a=.int .i64 A.verdict∧b=.slice av A.values.length cv∧Hid (wx.ownsRow W3.heap.size 3 1 (.slice av A.values.length cv) A.values.length (A.values.map (Value.int .i64))∧Below W3.heap.size W3 wx))
 case first =>
  obtain⟨lf,f0,f1⟩:=HQ3.out _ (Below.refl _ _);go_region_law
   (first
     | (rw[if_pos (by rfl)];refine zAM _ _ rfl W3.heap.size _ rfl (zFm W3.drew W3.heap.size _ 3 1 rfl (Nat.le_refl _)) _ A.values rfl (IArg.below (zAV (zMz (Below.refl _ _)) _) (zDa HFV8.out)) hv8 (by simp) ?_;intro v9 y9 o9 b9;obtain⟨av,cv,rfl⟩:=zAC o9;have hB9:Below W3.heap.size W3 y9:=(zAV (zMz (Below.refl _ _)) _).trans (b9.mono (by simp));obtain⟨lf9,f09,f19⟩:=HQ3.out _ hB9)
     | fail)
  all_goals (go_wp2_with fail;go_meet)
  all_goals exact⟨_,_,rfl,rfl,o9,hB9⟩
 case rest =>
  obtain⟨av,cv,rfl,rfl,hcut⟩:=hcut;have HBD:Hid (Below W2.heap.size W2 wc):=HB28.out.trans (hcut.out.2.mono HB28.out.size);have HFB:Hid (wc.cell? ⟨F,1,none⟩=some (.slice af A.values.length cf)):=(HQ3.out _ hcut.out.2).2.2;have HFW:Hid (WR (fun k=>wc.heap.size≤k∨(Value.slice af A.values.length cf).ownBlock=some k) wc 1 (.slice af A.values.length cf)):=zMg (zAB HFV8.out hcut.out.2) (fun k hk=>Or.inr hk) (by decide) (fun i hi=>⟨.int .i64 (A.values[i]),by rw[Nat.mul_one,List.getElem?_map,List.getElem?_eq_getElem hi];rfl,fun a m c he=>by cases he⟩)
  have HVA:Hid (wc.ownsRow (F+1) 3 1 (.slice av A.values.length cv) A.values.length (A.values.map (Value.int .i64))):=by rw[←HSI8.out];exact hcut.out.1
  obtain⟨D,hD⟩:∃D:World,D=wc:=⟨_,rfl⟩;rw[←hD] at HBD HFB HFW HVA ⊢;clear hD hcut HQ3 HFV8 HF8 HB28;have HI:Hid (∀Y,Sp (fun k=>D.heap.size≤k∨(Value.slice af A.values.length cf).ownBlock=some k) D Y→RmS w W2 D (fun k=>D.heap.size≤k∨(Value.slice af A.values.length cf).ownBlock=some k) m A N F (.slice a1 m.vars.length c1) (.slice a2 m.cons.length c2) (.slice a3 m.vars.length c3) (.slice a4 m.cons.length c4) (.slice af A.values.length cf) (.slice av A.values.length cv) Y) :=
   fun Y hY=>RmS.go HBW2.out HBD.out HMA2.out HMN7.out HMB2.out HN7.out HFB.out HLT8.out HFW.out HVA.out hY
  have HXG:Hid (∀k,D.heap.size≤k→D.heap.size≤k∨(Value.slice af A.values.length cf).ownBlock=some k):=fun k hk=>Or.inl hk
  obtain⟨X,hX⟩:∃X:Nat→Prop,X=fun k=>D.heap.size≤k∨(Value.slice af A.values.length cf).ownBlock=some k:=⟨_,rfl⟩
  rw[←hX] at HI;have HXG2:Hid (∀k,D.heap.size≤k→X k):=fun k hk=>by rw[hX];exact HXG.out k hk
  clear hX HXG HFB HFW HVA HBD HLT8 HMA2 HMB2 HN7 HMN7 HSI8;go_wp2_with fail
  go_loopw [12,13,14,15,16,17,18,19,20,21,22,23,24,25,26,27,28,29] (fun i _ _ _ _ _ _ _ _ _ _ _ _ _ _ _ _ _ wr=>∃k:Nat,k≤2∧i=.int .i64 k∧Hid (Sp X D wr)) (fun i _ _ _ _ _ _ _ _ _ _ _ _ _ _ _ _ _ _=>2 - (intOf i).toNat)
  case atStart=>exact⟨0,by omega,rfl,Sp.refl _ _⟩
  case round =>
   obtain⟨k,hk,rfl,hsp⟩:=hrel;have HSP:Hid (Sp X D wr):=hsp;clear hsp;by_cases hlt:k<2
   ·have HR:Hid (∀Y,Below wr.heap.size wr Y→RmS w W2 D X m A N F (.slice a1 m.vars.length c1) (.slice a2 m.cons.length c2) (.slice a3 m.vars.length c3) (.slice a4 m.cons.length c4) (.slice af A.values.length cf) (.slice av A.values.length cv) Y):=fun Y hY=>HI.out Y (HSP.out.trans (Sp.below hY))
    have HNQ:Hid (∀Y,Below wr.heap.size wr Y→N<Y.heap.size∧Y.cell? ⟨N,0,none⟩=some (.slice a3 m.vars.length c3)∧Y.cell? ⟨N,1,none⟩=some (.slice a4 m.cons.length c4)∧Y.cell? ⟨N,2,none⟩=some (.int .i64 m.goal)∧Y.cell? ⟨N,3,none⟩=some (.int .i64 m.var)):=fun Y hY=>by
     have h:=(HR.out Y hY).nb;exact⟨(Array.getElem?_eq_some_iff.1 h).1,blk9 h 0 _ rfl,blk9 h 1 _ rfl,blk9 h 2 _ rfl,blk9 h 3 _ rfl⟩
    have HXW:Hid (∀k,wr.heap.size≤k→X k):=fun k hk=>HXG2.out k (Nat.le_trans HSP.out.size hk)
    obtain⟨nl,n0,n1,n2,n3⟩:=HNQ.out _ (Below.refl _ _);go_wp2_with fail
    refine (zFx m fuel _ _ wr (HR.out _ (Below.refl _ _)).na (HT.out _ (HR.out _ (Below.refl _ _)).bel)).mono ?_;rintro e w4 ⟨xv,xp,rfl,hq,hb⟩;rw[HA.out] at hq ⊢
    dsimp only at hq ⊢
    obtain⟨ax,cx,hxf⟩:=zAC hq.val;obtain⟨LX,hlx,hlxe⟩:=hq.prf;obtain⟨ay,cy,hyf⟩:=zAC hlx.1;subst hxf hyf;have HAQ:Hid (AnsQ wr.heap.size w4 (.slice ax A.values.length cx) (.slice ay LX.length cy) A):=hq;have HB4:Hid (Below wr.heap.size wr w4):=hb;clear hq hlx hlxe hb n0 n1 n2 n3 nl;go_upto_region 10 with (fail)
    have HX5:Hid ((w4.alloc (.cells #[.int .i64 A.verdict,.slice ax A.values.length cx,.slice ay LX.length cy] 53)).heap[w4.heap.size]? = some (.cells #[.int .i64 A.verdict,.slice ax A.values.length cx,.slice ay LX.length cy] 53)):=heap_alloc_new _ _;have HB5:Hid (Below wr.heap.size wr (w4.alloc (.cells #[.int .i64 A.verdict,.slice ax A.values.length cx,.slice ay LX.length cy] 53))):=HB4.out.alloc HB4.out.size _;have HAQ5:Hid (AnsQ wr.heap.size (w4.alloc (.cells #[.int .i64 A.verdict,.slice ax A.values.length cx,.slice ay LX.length cy] 53)) (.slice ax A.values.length cx) (.slice ay LX.length cy) A):=HAQ.out.below (zAA _ _);obtain⟨W5,hW5⟩:∃W5,w4.alloc (.cells #[.int .i64 A.verdict,.slice ax A.values.length cx,.slice ay LX.length cy] 53)=W5:=⟨_,rfl⟩;obtain⟨Ba,hBa⟩:∃Ba,w4.heap.size=Ba:=⟨_,rfl⟩;rw[hW5] at HX5 HB5 HAQ5 ⊢;rw[hBa] at HX5 ⊢;clear hW5 hBa HAQ HB4;have HXA:Hid (∀Y,Below W5.heap.size W5 Y→Ba<Y.heap.size∧Y.cell? ⟨Ba,0,none⟩=some (.int .i64 A.verdict)∧Y.cell? ⟨Ba,1,none⟩=some (.slice ax A.values.length cx)∧Y.cell? ⟨Ba,2,none⟩=some (.slice ay LX.length cy)):=fun Y hY=>by
     have h:=(hY.block _ (Array.getElem?_eq_some_iff.1 HX5.out).1).trans HX5.out;exact⟨(Array.getElem?_eq_some_iff.1 h).1,blk9 h 0 _ rfl,blk9 h 1 _ rfl,blk9 h 2 _ rfl⟩
    obtain⟨nl,n0,n1,n2,n3⟩:=HNQ.out _ HB5.out;obtain⟨BA,BE,hBA⟩:∃BA BE,zH5 m fuel=(BA,BE):=⟨_,_,rfl⟩;have HBA:Hid (zH5 m fuel=(BA,BE)):=hBA;clear hBA;go_wp2_with fail
    refine (zNG m fuel _ _ W5 (HR.out _ HB5.out).na (HT.out _ (HR.out _ HB5.out).bel)).mono ?_;rintro e w6 ⟨xv,xp,rfl,hq,hb⟩;rw[HBA.out] at hq ⊢
    dsimp only at hq ⊢
    obtain⟨az,cz,hxf⟩:=zAC hq.val;obtain⟨LZ,hlx,hlxe⟩:=hq.prf;obtain⟨au,cu,hyf⟩:=zAC hlx.1;subst hxf hyf;have HBQ:Hid (AnsQ W5.heap.size w6 (.slice az BA.values.length cz) (.slice au LZ.length cu) BA):=hq;have HB56:Hid (Below W5.heap.size W5 w6):=hb;clear hq hlx hlxe hb n0 n1 n2 n3 nl;go_upto_region 11 with (fail)
    have HY6:Hid ((w6.alloc (.cells #[.int .i64 BA.verdict,.slice az BA.values.length cz,.slice au LZ.length cu] 53)).heap[w6.heap.size]? = some (.cells #[.int .i64 BA.verdict,.slice az BA.values.length cz,.slice au LZ.length cu] 53)):=heap_alloc_new _ _;have HB57:Hid (Below W5.heap.size W5 (w6.alloc (.cells #[.int .i64 BA.verdict,.slice az BA.values.length cz,.slice au LZ.length cu] 53))):=HB56.out.alloc HB56.out.size _;have HBQ7:Hid (AnsQ W5.heap.size (w6.alloc (.cells #[.int .i64 BA.verdict,.slice az BA.values.length cz,.slice au LZ.length cu] 53)) (.slice az BA.values.length cz) (.slice au LZ.length cu) BA):=HBQ.out.below (zAA _ _);obtain⟨W6,hW6⟩:∃W6,w6.alloc (.cells #[.int .i64 BA.verdict,.slice az BA.values.length cz,.slice au LZ.length cu] 53)=W6:=⟨_,rfl⟩;obtain⟨Bb,hBb⟩:∃Bb,w6.heap.size=Bb:=⟨_,rfl⟩;rw[hW6] at HY6 HB57 HBQ7 ⊢;rw[hBb] at HY6 ⊢;clear hW6 hBb HBQ HB56;have HYB:Hid (∀Y,Below W6.heap.size W6 Y→Bb<Y.heap.size∧Y.cell? ⟨Bb,1,none⟩=some (.slice az BA.values.length cz)∧Y.cell? ⟨Bb,2,none⟩=some (.slice au LZ.length cu)):=fun Y hY=>by
     have h:=(hY.block _ (Array.getElem?_eq_some_iff.1 HY6.out).1).trans HY6.out;exact⟨(Array.getElem?_eq_some_iff.1 h).1,blk9 h 1 _ rfl,blk9 h 2 _ rfl⟩
    have HB6:Hid (Below wr.heap.size wr W6):=HB5.out.trans (HB57.out.mono HB5.out.size);obtain⟨nl,n0,n1,n2,n3⟩:=HNQ.out _ HB6.out;obtain⟨LA,LB,LE,hLA⟩:∃LA LB LE,zHu m=(LA,LB,LE):=⟨_,_,_,rfl⟩;have HLA:Hid (zHu m=(LA,LB,LE)):=hLA;clear hLA;go_wp2_with fail
    refine (zKx m _ _ W6 (HR.out _ HB6.out).na).mono ?_;rintro e w7 ⟨hb,xv,rfl,hq⟩;rw[HLA.out] at hq ⊢
    dsimp only at hq ⊢
    obtain⟨al,cl,hxf⟩:=hq.form;subst hxf;have HLQ:Hid (LLr W6.heap.size w7 (.slice al LA.length cl) LA):=hq;have HB67:Hid (Below W6.heap.size W6 w7):=hb;have HB7:Hid (Below wr.heap.size wr w7):=HB6.out.trans (hb.mono HB6.out.size);clear hq hb n0 n1 n2 n3 nl;obtain⟨nl,n0,n1,n2,n3⟩:=HNQ.out _ HB7.out;obtain⟨SA,SE,hSA⟩:∃SA SE,zCr m 0=(SA,SE):=⟨_,_,rfl⟩;have HSA:Hid (zCr m 0=(SA,SE)):=hSA;clear hSA;go_wp2_with fail
    refine (zIj m 0 _ _ w7 (HR.out _ HB7.out).na).mono ?_;rintro e w8 ⟨xv,rfl,hi,hb,hq⟩;rw[HSA.out] at hi hq ⊢
    dsimp only at hi hq ⊢
    have HSQ:Hid (WR X w8 1 xv):=zRx hi hq (fun k hk=>HXW.out k (Nat.le_trans HB7.out.size hk))
    obtain⟨aw,cw,hxf,_,_⟩:=hi;subst hxf;have HB78:Hid (Below w7.heap.size w7 w8):=hb;have HB8:Hid (Below wr.heap.size wr w8):=HB7.out.trans (hb.mono HB7.out.size);clear hq hb n0 n1 n2 n3 nl;obtain⟨PM,PA,PX,hPA⟩:∃PM PA PX,zCw s=(PM,PA,PX):=⟨_,_,_,rfl⟩;have HPA:Hid (zCw s=(PM,PA,PX)):=hPA;clear hPA;go_wp2_with fail
    refine (zK3 s HS.out w8).mono ?_;rintro e w9 ⟨pvs,pcs,rfl,hq,hb⟩;rw[HPA.out] at hq ⊢
    dsimp only at hq ⊢
    obtain⟨⟨av9,cv9,rfl,_,_⟩,⟨ac9,cc9,rfl,_,_⟩⟩:=hq.marg;have HPQ:Hid (ModR w8.heap.size w9 (.slice av9 PM.vars.length cv9) (.slice ac9 PM.cons.length cc9) PM):=hq;have HB89:Hid (Below w8.heap.size w8 w9):=hb;unfold modV;clear hq hb;go_upto_region 14 with (fail)
    have HP9:Hid ((w9.alloc (.cells #[.slice av9 PM.vars.length cv9,.slice ac9 PM.cons.length cc9,.int .i64 PM.goal,.int .i64 PM.var] 25)).heap[w9.heap.size]? = some (.cells #[.slice av9 PM.vars.length cv9,.slice ac9 PM.cons.length cc9,.int .i64 PM.goal,.int .i64 PM.var] 25)):=heap_alloc_new _ _;have HB8A:Hid (Below w8.heap.size w8 (w9.alloc (.cells #[.slice av9 PM.vars.length cv9,.slice ac9 PM.cons.length cc9,.int .i64 PM.goal,.int .i64 PM.var] 25))):=HB89.out.alloc HB89.out.size _;have HPQA:Hid (ModR w8.heap.size (w9.alloc (.cells #[.slice av9 PM.vars.length cv9,.slice ac9 PM.cons.length cc9,.int .i64 PM.goal,.int .i64 PM.var] 25)) (.slice av9 PM.vars.length cv9) (.slice ac9 PM.cons.length cc9) PM):=HPQ.out.below (zAA _ _);obtain⟨W9,hW9⟩:∃W9,w9.alloc (.cells #[.slice av9 PM.vars.length cv9,.slice ac9 PM.cons.length cc9,.int .i64 PM.goal,.int .i64 PM.var] 25)=W9:=⟨_,rfl⟩;obtain⟨Bp,hBp⟩:∃Bp,w9.heap.size=Bp:=⟨_,rfl⟩;rw[hW9] at HP9 HB8A HPQA ⊢;rw[hBp] at HP9 ⊢;clear hW9 hBp HPQ HB89;have HB9:Hid (Below wr.heap.size wr W9):=HB8.out.trans (HB8A.out.mono HB8.out.size);have HB79:Hid (Below w7.heap.size w7 W9):=HB78.out.trans (HB8A.out.mono HB78.out.size);have HB69:Hid (Below W6.heap.size W6 W9):=HB67.out.trans (HB79.out.mono HB67.out.size);have HB59:Hid (Below W5.heap.size W5 W9):=HB57.out.trans (HB69.out.mono HB57.out.size);obtain⟨nl,n0,n1,n2,n3⟩:=HNQ.out _ HB9.out;obtain⟨xl,_,x1,x2⟩:=HXA.out _ HB59.out;go_wp2_with fail
    refine (zGV m [] A.proof _ _ _ _ W9 (HR.out _ HB9.out).na (zS1 _) (zTP (HAQ5.out.below HB59.out)) (HT.out _ (HR.out _ HB9.out).bel)).mono ?_;rintro e w10 ⟨rfl,hb⟩;rw[HP.out]
    dsimp only
    have HB9X:Hid (Below W9.heap.size W9 w10):=hb;have HB10:Hid (Below wr.heap.size wr w10):=HB9.out.trans (hb.mono HB9.out.size);clear hb n0 n1 n2 n3 nl x1 x2 xl;go_upto_region 15 with (fail)
    go_cut [131] (fun b wx=>Hid (b=.bool false∧Below W9.heap.size W9 wx))
    case first =>
     obtain⟨nl,n0,n1,n2,n3⟩:=HNQ.out _ HB10.out;have hmb:=(HR.out _ HB10.out).mb;have lm:=(Array.getElem?_eq_some_iff.1 hmb).1;have q0:w10.cell? ⟨w.heap.size,0,none⟩=some (.slice a1 m.vars.length c1):=blk9 hmb 0 _ rfl;have q1:w10.cell? ⟨w.heap.size,1,none⟩=some (.slice a2 m.cons.length c2):=blk9 hmb 1 _ rfl;have q2:w10.cell? ⟨w.heap.size,2,none⟩=some (.int .i64 m.goal):=blk9 hmb 2 _ rfl;have q3:w10.cell? ⟨w.heap.size,3,none⟩=some (.int .i64 m.var):=blk9 hmb 3 _ rfl;clear hmb;go_wp2_with fail
     refine (zGt m _ _ _ _ w10 (HR.out _ HB10.out).na (HR.out _ HB10.out).ma).mono ?_;rintro e w11 ⟨rfl,hb⟩;have HB9Y:Hid (Below W9.heap.size W9 w11):=HB9X.out.trans (hb.mono HB9X.out.size);have HB11:Hid (Below wr.heap.size wr w11):=HB10.out.trans (hb.mono HB10.out.size);clear hb n0 n1 n2 n3 nl q0 q1 q2 q3 lm HB9X HB10;have HB5Y:Hid (Below W5.heap.size W5 w11):=HB59.out.trans (HB9Y.out.mono HB59.out.size);obtain⟨xl,x0,x1,x2⟩:=HXA.out _ HB5Y.out;have tE:(E != E)=false:=by simp
     have tV:(A.verdict != A.verdict)=false:=by simp
     go_wp2_with fail
     refine (zCG A.values A.values _ _ w11 (zDa (HAQ5.out.below HB5Y.out).val) (HR.out _ HB11.out).va).mono ?_;rintro e w12 ⟨rfl,hd⟩;have hdt:decide (A.values=A.values)=true:=by simp
     rw[hdt];have HB9Z:Hid (Below W9.heap.size W9 w12):=HB9Y.out.trans ((zLI hd).mono HB9Y.out.size);clear hd hdt;by_cases hE:E=0
     ·have tE0:(E==0)=true:=by simpa using hE
      have tP:(PE != 0)=false:=by rw[HCK.out hE];rfl
      clear hE;go_wp2_with fail
      go_meet
      exact⟨rfl,HB9Z.out⟩
     ·have tE0:(E==0)=false:=by simpa using hE
      clear hE;go_wp2_with fail
      go_meet
      exact⟨rfl,HB9Z.out⟩
    case rest =>
     obtain⟨rfl,hbz⟩:=hcut.out;have HB9Z:Hid (Below W9.heap.size W9 wc):=hbz;clear hcut hbz;have HV0:Hid (SpV X Ba Bb Bp (.slice ax A.values.length cx) (.slice ay LX.length cy) (.slice az BA.values.length cz) (.slice au LZ.length cu) (.slice al LA.length cl) (.slice aw SA.length cw) (.slice av9 PM.vars.length cv9) (.slice ac9 PM.cons.length cc9) wc):=by
      have g6:=HB69.out.trans (HB9Z.out.mono HB69.out.size);have g5:=HB59.out.trans (HB9Z.out.mono HB59.out.size);have g7:=HB79.out.trans (HB9Z.out.mono HB79.out.size);have g8:=HB8A.out.trans (HB9Z.out.mono HB8A.out.size);obtain⟨_,_,e1,e2⟩:=HXA.out _ g5;obtain⟨_,e3,e4⟩:=HYB.out _ g6;have hp9:=(HB9Z.out.block _ (Array.getElem?_eq_some_iff.1 HP9.out).1).trans HP9.out;obtain⟨k1,k2⟩:=zSD (HAQ5.out.below g5) HXW.out;obtain⟨k3,k4⟩:=zSD (HBQ7.out.below g6) (fun k hk=>HXW.out k (Nat.le_trans HB5.out.size hk))
      obtain⟨k5,k6⟩:=zTO (HPQA.out.below HB9Z.out) (fun k hk=>HXW.out k (Nat.le_trans HB8.out.size hk))
      exact⟨k1,k2,k3,k4,zS0 (zQO HLQ.out g7) (fun k hk=>HXW.out k (Nat.le_trans HB6.out.size hk)),HSQ.out.sp (Sp.below (X:=X) g8),k5,k6,e1,e2,e3,e4,blk9 hp9 0 _ rfl,blk9 hp9 1 _ rfl⟩
     have HSV:Hid (Sp X D wc):=HSP.out.trans (Sp.below (HB9.out.trans (HB9Z.out.mono HB9.out.size)));obtain⟨V,hV⟩:∃V:World,V=wc:=⟨_,rfl⟩;rw[←hV] at HV0 HSV ⊢;clear hV HB9Z HAQ5 HBQ7 HLQ HSQ HPQA HP9 HXA HYB HX5 HY6;have HVV:Hid (∀Y,Sp X V Y→SpV X Ba Bb Bp (.slice ax A.values.length cx) (.slice ay LX.length cy) (.slice az BA.values.length cz) (.slice au LZ.length cu) (.slice al LA.length cl) (.slice aw SA.length cw) (.slice av9 PM.vars.length cv9) (.slice ac9 PM.cons.length cc9) Y∧Y.cell? ⟨F,1,none⟩=some (.slice af A.values.length cf)∧WR X Y 1 (.slice af A.values.length cf)):=fun Y hY=>⟨HV0.out.sp hY,(HI.out Y (HSV.out.trans hY)).fb,(HI.out Y (HSV.out.trans hY)).fw⟩
     clear HV0;go_upto_region 17 with (fail)
     have HS0:Hid (Sp X V V):=Sp.refl _ _;have x1:=(HVV.out _ HS0.out).1.a1;have xl:=World.block_lt_of_cell? _ _ x1;go_wp2_with fail
     refine (zBq X _ _ (HVV.out _ HS0.out).1.fa).mono ?_;rintro e y1 ⟨rfl,hs⟩;have HS1:Hid (Sp X V y1):=HS0.out.trans hs;clear hs x1 xl;have x1:=(HVV.out _ HS1.out).1.b1;have xl:=World.block_lt_of_cell? _ _ x1;go_wp2_with fail
     refine (zBq X _ _ (HVV.out _ HS1.out).1.fb).mono ?_;rintro e y2 ⟨rfl,hs⟩;have HS2:Hid (Sp X V y2):=HS1.out.trans hs;clear hs x1 xl;have x1:=(HVV.out _ HS2.out).1.a2;have xl:=World.block_lt_of_cell? _ _ x1;go_wp2_with fail
     refine (zE5 X _ _ (HVV.out _ HS2.out).1.fap).mono ?_;rintro e y3 ⟨rfl,hs⟩;have HS3:Hid (Sp X V y3):=HS2.out.trans hs;clear hs x1 xl;have x1:=(HVV.out _ HS3.out).1.b2;have xl:=World.block_lt_of_cell? _ _ x1;go_wp2_with fail
     refine (zE5 X _ _ (HVV.out _ HS3.out).1.fbp).mono ?_;rintro e y4 ⟨rfl,hs⟩;have HS4:Hid (Sp X V y4):=HS3.out.trans hs;clear hs x1 xl;go_wp2_with fail
     go_loopw [27] (fun i wy=>∃j:Nat,j≤LA.length∧i=.int .i64 j∧Hid (Sp X V wy)) (fun i _=>LA.length - (intOf i).toNat)
     case atStart=>exact⟨0,by omega,rfl,HS4⟩
     case round =>
      obtain⟨j,hj,rfl,hsy⟩:=hrel;have HSY:Hid (Sp X V wr):=hsy;obtain⟨_,_,_,he,hq1,hq2,hr⟩:=(HVV.out _ HSY.out).1.fl;cases he
      unfold maxLen at hq2;clear hsy;by_cases hjl:j<LA.length
      ·obtain⟨g,bx,nx,dx,hae,hcl,hwr,_⟩:=hr j hjl
       subst hae;rw[Nat.mul_one,Nat.add_zero] at hcl;have hgl:=World.block_lt_of_cell? _ _ hcl;have HWR:Hid (WR X wr 1 (.slice bx nx dx)):=hwr;clear hr hwr;go_wp2_with fail
       refine (zBq X _ _ HWR.out).mono ?_;rintro e y5 ⟨rfl,hs⟩;have HS5:Hid (Sp X V y5):=HSY.out.trans hs;clear hs hcl hgl;go_wp2
       go_roundw
       case rel=>exact⟨j+1,by omega,by go_num,HS5⟩
       case measure=>simp[intOf];omega
      ·clear hr hq1 hq2
       go_wp2_with fail
       refine (zBq X _ _ (HVV.out _ HSY.out).1.fs).mono ?_;rintro e y6 ⟨rfl,hs⟩;have HS6:Hid (Sp X V y6):=HSY.out.trans hs;clear hs;go_wp2_with fail
       go_loopw [28] (fun i wy=>∃j:Nat,j≤PM.vars.length∧i=.int .i64 j∧Hid (Sp X V wy)) (fun i _=>PM.vars.length - (intOf i).toNat)
       case atStart=>exact⟨0,by omega,rfl,HS6⟩
       case round =>
        obtain⟨j2,hj2,rfl,hsy⟩:=hrel;have HSY:Hid (Sp X V wr):=hsy;obtain⟨_,_,_,he,hq1,hq2,hr⟩:=(HVV.out _ HSY.out).1.fpv;cases he
        unfold maxLen at hq2;have x0:=(HVV.out _ HSY.out).1.p0;have xl:=World.block_lt_of_cell? _ _ x0;clear hsy;by_cases hjl2:j2<PM.vars.length
        ·obtain⟨g,hae,hbad⟩:=hr j2 hjl2
         subst hae;have hgl:=hbad.lt;obtain⟨_,hfz,y,hy,_⟩:=id hbad;have HS7:Hid (Sp X V (wr.setCell ⟨g,j2 * 3,none⟩ (.string ⟨#[63]⟩))):=HSY.out.trans (hbad.set _ (fun a n c he=>by cases he))
         clear hr hbad;go_wp2
         go_roundw
         case rel=>exact⟨j2+1,by omega,by go_num,HS7⟩
         case measure=>simp[intOf];omega
        ·clear hr hq1 hq2
         go_wp2_with fail
         clear x0 xl;go_loopw [29] (fun i wy=>∃j:Nat,j≤PM.cons.length∧i=.int .i64 j∧Hid (Sp X V wy)) (fun i _=>PM.cons.length - (intOf i).toNat)
         case atStart=>exact⟨0,by omega,rfl,HSY⟩
         case round =>
          obtain⟨j3,hj3,rfl,hsy⟩:=hrel;have HSZ3:Hid (Sp X V wr):=hsy;obtain⟨_,_,_,he,hq1,hq2,hr⟩:=(HVV.out _ HSZ3.out).1.fpc;cases he
          unfold maxLen at hq2;have x0:=(HVV.out _ HSZ3.out).1.p1;have xl:=World.block_lt_of_cell? _ _ x0;clear hsy;by_cases hjl3:j3<PM.cons.length
          ·obtain⟨g,bx,nx,dx,hae,hcl,hwr,_⟩:=hr j3 hjl3
           subst hae;have hgl:=World.block_lt_of_cell? _ _ hcl;have HWR:Hid (WR X wr 1 (.slice bx nx dx)):=hwr;clear hr hwr;go_wp2_with fail
           refine (zBq X _ _ HWR.out).mono ?_;rintro e y8 ⟨rfl,hs⟩;have HS8:Hid (Sp X V y8):=HSZ3.out.trans hs;clear hs hcl hgl x0 xl;obtain⟨_,_,_,he,_,_,hr⟩:=(HVV.out _ HS8.out).1.fpc;cases he
           obtain⟨_,_,_,_,hae,_,_,hb0⟩:=hr j3 hjl3;cases hae
           have hbad:=hb0 (by decide)
           have hgl:=hbad.lt;obtain⟨_,hfz,y,hy,_⟩:=id hbad;have HS9:Hid (Sp X V (y8.setCell ⟨g,j3 * 6,none⟩ (.int .i64 (-7)))):=HS8.out.trans (hbad.set _ (fun a n c he=>by cases he))
           have x0:=(HVV.out _ HS8.out).1.p1;have xl:=World.block_lt_of_cell? _ _ x0;clear hr hbad hb0;go_wp2
           go_roundw
           case rel=>exact⟨j3+1,by omega,by go_num,HS9⟩
           case measure=>simp[intOf];omega
          ·clear hr hq1 hq2
           have x1:=(HVV.out _ HSZ3.out).2.1;have xl1:=World.block_lt_of_cell? _ _ x1;go_wp2_with fail
           refine (zBq X _ _ (HVV.out _ HSZ3.out).2.2).mono ?_;rintro e y10 ⟨rfl,hs⟩;have HS10:Hid (Sp X D y10):=HSV.out.trans (HSZ3.out.trans hs);clear hs x1 xl1 x0 xl;go_wp2
           go_roundw
           case rel=>exact⟨k+1,by omega,by go_num,HS10⟩
           case measure=>simp[intOf];omega
   ·clear hk
    go_wp2
    go_ret
    exact⟨rfl,(HI.out _ HSP.out).bel⟩
end Go.Proofs.YtndcpnlaadikoaaGreatDoor
