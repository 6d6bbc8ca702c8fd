/- What the proof leans on, part 41. -/
import Derived.Test.YtndcpnlaadikoaaGreatDoorPartBn
set_option maxRecDepth 100000
set_option maxHeartbeats 8000000
namespace Go.Proofs.YtndcpnlaadikoaaGreatDoor
open Go.RowKit
theorem zLB {w0 w Y:World} {b B:Nat} (h:Below w0.heap.size w0 w) (hf:Fr (XBB b B) w Y) (hb:w0.heap.size≤b) (hB:w0.heap.size≤B):Below w0.heap.size w0 Y :=
 ⟨hf.os.trans h.os,hf.tape.trans h.tape,hf.output.trans h.output,Nat.le_trans h.size hf.size,fun k hk=>(hf.block k (Nat.lt_of_lt_of_le hk h.size) (fun hx=>by rcases hx with hx | hx <;> omega)).trans (h.block k hk)⟩
theorem zLC {α β:Type} (f:α→List β) (l:List α) (k:Nat) (x:α) (h:l[k]? = some x):(l.take (k+1)).flatMap f=(l.take k).flatMap f++f x:=by
 rw[List.take_add_one,h];simp
theorem zE2 {α β:Type} (f:α→List β) (s:Nat):∀(l:List α),(∀x∈l,(f x).length≤s)→(l.flatMap f).length≤l.length * s
 | [],_=>by simp
 | x :: l,h=>by
   have h1:=zE2 f s l fun y hy=>h y (List.mem_cons_of_mem _ hy)
   have h2:=h x (List.mem_cons_self ..);rw[List.flatMap_cons,List.length_append,List.length_cons,Nat.succ_mul];omega
theorem zOP (N b:Nat) (m:Mod) (vs cs:Value) (w0 w:World) (hm:MArg w0 vs cs m) (hb0:Below w0.heap.size w0 w) (hb:w0.heap.size≤b) (hN:N≤b) (ht:TabN N w)
 (hp:w.heap[b]? = some (.cells #[.pointer none,.slice none 0 0,vs] 181)) (hok:ModOk m) (h6:m.vars.length≤6) (h8:m.cons.length≤8) :
 Calls Tryz.prog 115 #[.pointer (some ⟨b,0,none⟩),modV vs cs m] w fun e w'=>e=.returned (.tuple #[])∧PrS N (w.heap.size+1) b vs (modB m) w'∧Fr (XBB b w.heap.size) w w':=by
 have HM:Hid (MArg w0 vs cs m):=hm;have HB0:Hid (Below w0.heap.size w0 w):=hb0;have HOK:Hid (ModOk m):=hok;have hbl:b<w.heap.size:=(Array.getElem?_eq_some_iff.1 hp).1;obtain⟨⟨a1,c1,rfl,hm1,_⟩,⟨a2,c2,rfl,hm2,_⟩⟩:=hm;unfold modV;unfold maxLen at hm1 hm2;clear hb0 hok;go_enter Tryz.func115,Tryz.ntmps115
 go_upto_block 0 with (fail)
 obtain⟨W,hW⟩:∃W,W=w.alloc (.cells #[.slice a1 m.vars.length c1,.slice a2 m.cons.length c2,.int .i64 m.goal,.int .i64 m.var] 25):=⟨_,rfl⟩;have HWS:Hid (W.heap.size=w.heap.size+1):=by show _=_;rw[hW];simp
 have HBW:Hid (Below w.heap.size w W):=by show Below _ _ _;rw[hW];exact zAA _ _
 have HQ:W.heap[w.heap.size]? = some (.cells #[.slice a1 m.vars.length c1,.slice a2 m.cons.length c2,.int .i64 m.goal,.int .i64 m.var] 25):=by rw[hW];exact heap_alloc_new _ _
 have HP0:Hid (PrS N (w.heap.size+1) b (.slice a1 m.vars.length c1) [] W):=⟨hN,by omega,by rw[HWS.out];exact Nat.le_refl _,ht.below HBW.out,_,_,Or.inl rfl,(HBW.out.block b hbl).trans hp,World.ownsRow_nil _ _ _ _⟩
 rw[←hW];clear hW ht hp;have HX:Hid (∀Y,Fr (XBB b (w.heap.size+1)) W Y→Below w0.heap.size w0 Y∧Y.heap[w.heap.size]? = some (.cells #[.slice a1 m.vars.length c1,.slice a2 m.cons.length c2,.int .i64 m.goal,.int .i64 m.var] 25)):=fun Y hY =>
  ⟨zLB (HB0.out.trans (HBW.out.mono HB0.out.size)) hY hb (by have:=HB0.out.size;omega),(hY.block _ (by rw[HWS.out];omega) (fun hx=>by rcases hx with hx | hx <;> omega)).trans HQ⟩
 clear HQ;go_cut [] (fun wx=>Hid (PrS N (w.heap.size+1) b (.slice a1 m.vars.length c1) (m.vars.flatMap zAs) wx)∧Hid (Fr (XBB b (w.heap.size+1)) W wx))
 case first =>
  go_wp2_with fail
  go_loopw [12] (fun i wr=>∃k:Nat,k≤m.vars.length∧i=.int .i64 k∧Hid (PrS N (w.heap.size+1) b (.slice a1 m.vars.length c1) ((m.vars.take k).flatMap zAs) wr)∧Hid (Fr (XBB b (w.heap.size+1)) W wr)) (fun i _=>m.vars.length - (intOf i).toNat)
  case atStart=>exact⟨0,by omega,rfl,HP0,Fr.refl _ _⟩
  case round =>
   obtain⟨k,hk,rfl,hpr,hfr⟩:=hrel;by_cases hlt:k<m.vars.length
   ·obtain⟨x,hx⟩:∃x,m.vars[k]? = some x:=⟨m.vars[k],List.getElem?_eq_getElem hlt⟩
    have HVO:Hid (zSu x):=HOK.out.vars x (List.mem_of_getElem? hx);obtain⟨bb,off,hbb,rfl,n0,n1,n2⟩:∃bb off,bb<wr.heap.size∧a1=some ⟨bb,off,none⟩∧wr.cell? ⟨bb,off+k * 3,none⟩=some (.string x.name)∧wr.cell? ⟨bb,off+k * 3+1,none⟩=some (.int .i64 x.lo)∧wr.cell? ⟨bb,off+k * 3+2,none⟩=some (.int .i64 x.hi):=by
     obtain⟨a',c',hv,_,hr⟩:=VArg.below (HX.out wr hfr.out).1 HM.out.1;cases hv
     obtain⟨_,bb,off,h1,h2,h3,h4,h5⟩:=hr k x hx;exact⟨bb,off,h2,h1,h3,h4,h5⟩
    have HLL:=zEG HVO.out;obtain⟨nm,lo,hi⟩:=x;simp only at n0 n1 n2 HLL;obtain⟨nlo,hnlo⟩:∃s,numB lo=s:=⟨_,rfl⟩;obtain⟨nhi,hnhi⟩:∃s,numB hi=s:=⟨_,rfl⟩;have HNlo:Hid (∀Y,TabN N Y→Calls Tryz.prog 188 #[.int .i64 lo] Y fun e w'=>e=.returned (.string nlo)∧Below Y.heap.size Y w'):=fun Y hY=>by
     rw[←hnlo];exact zDQ N lo (by have:=HVO.out.2;simp only at this;unfold okI;omega) Y hY
    have HNhi:Hid (∀Y,TabN N Y→Calls Tryz.prog 188 #[.int .i64 hi] Y fun e w'=>e=.returned (.string nhi)∧Below Y.heap.size Y w'):=fun Y hY=>by
     rw[←hnhi];exact zDQ N hi (by have:=HVO.out.2;simp only at this;unfold okI;omega) Y hY
    have HLE:Hid ((m.vars.take k).flatMap zAs++zE4 [varW,nm++colW,nlo++zEJ++nhi]=(m.vars.take (k+1)).flatMap zAs):=by
     show _=_;rw[zLC zAs _ k _ hx];unfold zAs;simp only;rw[hnlo,hnhi]
    have HJL:Hid ((zBW [varW,nm++colW,nlo++zEJ++nhi] [32]).length≤10000):=by rw[←hnlo,←hnhi];exact HLL.1
    have HTL:Hid (((m.vars.take k).flatMap zAs).length≤100000000):=by
     have h1:=zE2 zAs 10002 (m.vars.take k) (fun y hy=>(zEG (HOK.out.vars y (List.mem_of_mem_take hy))).2.1)
     have h2:(m.vars.take k).length≤6:=by simp;omega
     have h3:(m.vars.take k).length * 10002≤6 * 10002:=Nat.mul_le_mul_right _ h2;show _≤_;omega
    obtain⟨pre,hpre⟩:∃pre,(m.vars.take k).flatMap zAs=pre:=⟨_,rfl⟩;rw[hpre] at hpr HLE HTL;have g1:¬(9223372036854775807<nm.size+1):=by omega
    have g2:¬(9223372036854775807<nlo.size+2):=by rw[←hnlo];omega
    have g3:¬(9223372036854775807<nlo.size+2+nhi.size):=by rw[←hnlo,←hnhi];omega
    clear hpre hnlo hnhi HLL hx HVO;have hk3:(k:Int)<(m.vars.length:Int):=by omega
    go_wp2_with fail
    obtain⟨Wv,hWv⟩:∃Wv,Wv=wr.alloc (.cells #[.string nm,.int .i64 lo,.int .i64 hi] 67):=⟨_,rfl⟩;have HBV:Hid (Below wr.heap.size wr Wv):=by show Below _ _ _;rw[hWv];exact zAA _ _
    have HQv:Wv.heap[wr.heap.size]? = some (.cells #[.string nm,.int .i64 lo,.int .i64 hi] 67):=by rw[hWv];exact heap_alloc_new _ _
    have hvl:wr.heap.size<Wv.heap.size:=(Array.getElem?_eq_some_iff.1 HQv).1;have v0:Wv.cell? ⟨wr.heap.size,0,none⟩=some (.string nm):=blk9 HQv 0 _ rfl;have v1:Wv.cell? ⟨wr.heap.size,1,none⟩=some (.int .i64 lo):=blk9 HQv 1 _ rfl;have v2:Wv.cell? ⟨wr.heap.size,2,none⟩=some (.int .i64 hi):=blk9 HQv 2 _ rfl;rw[←hWv];clear hWv HQv n0 n1 n2;have HPX:Hid (∀Y,Below Wv.heap.size Wv Y→PrS N (w.heap.size+1) b (.slice (some ⟨bb,off,none⟩) m.vars.length c1) pre Y):=fun Y hY=>(hpr.out.below HBV.out).below hY
    go_region_law
     (first
       | (rw[if_pos (by rfl)];go_simp;go_at_call 188;first
           | (refine (HNhi.out _ (HPX.out _ hB2).tab).mono ?_;rintro e w3 ⟨rfl,hb3⟩;have hB3:Below Wv.heap.size Wv w3:=hB2.trans (hb3.mono hB2.size);have r0:=(hB3.cell (p:=⟨wr.heap.size,0,none⟩) hvl).trans v0;dsimp only)
           | (refine (HNlo.out _ (HPX.out _ (Below.refl _ _).drew).tab).mono ?_;rintro e w2 ⟨rfl,hb2⟩;have hB2:Below Wv.heap.size Wv w2:=(Below.refl _ _).drew.trans hb2;have s0:=(hB2.cell (p:=⟨wr.heap.size,0,none⟩) hvl).trans v0;have s2:=(hB2.cell (p:=⟨wr.heap.size,2,none⟩) hvl).trans v2;dsimp only))
       | (rw[if_pos (by rfl)];go_simp;go_at_call 187;refine (zF2 N (w.heap.size+1) b _ pre [varW,nm++colW,nlo++zEJ++nhi] _ _ (HPX.out _ (hB3.alloc hB3.size _)) (SOwn.arg (SOwn.new [varW,nm++colW,nlo++zEJ++nhi] 0 3 _ w3 (Nat.zero_le _) rfl (by decide) rfl)) (by simp) (by have:=HJL.out;omega) HTL.out).mono ?_;rintro e w5 ⟨rfl,hp5,hf5⟩;dsimp only))
    all_goals
     have HP5:Hid (PrS N (w.heap.size+1) b (.slice (some ⟨bb,off,none⟩) m.vars.length c1) ((m.vars.take (k+1)).flatMap zAs) w5):=by rw[←HLE.out];exact hp5
     have HF5:Hid (Fr (XBB b (w.heap.size+1)) W w5):=(hfr.out.trans (Fr.below (HBV.out.trans ((hB3.alloc hB3.size _).mono HBV.out.size)))).trans hf5;clear hp5 hf5 hB2 hB3 hb2 hb3 s0 s2 r0 v0 v1 v2;go_wp2
     go_roundw
     case rel=>exact⟨k+1,by omega,by go_num,HP5,HF5⟩
     case measure=>simp[intOf];omega
   ·have hkk:k=m.vars.length:=by omega
    have HPE:Hid (PrS N (w.heap.size+1) b (.slice a1 m.vars.length c1) (m.vars.flatMap zAs) wr):=by
     have:=hpr.out;rw[hkk,List.take_length] at this;exact this
    clear hpr hkk;go_wp2_with fail
    go_meet
    exact⟨HPE,hfr⟩
 case rest =>
  obtain⟨hp1,hf1⟩:=hcut;have HQ1:Hid (wc.heap[w.heap.size]? = some (.cells #[.slice a1 m.vars.length c1,.slice a2 m.cons.length c2,.int .i64 m.goal,.int .i64 m.var] 25)):=(HX.out wc hf1.out).2;have d1:wc.cell? ⟨w.heap.size,1,none⟩=some (.slice a2 m.cons.length c2):=blk9 HQ1.out 1 _ rfl;clear HP0;go_upto_block 2 with (fail)
  go_cut [] (fun wx=>Hid (PrS N (w.heap.size+1) b (.slice a1 m.vars.length c1) (m.vars.flatMap zAs++m.cons.flatMap (zA6 m.vars)) wx)∧Hid (Fr (XBB b (w.heap.size+1)) W wx))
  case first =>
   go_wp2_with fail
   go_loopw [34] (fun i wr=>∃k:Nat,k≤m.cons.length∧i=.int .i64 k∧Hid (PrS N (w.heap.size+1) b (.slice a1 m.vars.length c1) (m.vars.flatMap zAs++(m.cons.take k).flatMap (zA6 m.vars)) wr)∧Hid (Fr (XBB b (w.heap.size+1)) W wr)) (fun i _=>m.cons.length - (intOf i).toNat)
   case atStart=>exact⟨0,by omega,rfl,by simpa using hp1,hf1⟩
   case round =>
    clear d1;obtain⟨k,hk,rfl,hpr,hfr⟩:=hrel;by_cases hlt:k<m.cons.length
    ·obtain⟨x,hx⟩:∃x,m.cons[k]? = some x:=⟨m.cons[k],List.getElem?_eq_getElem hlt⟩
     have HCO:Hid (ConOk m.vars.length x):=HOK.out.cons x (List.mem_of_getElem? hx);obtain⟨bb,off,vv,vc,vr,vl,hbb,rfl,n0,n1,n2,n3,n4,n5,hka⟩:∃bb off vv vc vr vl,bb<wr.heap.size∧a2=some ⟨bb,off,none⟩∧wr.cell? ⟨bb,off+k * 6,none⟩=some (.int .i64 x.kind)∧wr.cell? ⟨bb,off+k * 6+1,none⟩=some vv∧wr.cell? ⟨bb,off+k * 6+2,none⟩=some vc∧wr.cell? ⟨bb,off+k * 6+3,none⟩=some (.int .i64 x.n)∧wr.cell? ⟨bb,off+k * 6+4,none⟩=some vr∧wr.cell? ⟨bb,off+k * 6+5,none⟩=some vl∧KArg wr vv vc vr vl x:=by
      obtain⟨a',c',hv,_,hr⟩:=CArg.below (HX.out wr hfr.out).1 HM.out.2;cases hv
      obtain⟨bb,off,vv,vc,vr,vl,h1,h2,h3⟩:=hr k x hx;exact⟨bb,off,vv,vc,vr,vl,h2,h1,h3⟩
     have HKA:Hid (KArg wr vv vc vr vl x):=hka;obtain⟨⟨q1,r1,rfl,_,_⟩,⟨q2,r2,rfl,_,_⟩,⟨q3,r3,rfl,_,_⟩,⟨q4,r4,rfl,_,_⟩⟩:=hka;have HVA:Hid (VArg wr (.slice a1 m.vars.length c1) m.vars):=VArg.below (HX.out wr hfr.out).1 HM.out.1;have HLE:Hid (m.vars.flatMap zAs++(m.cons.take k).flatMap (zA6 m.vars)++zA6 m.vars x=m.vars.flatMap zAs++(m.cons.take (k+1)).flatMap (zA6 m.vars)):=by
      show _=_;rw[zLC (zA6 m.vars) _ k _ hx,List.append_assoc]
     have HTL:Hid ((m.vars.flatMap zAs++(m.cons.take k).flatMap (zA6 m.vars)).length≤10000000):=by
      have h1:=zE2 zAs 10002 m.vars (fun y hy=>(zEG (HOK.out.vars y hy)).2.1)
      have h2:=zE2 (zA6 m.vars) 10002 (m.cons.take k) (fun y hy=>(zFT (zEF HOK.out.names) (HOK.out.cons y (List.mem_of_mem_take hy))).2)
      have h3:(m.cons.take k).length≤8:=by simp;omega
      have h4:(m.cons.take k).length * 10002≤8 * 10002:=Nat.mul_le_mul_right _ h3;have h5:m.vars.length * 10002≤6 * 10002:=Nat.mul_le_mul_right _ h6;show _≤_;rw[List.length_append];omega
     have hk3:(k:Int)<(m.cons.length:Int):=by omega
     obtain⟨pre,hpre⟩:∃pre,m.vars.flatMap zAs++(m.cons.take k).flatMap (zA6 m.vars)=pre:=⟨_,rfl⟩;rw[hpre] at hpr HLE HTL;clear hpre hx;go_wp2_with fail
     obtain⟨Wv,hWv⟩:∃Wv,Wv=wr.alloc (.cells #[.int .i64 x.kind,.slice q1 x.vars.length r1,.slice q2 x.consts.length r2,.int .i64 x.n,.slice q3 x.rows.length r3,.slice q4 x.lits.length r4] 69):=⟨_,rfl⟩;have HBV:Hid (Below wr.heap.size wr Wv):=by show Below _ _ _;rw[hWv];exact zAA _ _
     rw[←hWv];clear hWv;refine (show Calls Tryz.prog 189 #[.pointer (some ⟨b,0,none⟩),conV (.slice q1 x.vars.length r1) (.slice q2 x.consts.length r2) (.slice q3 x.rows.length r3) (.slice q4 x.lits.length r4) x] Wv _ from zQF N (w.heap.size+1) b (.slice a1 m.vars.length c1) m.vars x _ _ _ _ pre Wv (hpr.out.below HBV.out) (VArg.below HBV.out HVA.out) (KArg.below HBV.out HKA.out) (zEF HOK.out.names) HCO.out HTL.out).mono ?_
     rintro e w5 ⟨rfl,hp5,hf5⟩;have HP5:Hid (PrS N (w.heap.size+1) b (.slice a1 m.vars.length c1) (m.vars.flatMap zAs++(m.cons.take (k+1)).flatMap (zA6 m.vars)) w5):=by rw[←HLE.out];exact hp5
     have HF5:Hid (Fr (XBB b (w.heap.size+1)) W w5):=(hfr.out.trans (Fr.below HBV.out)).trans hf5;clear hp5 hf5 n0 n1 n2 n3 n4 n5;go_wp2
     go_roundw
     case rel=>exact⟨k+1,by omega,by go_num,HP5,HF5⟩
     case measure=>simp[intOf];omega
    ·have hkk:k=m.cons.length:=by omega
     have HPE:Hid (PrS N (w.heap.size+1) b (.slice a1 m.vars.length c1) (m.vars.flatMap zAs++m.cons.flatMap (zA6 m.vars)) wr):=by
      have:=hpr.out;rw[hkk,List.take_length] at this;exact this
     clear hpr hkk;go_wp2_with fail
     go_meet
     exact⟨HPE,hfr⟩
  case rest =>
   clear d1;obtain⟨hp2,hf2⟩:=hcut;have HQ2:Hid (wc.heap[w.heap.size]? = some (.cells #[.slice a1 m.vars.length c1,.slice a2 m.cons.length c2,.int .i64 m.goal,.int .i64 m.var] 25)):=(HX.out wc hf2.out).2;have hltc:w.heap.size<wc.heap.size:=(Array.getElem?_eq_some_iff.1 HQ2.out).1;clear hp1 hf1 HQ1;have HGO:=HOK.out.goal;obtain⟨k,hk⟩:∃k:Nat,m.goal=(k:Int):=⟨m.goal.toNat,by unfold zGs at HGO;omega⟩
   have hk2:k≤2:=by unfold zGs at HGO;omega
   obtain⟨z,hz⟩:∃z,zDX[k]? = some z:=by
    have:k<zDX.length:=by show k<3;omega
    exact⟨zDX[k],List.getElem?_eq_getElem this⟩
   have HZ:Hid (zDX[k]? = some z):=hz;have HE:Hid (zF5 m.goal=z):=by show _=_;unfold zF5;rw[hk,List.getD_eq_getElem?_getD];simp[hz]
   have e2:wc.cell? ⟨w.heap.size,2,none⟩=some (.int .i64 (k:Int)):=by rw[←hk];exact blk9 HQ2.out 2 _ rfl
   have hk0:(0:Int)≤(k:Int):=by omega
   have hk1:(k:Int)<(zDX.length:Int):=by show (k:Int)<3;omega
   have HTL:Hid ((m.vars.flatMap zAs++m.cons.flatMap (zA6 m.vars)).length≤100000000):=by
    have h1:=zE2 zAs 10002 m.vars (fun y hy=>(zEG (HOK.out.vars y hy)).2.1)
    have h2:=zE2 (zA6 m.vars) 10002 m.cons (fun y hy=>(zFT (zEF HOK.out.names) (HOK.out.cons y hy)).2)
    have h4:m.cons.length * 10002≤8 * 10002:=Nat.mul_le_mul_right _ h8;have h5:m.vars.length * 10002≤6 * 10002:=Nat.mul_le_mul_right _ h6;show _≤_;rw[List.length_append];omega
   have HJL:Hid ((zBW [zBy,z] [32]).length≤10000∧(zBW [zBy,z,zAq m.vars m.var] [32]).length≤10000):=by
    have h1:=zK9 (zEF HOK.out.names) HGO;rw[HE.out] at h1;exact⟨h1.1,h1.2.1⟩
   have HGO:Hid (zGs m):=HGO;have HLB:Hid (m.vars.flatMap zAs++m.cons.flatMap (zA6 m.vars)++zB2 m=modB m):=by show _=_;unfold modB;rw[List.append_assoc]
   obtain⟨pre,hpre⟩:∃pre,m.vars.flatMap zAs++m.cons.flatMap (zA6 m.vars)=pre:=⟨_,rfl⟩;rw[hpre] at hp2 HLB HTL;clear hz hk hpre;go_upto_region 11 with (fail)
   go_cut [8] (fun gl wx=>gl=.string z∧Hid (Below wc.heap.size wc wx))
   case first =>
    go_region_law
     (rw[if_pos (by rfl)];go_simp;go_at_call 190;refine (zHN _).mono ?_;rintro e w2 ⟨sv,rfl,⟨as_,cs_,rfl,hm_,hsv⟩,hb2⟩;obtain⟨bk,off,rfl,hbk,hcell⟩:=hsv k z HZ.out;have kc:=(hb2.cell (p:=⟨w.heap.size,2,none⟩) hltc).trans e2;dsimp only)
    all_goals (go_wp2_with fail;go_meet;exact⟨rfl,(Below.refl _ _).drew.trans hb2⟩)
   case rest =>
    obtain⟨hgl,hb3⟩:=hcut;subst hgl;clear e2;have HQ3:Hid (wc.heap[w.heap.size]? = some (.cells #[.slice a1 m.vars.length c1,.slice a2 m.cons.length c2,.int .i64 m.goal,.int .i64 m.var] 25)):=(hb3.out.block _ hltc).trans HQ2.out;have j2:wc.cell? ⟨w.heap.size,2,none⟩=some (.int .i64 m.goal):=blk9 HQ3.out 2 _ rfl;have j3:wc.cell? ⟨w.heap.size,3,none⟩=some (.int .i64 m.var):=blk9 HQ3.out 3 _ rfl;have HPW:Hid (PrS N (w.heap.size+1) b (.slice a1 m.vars.length c1) pre wc):=hp2.out.below hb3.out;have HFW:Hid (Fr (XBB b (w.heap.size+1)) W wc):=hf2.out.trans (Fr.below hb3.out);have HFE:Hid (∀Y,Fr (XBB b (w.heap.size+1)) W Y→Fr (XBB b w.heap.size) w Y):=fun Y hY =>
     (Fr.below HBW.out).trans ⟨hY.os,hY.tape,hY.output,hY.size,fun q hq hx=>hY.block q hq (fun h=>hx (by rcases h with h | h;exact Or.inl h;exact Or.inr (by omega)))⟩
    clear hp2 hf2 hb3 HQ2;cases t0:(m.goal==0)
    ·have HLG:Hid (zB2 m=zE4 [zBy,z,zAq m.vars m.var]):=by
      show _=_;unfold zB2;rw[if_neg (by simpa using t0),HE.out]
     have HVR:Hid (0≤m.var∧m.var<(m.vars.length:Int)):=by
      have h1:=HGO.out;unfold zGs at h1;have h2:¬m.goal=0:=by simpa using t0
      show _∧_;omega
     have HVA:Hid (VArg wc (.slice a1 m.vars.length c1) m.vars):=VArg.below (HX.out wc HFW.out).1 HM.out.1;have HCV:Hid (wc.cell? ⟨b,2,none⟩=some (.slice a1 m.vars.length c1)):=by
      obtain⟨p,buf,_,hk,_⟩:=HPW.out.blk;exact blk9 hk 2 _ rfl
     go_wp2_with fail
     refine (zF3 b _ m.vars m.var wc HCV.out HVA.out HVR.out).mono ?_;rintro e w3 ⟨rfl,rfl⟩;go_wp2_with fail
     refine (zF2 N (w.heap.size+1) b _ pre [zBy,z,zAq m.vars m.var] _ _ (HPW.out.below (zAA _ _)) (SOwn.arg (SOwn.new [zBy,z,zAq m.vars m.var] 0 3 _ _ (Nat.zero_le _) rfl (by decide) rfl)) (by simp) (by have:=HJL.out;omega) HTL.out).mono ?_
     rintro e w5 ⟨rfl,hp5,hf5⟩;have HP5:Hid (PrS N (w.heap.size+1) b (.slice a1 m.vars.length c1) (modB m) w5):=by rw[←HLB.out,HLG.out];exact hp5
     have HF5:Hid (Fr (XBB b w.heap.size) w w5):=HFE.out _ ((HFW.out.trans (Fr.below (zAA _ _))).trans hf5);clear hp5 hf5;go_wp2
     go_end0
     exact⟨rfl,HP5.out,HF5.out⟩
    ·have HLG:Hid (zB2 m=zE4 [zBy,z]):=by
      show _=_;unfold zB2;rw[if_pos (by simpa using t0),HE.out]
     go_wp2_with fail
     refine (zF2 N (w.heap.size+1) b _ pre [zBy,z] _ _ (HPW.out.below (zAA _ _)) (SOwn.arg (SOwn.new [zBy,z] 0 2 _ _ (Nat.zero_le _) rfl (by decide) rfl)) (by simp) (by have:=HJL.out;omega) HTL.out).mono ?_
     rintro e w5 ⟨rfl,hp5,hf5⟩;have HP5:Hid (PrS N (w.heap.size+1) b (.slice a1 m.vars.length c1) (modB m) w5):=by rw[←HLB.out,HLG.out];exact hp5
     have HF5:Hid (Fr (XBB b w.heap.size) w w5):=HFE.out _ ((HFW.out.trans (Fr.below (zAA _ _))).trans hf5);clear hp5 hf5;go_wp2
     go_end0
     exact⟨rfl,HP5.out,HF5.out⟩
theorem zML (N B b:Nat) (vsl:Value) (l:List UInt8) (w:World) (h:PrS N B b vsl l w) (h0:l≠[]) :
 Calls Tryz.prog 116 #[.pointer (some ⟨b,0,none⟩)] w fun e w'=>e=.returned (.string ⟨l.toArray⟩)∧Below B w w':=by
 obtain⟨_,_,_,_,p,buf,hp,hbk,hown⟩:=h;have hl0:l.length≠0:=by simpa using h0
 obtain⟨g,cap,cur,rfl,hbg,hg,hnc,hcm,hcs,htake⟩:∃g cap cur,buf=.slice (some ⟨g,0,none⟩) l.length cap∧B≤g∧w.heap[g]? = some (.cells cur 5 (0,0))∧l.length≤cap∧cap≤maxLen∧cur.size=cap * 1∧cur.toList.take (l.length * 1)=Lib.byteCells l:=by
  rcases hown.2 with ⟨_,hz⟩ | ⟨g,cap,cur,hv,r⟩
  ·exact absurd hz hl0
  ·exact⟨g,cap,cur,hv,r⟩
 have c1:w.drew.cell? ⟨b,1,none⟩=some (.slice (some ⟨g,0,none⟩) l.length cap):=blk9 (w:=w.drew) hbk 1 _ rfl;have hSD:(Builtin.unsafeSliceData_ #[177] 247 #[.slice (some ⟨g,0,none⟩) l.length cap]).run Tryz.prog w.drew=.ok (.pointer (some ⟨g,0,none⟩)) w.drew :=
  Lib.run_unsafeSliceData_row _ _ _ _ _ _ (by omega)
 have hUS:(Builtin.unsafeString_ #[247,3] 9 #[.pointer (some ⟨g,0,none⟩),.int .i64 l.length]).run Tryz.prog w.drew=.ok (.string ⟨l.toArray⟩) (w.drew.freeze ⟨g,0,none⟩ l.length):=by
  refine Lib.run_unsafeString_row w.drew 247 3 9 5 (by kernel_rfl) (by kernel_rfl) g cur.size (by have hg':w.drew.heap[g]? = some (.cells cur 5 (0,0)):=hg;simp[World.shape?,hg']) l h0 (by omega) (by unfold maxLen at hcm;omega) ?_
  intro j x hx;have:=hown.cells (g:=g) rfl j (.int .u8 x.toNat) (by simp[Lib.byteCells,hx])
  exact this
 have HE:Hid (Below B w (w.drew.freeze ⟨g,0,none⟩ l.length)):=Lib.below_freeze (Below.drew (Below.refl B w)) (p:=⟨g,0,none⟩) hbg _;clear hown htake hg hbk;go_enter Tryz.func116,Tryz.ntmps116
 go_wp2
 go_region
 all_goals (go_wp2;go_ret;exact⟨rfl,HE.out⟩)
def zJG (m:Mod):ByteArray×Int:=if zAG m=0 then (⟨(modB m).toArray⟩,0) else (⟨#[]⟩,zAG m)
theorem zMM (m:Mod):modB m≠[]:=by
 unfold modB;intro h;have h1:=congrArg List.length h;simp only[List.length_append,List.length_nil] at h1;have h2:0<(zB2 m).length:=by
  unfold zB2
  split <;> (unfold zE4;simp)
 omega
theorem zQG (N:Nat) (m:Mod) (vs cs:Value) (w:World) (hm:MArg w vs cs m) (ht:TabN N w) (hN:N≤w.heap.size) :
 Calls Tryz.prog 60 #[modV vs cs m] w fun e w'=>e=.returned (.tuple #[.string (zJG m).1,.int .i64 (zJG m).2])∧Below w.heap.size w w':=by
 have HM:Hid (MArg w vs cs m):=hm;have HT:Hid (TabN N w):=ht;obtain⟨er,her⟩:∃er,zAG m=er:=⟨_,rfl⟩;obtain⟨st,hst⟩:∃st,(⟨(modB m).toArray⟩:ByteArray)=st:=⟨_,rfl⟩;have HER:Hid (zAG m=er):=her;have HST:Hid ((⟨(modB m).toArray⟩:ByteArray)=st):=hst;have HPA:Hid (zJG m=if er=0 then (st,0) else (⟨#[]⟩,er)):=by show _=_;unfold zJG;rw[her,hst]
 rw[HPA.out];clear her hst ht;obtain⟨⟨a1,c1,rfl,_,_⟩,⟨a2,c2,rfl,_,_⟩⟩:=hm;unfold modV;go_enter Tryz.func60,Tryz.ntmps60
 go_wp2_with fail
 obtain⟨W,hW⟩:∃W,W=w.alloc (.cells #[.slice a1 m.vars.length c1,.slice a2 m.cons.length c2,.int .i64 m.goal,.int .i64 m.var] 25):=⟨_,rfl⟩;have HBW:Hid (Below w.heap.size w W):=by show Below _ _ _;rw[hW];exact zAA _ _
 have HQ:Hid (W.heap[w.heap.size]? = some (.cells #[.slice a1 m.vars.length c1,.slice a2 m.cons.length c2,.int .i64 m.goal,.int .i64 m.var] 25)):=by show _=_;rw[hW];exact heap_alloc_new _ _
 rw[←hW];clear hW;refine (zA9 m _ _ W (MArg.below HBW.out HM.out)).mono ?_;rw[HER.out];rintro e w1 ⟨rfl,hb1⟩;have HB1:Hid (Below w.heap.size w w1):=HBW.out.trans (hb1.mono HBW.out.size);have HQ1:Hid (w1.heap[w.heap.size]? = some (.cells #[.slice a1 m.vars.length c1,.slice a2 m.cons.length c2,.int .i64 m.goal,.int .i64 m.var] 25)):=(hb1.block _ (Array.getElem?_eq_some_iff.1 HQ.out).1).trans HQ.out;clear hb1;cases t0:(er==0)
 ·have he:¬er=0:=by simpa using t0
  go_wp2
  go_ret2
  exact⟨rfl,HB1.out⟩
 ·have he:er=0:=by simpa using t0
  subst he;have k0:w1.cell? ⟨w.heap.size,0,none⟩=some (.slice a1 m.vars.length c1):=blk9 HQ1.out 0 _ rfl;have k1:w1.cell? ⟨w.heap.size,1,none⟩=some (.slice a2 m.cons.length c2):=blk9 HQ1.out 1 _ rfl;have k2:w1.cell? ⟨w.heap.size,2,none⟩=some (.int .i64 m.goal):=blk9 HQ1.out 2 _ rfl;have k3:w1.cell? ⟨w.heap.size,3,none⟩=some (.int .i64 m.var):=blk9 HQ1.out 3 _ rfl;have hlt:w.heap.size<w1.heap.size:=(Array.getElem?_eq_some_iff.1 HQ1.out).1;go_wp2_with fail
  obtain⟨W2,hW2⟩:∃W2,W2=w1.alloc (.cells #[.pointer none,.slice none 0 0,.slice a1 m.vars.length c1] 181):=⟨_,rfl⟩;have HB2:Hid (Below w1.heap.size w1 W2):=by show Below _ _ _;rw[hW2];exact zAA _ _
  have HQ2:Hid (W2.heap[w1.heap.size]? = some (.cells #[.pointer none,.slice none 0 0,.slice a1 m.vars.length c1] 181)):=by show _=_;rw[hW2];exact heap_alloc_new _ _
  rw[←hW2];clear hW2;have HCV:=zAe m HER.out;refine (show Calls Tryz.prog 115 #[.pointer (some ⟨w1.heap.size,0,none⟩),modV (.slice a1 m.vars.length c1) (.slice a2 m.cons.length c2) m] W2 _ from zOP N w1.heap.size m _ _ w1 W2 (MArg.below HB1.out HM.out) HB2.out (Nat.le_refl _) (by omega) ((HT.out.below HB1.out).below HB2.out) HQ2.out (zTL m HER.out) HCV.2.1 HCV.2.2.1).mono ?_
  rintro e w3 ⟨rfl,hp3,hf3⟩;have HP3:Hid (PrS N (W2.heap.size+1) w1.heap.size (.slice a1 m.vars.length c1) (modB m) w3):=hp3;have HB3:Hid (Below w.heap.size w w3):=HB1.out.trans ((zLB HB2.out hf3 (Nat.le_refl _) HB2.out.size).mono HB1.out.size);have hws:w.heap.size≤W2.heap.size+1:=by have:=HB2.out.size;omega
  clear hp3 hf3 HCV k0 k1 k2 k3;go_wp2_with fail
  refine (zML N _ _ _ (modB m) w3 HP3.out (zMM m)).mono ?_;rw[HST.out];rintro e w4 ⟨rfl,hb4⟩;have HB4:Hid (Below w.heap.size w w4):=HB3.out.trans (hb4.mono hws);clear hb4;go_wp2
  go_ret2
  exact⟨rfl,HB4.out⟩
end Go.Proofs.YtndcpnlaadikoaaGreatDoor
