/- What the proof leans on, part 36. -/
import Derived.Test.YtndcpnlaadikoaaGreatDoorPartBi
import Derived.Test.YtndcpnlaadikoaaGreatDoorPartAx
import Derived.Deep.CutBlock
import Derived.Deep.DeepCutAuto
set_option maxRecDepth 100000
set_option maxHeartbeats 3200000
namespace Go.Proofs.YtndcpnlaadikoaaGreatDoor
open Go.RowKit
def zIP (w:World) (v:Value) (l:List MStep):Prop :=
 ∃a c,v=.slice a l.length c∧(l.length≤c∧c≤maxLen)∧∀(i:Nat) (t:MStep),l[i]? = some t→∃b off x,a=some ⟨b,off,none⟩∧b<w.heap.size ∧
  w.cell? ⟨b,off+i * 3,none⟩=some (.int .i64 t.kind)∧w.cell? ⟨b,off+i * 3+1,none⟩=some (.int .i64 t.con)∧w.cell? ⟨b,off+i * 3+2,none⟩=some x∧LArg w x t.cla
theorem zIP.below {w w':World} {v:Value} {l:List MStep} (hb:Below w.heap.size w w') (h:zIP w v l):zIP w' v l:=by
 obtain⟨a,c,hv,hm,hr⟩:=h;refine⟨a,c,hv,hm,fun i z hz=>?_⟩
 obtain⟨b,off,x,ha,hlt,c0,c1,c2,hx⟩:=hr i z hz;exact⟨b,off,x,ha,Nat.lt_of_lt_of_le hlt hb.size,(hb.cell (p:=⟨b,off+i * 3,none⟩) hlt).trans c0,(hb.cell (p:=⟨b,off+i * 3+1,none⟩) hlt).trans c1,(hb.cell (p:=⟨b,off+i * 3+2,none⟩) hlt).trans c2,LArg.below hb hx⟩
def zBo (n:Int) (s:MStep):Bool:=!(decide (s.kind=1)&&(decide (s.con<0) || decide (n≤s.con)))
def zCU (m:Mod) (given:List Cla) (l:List MStep):Int :=
 if zAG m=0 then (if 6000<l.length then 2 else if zEK m.vars given=0 then
  (if zAj (l.map fun s=>claE m.vars s.cla)=0 then (if l.all (zBo m.cons.length) then 0 else 5) else zAj (l.map fun s=>claE m.vars s.cla)) else zEK m.vars given) else zAG m
theorem zP7 (m:Mod) (given:List Cla) (l:List MStep) (h:zCU m given l=0):zAG m=0∧l.length≤6000∧zEK m.vars given=0∧(∀s∈l,claE m.vars s.cla=0)∧∀s∈l,s.kind=1→0≤s.con∧s.con<(m.cons.length:Int):=by
 unfold zCU at h;by_cases h0:zAG m=0
 ·rw[if_pos h0] at h
  by_cases h1:6000<l.length
  ·rw[if_pos h1] at h;cases h
  ·rw[if_neg h1] at h
   by_cases h2:zEK m.vars given=0
   ·rw[if_pos h2] at h
    by_cases h3:zAj (l.map fun s=>claE m.vars s.cla)=0
    ·rw[if_pos h3] at h
     cases h4:l.all (zBo m.cons.length)
     ·rw[h4] at h;cases h
     ·refine⟨h0,by omega,h2,fun s hs=>zDn _ h3 _ (List.mem_map.2 ⟨s,hs,rfl⟩),fun s hs hk=>?_⟩
      have:=List.all_eq_true.1 h4 s hs;unfold zBo at this;simp[hk] at this;omega
    ·rw[if_neg h3] at h;exact absurd h h3
   ·rw[if_neg h2] at h;exact absurd h h2
 ·rw[if_neg h0] at h;exact absurd h h0
theorem zMB (m:Mod) (given:List Cla) (l:List MStep) (vs cs ul u:Value) (w:World) (hma:MArg w vs cs m) (hul:zDV w ul given) (hu:zIP w u l) :
 Calls Tryz.prog 76 #[modV vs cs m,ul,u] w fun e w'=>e=.returned (.int .i64 (zCU m given l))∧Below w.heap.size w w':=by
 have HMA:Hid (∀w',Below w.heap.size w w'→MArg w' vs cs m):=fun w' h=>MArg.below h hma
 have HL:Hid (∀w',Below w.heap.size w w'→zDV w' ul given):=fun w' h=>zDV.below h hul
 obtain⟨R,hR⟩:∃R,zCU m given l=R:=⟨_,rfl⟩;have HR:Hid (zCU m given l=R):=hR;rw[hR];obtain⟨⟨a1,c1,rfl,_,_⟩,⟨a2,c2,rfl,_,_⟩⟩:=hma;obtain⟨a3,c3,rfl,hm3,hr3⟩:=hu;have HST:Hid (∀(i:Nat) (t:MStep),l[i]? = some t→∃b off x,a3=some ⟨b,off,none⟩∧b<w.heap.size ∧
  w.cell? ⟨b,off+i * 3,none⟩=some (.int .i64 t.kind)∧w.cell? ⟨b,off+i * 3+1,none⟩=some (.int .i64 t.con)∧w.cell? ⟨b,off+i * 3+2,none⟩=some x∧LArg w x t.cla):=hr3
 unfold maxLen at hm3;obtain⟨hm31,hm3⟩:=hm3;obtain⟨a4,c4,rfl,_,_⟩:=hul;unfold modV;clear hR hr3;go_enter Tryz.func76,Tryz.ntmps76
 go_wp2_with fail
 refine (zA9 m _ _ _ (HMA.out _ (zAA _ _))).mono ?_;rintro e w1 ⟨rfl,hb1⟩;have HB1:Hid (Below w.heap.size w w1):=(zAA _ _).trans (hb1.mono (by simp))
 have l1:w.heap.size<w1.heap.size:=by have:=hb1.size;simp at this;omega
 have k0:w1.cell? ⟨w.heap.size,0,none⟩=some (.slice a1 m.vars.length c1):=(hb1.cell (by simp)).trans (World.cell?_alloc_at _ _ _ 0 (by simp))
 have k1:w1.cell? ⟨w.heap.size,1,none⟩=some (.slice a2 m.cons.length c2):=(hb1.cell (by simp)).trans (World.cell?_alloc_at _ _ _ 1 (by simp))
 clear hb1;obtain⟨er,her⟩:∃er,zAG m=er:=⟨_,rfl⟩;have HER:Hid (zAG m=er):=her;rw[her];clear her;by_cases he:er=0
 ·subst he
  by_cases h60:6000<l.length
  ·have HRF:Hid (R=2):=by show _=_;rw[←HR.out];unfold zCU;rw[if_pos HER.out,if_pos h60]
   go_wp2
   go_ret
   exact⟨zAI HRF.out.symm,HB1.out⟩
  ·have HR2:Hid (R=if zEK m.vars given=0 then (if zAj (l.map fun s=>claE m.vars s.cla)=0 then (if l.all (zBo m.cons.length) then 0 else 5) else zAj (l.map fun s=>claE m.vars s.cla)) else zEK m.vars given):=by
    show _=_;rw[←HR.out];unfold zCU;rw[if_pos HER.out,if_neg h60]
   clear HR;go_wp2_with fail
   refine (zJD m.vars given _ _ _ (HMA.out _ HB1.out).1 (HL.out _ HB1.out)).mono ?_;rintro e w2 ⟨rfl,hb2⟩;have HB2:Hid (Below w.heap.size w w2):=HB1.out.trans (hb2.mono HB1.out.size);have HL2:Hid (w.heap.size<w2.heap.size):=Nat.lt_of_lt_of_le l1 hb2.size;have HJ0:Hid (w2.cell? ⟨w.heap.size,0,none⟩=some (.slice a1 m.vars.length c1)):=(hb2.cell (p:=⟨w.heap.size,0,none⟩) l1).trans k0;have HJ1:Hid (w2.cell? ⟨w.heap.size,1,none⟩=some (.slice a2 m.cons.length c2)):=(hb2.cell (p:=⟨w.heap.size,1,none⟩) l1).trans k1;clear hb2 k0 k1 l1;obtain⟨el,hel⟩:∃el,zEK m.vars given=el:=⟨_,rfl⟩;rw[hel] at HR2 ⊢;clear hel;by_cases hl0:el=0
   ·subst hl0
    have HR3:Hid (R=if zAj (l.map fun s=>claE m.vars s.cla)=0 then (if l.all (zBo m.cons.length) then 0 else 5) else zAj (l.map fun s=>claE m.vars s.cla)):=by show _=_;rw[HR2.out,if_pos rfl]
    clear HR2;go_wp2_with fail
    go_loopw [31] (fun i wr=>∃k:Nat,k≤l.length∧i=.int .i64 k∧Hid (zAj ((l.map fun s=>claE m.vars s.cla).take k)=0)∧Below w2.heap.size w2 wr) (fun i _=>l.length - (intOf i).toNat)
    case atStart=>exact⟨0,by omega,rfl,rfl,Below.refl _ _⟩
    case round =>
     obtain⟨k,hk,rfl,hall,hbw⟩:=hrel;have HBW:Hid (Below w2.heap.size w2 wr):=hbw;have HBN:Hid (Below w.heap.size w wr):=HB2.out.trans (hbw.mono HB2.out.size);have i0:=(hbw.cell (p:=⟨w.heap.size,0,none⟩) HL2.out).trans HJ0.out;have lr:w.heap.size<wr.heap.size:=Nat.lt_of_lt_of_le HL2.out hbw.size;clear hbw;by_cases hlt:k<l.length
     ·obtain⟨t,ht⟩:∃t,l[k]? = some t:=⟨l[k],by simp[hlt]⟩
      obtain⟨b,off,x,hax,hb,q0,q1,q2,hxa⟩:=HST.out k t ht;subst hax;have hc0:=(HBN.out.cell (p:=⟨b,off+k * 3,none⟩) hb).trans q0;have hc1:=(HBN.out.cell (p:=⟨b,off+k * 3+1,none⟩) hb).trans q1;have hc2:=(HBN.out.cell (p:=⟨b,off+k * 3+2,none⟩) hb).trans q2;have HXA:Hid (∀w',Below w.heap.size w w'→LArg w' x t.cla):=fun w' h=>LArg.below h hxa
      obtain⟨ax,cx,rfl,_,_⟩:=hxa;obtain⟨er,her⟩:∃er,claE m.vars t.cla=er:=⟨_,rfl⟩;have HE1:Hid (claE m.vars t.cla=er):=her;have HZ:Hid ((l.map fun s=>claE m.vars s.cla)[k]? = some er):=by show _=_;rw[List.getElem?_map,ht,←her];rfl
      clear ht q0 q1 q2 her hb;go_wp2_with fail
      refine (zF1 m.vars t.cla _ _ _ (HMA.out _ (HBN.out.alloc HBN.out.size _)).1 (HXA.out _ (HBN.out.alloc HBN.out.size _))).mono ?_;rintro e w3 ⟨rfl,hb3⟩;rw[HE1.out];have HB3:Hid (Below w2.heap.size w2 w3):=(HBW.out.alloc HBW.out.size _).trans (hb3.mono (by have:=HBW.out.size;simp;omega))
      clear hb3 hc0 hc1 hc2 i0;by_cases he:er=0
      ·subst he
       have HN:Hid (zAj ((l.map fun s=>claE m.vars s.cla).take (k+1))=0):=zDF _ k hall.out HZ.out
       go_wp2
       go_roundw
       case rel=>exact⟨k+1,by omega,by go_num,HN,HB3.out⟩
       case measure=>simp[intOf];omega
      ·have HF:=zDm _ k er hall.out HZ.out he
       have HRF:Hid (R=er):=by show _=_;rw[HR3.out,HF,if_neg he]
       have he2:(er != 0)=true:=by simpa using he
       have HB4:Hid (Below w.heap.size w w3):=HB2.out.trans (HB3.out.mono HB2.out.size);clear hall he HF;go_wp2
       go_ret
       exact⟨zAI HRF.out.symm,HB4.out⟩
     ·have hke:k=l.length:=by omega
      have HR4:Hid (R=if l.all (zBo m.cons.length) then 0 else 5):=by
       show _=_;have h1:=hall.out;rw[hke,List.take_of_length_le (by simp)] at h1
       rw[HR3.out,if_pos h1]
      have HJ0':Hid (wr.cell? ⟨w.heap.size,0,none⟩=some (.slice a1 m.vars.length c1)):=i0;have HJ1':Hid (wr.cell? ⟨w.heap.size,1,none⟩=some (.slice a2 m.cons.length c2)):=(HBW.out.cell (p:=⟨w.heap.size,1,none⟩) HL2.out).trans HJ1.out;have HLR:Hid (w.heap.size<wr.heap.size):=lr;obtain⟨W,hW⟩:∃W:World,W=wr:=⟨_,rfl⟩;rw[←hW] at HJ0' HJ1' HLR HBN ⊢;clear hall hke i0 HR3 HJ0 HJ1 lr HBW hW;go_wp2_with fail
      go_loopw [46] (fun i wx=>∃k:Nat,k≤l.length∧i=.int .i64 k∧Hid ((l.take k).all (zBo m.cons.length)=true)∧Below W.heap.size W wx) (fun i _=>l.length - (intOf i).toNat)
      case atStart=>exact⟨0,by omega,rfl,rfl,Below.refl _ _⟩
      case round =>
       obtain⟨k,hk,rfl,hall,hbw⟩:=hrel;have HBW:Hid (Below W.heap.size W wr):=hbw;have HBM:Hid (Below w.heap.size w wr):=HBN.out.trans (hbw.mono HBN.out.size);have i1:=(hbw.cell (p:=⟨w.heap.size,1,none⟩) HLR.out).trans HJ1'.out;have lr:w.heap.size<wr.heap.size:=Nat.lt_of_lt_of_le HLR.out hbw.size;clear hbw;by_cases hlt:k<l.length
       ·obtain⟨t,ht⟩:∃t,l[k]? = some t:=⟨l[k],by simp[hlt]⟩
        obtain⟨b,off,x,hax,hb,q0,q1,q2,hxa⟩:=HST.out k t ht;subst hax;have hc0:=(HBM.out.cell (p:=⟨b,off+k * 3,none⟩) hb).trans q0;have hc1:=(HBM.out.cell (p:=⟨b,off+k * 3+1,none⟩) hb).trans q1;have hc2:=(HBM.out.cell (p:=⟨b,off+k * 3+2,none⟩) hb).trans q2;obtain⟨ax,cx,rfl,_,_⟩:=hxa;have HT:Hid (l[k]? = some t):=ht;have HB3:Hid (∀o,Below W.heap.size W (wr.alloc o)):=fun o=>HBW.out.alloc HBW.out.size _
        have HN1:Hid (zBo m.cons.length t=true→(l.take (k+1)).all (zBo m.cons.length)=true):=fun hq=>by rw[List.take_add_one,HT.out,List.all_append,hall.out];simp[hq]
        have HN2:Hid (zBo m.cons.length t=false→R=5):=fun hq=>by
         have h5:l.all (zBo m.cons.length)=false:=by
          cases h6:l.all (zBo m.cons.length)
          ·rfl
          ·rw[List.all_eq_true.1 h6 t (List.mem_of_getElem? HT.out)] at hq;cases hq
         rw[HR4.out,h5];rfl
        clear ht q0 q1 q2 hb hall;by_cases hk1:t.kind=1
        ·have g1:(t.kind==1)=true:=by simpa using hk1
         by_cases hn0:t.con<0
         ·have HRF:Hid (R=5):=HN2.out (by unfold zBo;simp[hk1,hn0])
          clear hk1;go_wp2
          go_ret
          exact⟨zAI HRF.out.symm,HBM.out.alloc HBM.out.size _⟩
         ·by_cases hn1:(m.cons.length:Int)≤t.con
          ·have HRF:Hid (R=5):=HN2.out (by unfold zBo;simp[hk1,hn1])
           clear hk1;go_wp2
           go_ret
           exact⟨zAI HRF.out.symm,HBM.out.alloc HBM.out.size _⟩
          ·have HN:Hid ((l.take (k+1)).all (zBo m.cons.length)=true):=HN1.out (by unfold zBo;simp[hk1];omega)
           clear hk1 HN1 HN2;go_wp2
           go_roundw
           case rel=>exact⟨k+1,by omega,by go_num,HN,HB3.out _⟩
           case measure=>simp[intOf];omega
        ·have g1:(t.kind==1)=false:=by simpa using hk1
         have HN:Hid ((l.take (k+1)).all (zBo m.cons.length)=true):=HN1.out (by unfold zBo;simp[hk1])
         clear hk1 HN1 HN2;go_wp2
         go_roundw
         case rel=>exact⟨k+1,by omega,by go_num,HN,HB3.out _⟩
         case measure=>simp[intOf];omega
       ·have hke:k=l.length:=by omega
        have HRF:Hid (R=0):=by
         show _=_;have h1:=hall.out;rw[hke,List.take_of_length_le (Nat.le_refl _)] at h1;rw[HR4.out,h1];rfl
        clear hall hke;go_wp2
        go_ret
        exact⟨zAI HRF.out.symm,HBM.out⟩
   ·have HRF:Hid (R=el):=by show _=_;rw[HR2.out,if_neg hl0]
    have he2:(el != 0)=true:=by simpa using hl0
    clear hl0 HR2;go_wp2
    go_ret
    exact⟨zAI HRF.out.symm,HB2.out⟩
 ·have HRF:Hid (R=er):=by
   show _=_;rw[←HR.out];unfold zCU;rw[HER.out,if_neg he]
  have he2:(er != 0)=true:=by simpa using he
  clear he;go_wp2
  go_ret
  exact⟨zAI HRF.out.symm,HB1.out⟩
def zEN (N bm bp ba:Nat) (m:Mod) (vs cs pv:Value) (ahead:List Nat) (w:World):Prop :=
 (N≤ba∧N≤w.heap.size) ∧
 Old N w (fun u=>MArg u vs cs m∧zFQ u pv (m.cons.map (zAK m.vars))∧u.cell? ⟨bm,0,none⟩=some vs∧u.cell? ⟨bp,0,none⟩=some pv∧TabT u) ∧
 (∀z∈ahead,z<2 ^ 36) ∧
 ∃av,w.ownsRow N 139 1 (.slice (some ⟨ba,0,none⟩) 1 1) 1 [av]∧w.ownsRow N 136 1 av ahead.length (u64s ahead)∧av.ownBlock≠some ba
section
variable {N bm bp ba:Nat} {m:Mod} {vs cs pv:Value} {ahead:List Nat} {w w':World}
theorem zEN.below (h:zEN N bm bp ba m vs cs pv ahead w) (hb:Below w.heap.size w w'):zEN N bm bp ba m vs cs pv ahead w':=by
 obtain⟨⟨h1,h2⟩,h3,h4,av,h5,h6,h7⟩:=h;exact⟨⟨h1,Nat.le_trans h2 hb.size⟩,h3.below (hb.mono h2),h4,av,zAB h5 hb,zAB h6 hb,h7⟩
theorem zEN.old (h:zEN N bm bp ba m vs cs pv ahead w):MArg w vs cs m∧zFQ w pv (m.cons.map (zAK m.vars))∧w.cell? ⟨bm,0,none⟩=some vs∧w.cell? ⟨bp,0,none⟩=some pv∧TabT w∧bm<w.heap.size∧bp<w.heap.size:=by
 obtain⟨_,⟨w0,g0,⟨g1,g2,g3,g4,g5⟩,gb⟩,_⟩:=h;have l1:=World.block_lt_of_cell? w0 _ g3;have l2:=World.block_lt_of_cell? w0 _ g4;have hs:=gb.size;simp only at l1 l2;exact⟨MArg.below gb g1,zFQ.below gb g2,(gb.cell (p:=⟨bm,0,none⟩) l1).trans g3,(gb.cell (p:=⟨bp,0,none⟩) l2).trans g4,g5.below gb,by omega,by omega⟩
theorem zEN.put {z:Nat} {v3 av:Value} {w2:World} (h:zEN N bm bp ba m vs cs pv ahead w) (hz:z<2 ^ 36) (ho:w.ownsRow N 139 1 (.slice (some ⟨ba,0,none⟩) 1 1) 1 [av]) (hr:w.ownsRow N 136 1 av ahead.length (u64s ahead)) (hne:av.ownBlock≠some ba)
 (hw:w2.ownsRow N 136 1 v3 (ahead++[z]).length (u64s (ahead++[z]))) (hg:w.grownBy w2 av.ownBlock) :
 zEN N bm bp ba m vs cs pv (ahead++[z]) (w2.setCell ⟨ba,0,none⟩ v3)∧Below N w (w2.setCell ⟨ba,0,none⟩ v3):=by
 obtain⟨⟨h1,h2⟩,h3,h4,_⟩:=h;have hb1:Below N w w2:=(Below.refl _ _).grown hg h2 (fun k hk=>(hr.lt k hk).1)
 have hb:Below N w (w2.setCell ⟨ba,0,none⟩ v3):=hb1.setCell h1 _;have hba:ba<w.heap.size:=(ho.lt ba rfl).2;have h6:w2.ownsRow N 139 1 (.slice (some ⟨ba,0,none⟩) 1 1) 1 [av]:=ho.kept hg (Or.inr fun he=>hne he.symm)
 have hvb:v3.ownBlock≠some ba:=by
  intro he;rcases hw.2 with ⟨hq,_⟩ | ⟨g,cap,cur,hq,_,hh,_⟩
  ·rw[hq] at he;cases he
  ·rw[hq] at he
   cases he
   rcases h6.2 with ⟨hq2,_⟩ | ⟨g2,cap2,cur2,hq2,_,hh2,_⟩
   ·cases hq2
   ·cases hq2
    rw[hh] at hh2
    injection hh2 with h9
    injection h9 with _ h8
    exact absurd h8 (by decide)
 refine⟨⟨⟨h1,Nat.le_trans h2 hb.size⟩,h3.below hb,fun y hy=>?_,v3,(h6.stored 0 v3).1,zDc hw fun g hgg=>?_,hvb⟩,hb⟩
 ·rcases List.mem_append.1 hy with h | h
  ·exact h4 y h
  ·rw[List.mem_singleton.1 h];exact hz
 ·exact Below.heap_setCell _ _ _ _ (fun h=>hvb (by rw[hgg];exact congrArg some h))
end
theorem zP8 (N bm bp ba:Nat) (m:Mod) (vs cs pv u:Value) (ahead:List Nat) (s:MStep) (w:World) (hm:zAG m=0) (hT:zEN N bm bp ba m vs cs pv ahead w) (hu:LArg w u s.cla) (hk:s.kind=1→0≤s.con∧s.con<(m.cons.length:Int)) (hbud:ahead.length≤100000) :
 Calls Tryz.prog 139 #[.agg #[.int .i64 s.kind,.int .i64 s.con,u],.pointer (some ⟨bm,0,none⟩),.pointer (some ⟨bp,0,none⟩),.pointer (some ⟨ba,0,none⟩)] w fun e w'=>e=.returned (.bool (zDK m ahead s)) ∧
  zEN N bm bp ba m vs cs pv (ahead++[zAH m.vars s.cla]) w'∧Below N w w':=by
 have HM:Hid (zAG m=0):=hm;have HK:Hid (s.kind=1→0≤s.con∧s.con<(m.cons.length:Int)):=hk;have HN:Hid (N≤w.heap.size):=hT.1.2;obtain⟨hma,hpp,d0,d1,htab,lm,lp⟩:=hT.old;have HMA:Hid (∀w',Below w.heap.size w w'→MArg w' vs cs m):=fun w' h=>MArg.below h hma
 have HPP:Hid (∀w',Below w.heap.size w w'→zFQ w' pv (m.cons.map (zAK m.vars))):=fun w' h=>zFQ.below h hpp
 have HTB:Hid (∀w',Below w.heap.size w w'→TabT w'):=fun w' h=>htab.below h
 have HU:Hid (∀w',Below w.heap.size w w'→LArg w' u s.cla):=fun w' h=>LArg.below h hu
 have HT:Hid (∀w',Below w.heap.size w w'→zEN N bm bp ba m vs cs pv ahead w'):=fun w' h=>hT.below h
 obtain⟨⟨a1,c1,rfl,_,_⟩,⟨a2,c2,rfl,_,_⟩⟩:=hma;obtain⟨a3,c3,rfl,_,_⟩:=hu;obtain⟨a4,c4,hpv,hm4,_⟩:=hpp;rw[List.length_map] at hpv hm4;unfold maxLen at hm4;obtain⟨hm41,hm4⟩:=hm4;subst hpv;obtain⟨i0,hi,hz0,hz1,hz2⟩:=info_parts Tryz.infoPart;obtain⟨h,hh⟩:∃h,zAH m.vars s.cla=h:=⟨_,rfl⟩;have HH:Hid (zAH m.vars s.cla=h):=hh;have HH36:Hid (h<2 ^ 36):=by rw[←hh];exact zJs m hm s.cla
 obtain⟨R,hR⟩:∃R,zDK m ahead s=R:=⟨_,rfl⟩;have HR:Hid (R=if s.kind=1 then zBv m.vars (zAK m.vars (m.cons.getD s.con.toNat zGD)) h else if s.kind=2∧s.con=0 then zCE m.vars ahead h else false):=by show _=_;rw[←hR,←hh];rfl
 rw[hR,hh];clear hT hm hk htab hh hR;go_enter Tryz.func139,Tryz.ntmps139
 go_wp2_with fail
 refine (zCm m.vars (zBg m HM.out) s.cla _ _ _ (HMA.out _ (zAA _ _)).1 (HU.out _ (zAA _ _))).mono ?_;rintro e w1 ⟨rfl,hb1⟩;rw[HH.out];have HB1:Hid (Below w.heap.size w w1):=(zAA _ _).trans (hb1.mono (by simp))
 have l1:w.heap.size<w1.heap.size:=by have:=hb1.size;simp at this;omega
 have k0:w1.cell? ⟨w.heap.size,0,none⟩=some (.int .i64 s.kind):=(hb1.cell (by simp)).trans (World.cell?_alloc_at _ _ _ 0 (by simp))
 have k1:w1.cell? ⟨w.heap.size,1,none⟩=some (.int .i64 s.con):=(hb1.cell (by simp)).trans (World.cell?_alloc_at _ _ _ 1 (by simp))
 have d0':=(HB1.out.cell (p:=⟨bm,0,none⟩) lm).trans d0;have d1':=(HB1.out.cell (p:=⟨bp,0,none⟩) lp).trans d1;have lm1:bm<w1.heap.size:=by omega
 have lp1:bp<w1.heap.size:=by omega
 clear hb1 d0 d1 lm lp;go_upto_block 0 with (fail)
 go_cut [7] (fun v wx=>v=.bool R∧Hid (Below w1.heap.size w1 wx))
 case first =>
  have HS2:Hid (w1.heap.size=w1.heap.size):=rfl;by_cases hk1:s.kind=1
  ·obtain⟨hn0,hn1⟩:=HK.out hk1
   obtain⟨j,hj⟩:∃j:Nat,s.con=(j:Int):=⟨s.con.toNat,by omega⟩
   have hjl:j<m.cons.length:=by omega
   obtain⟨k,hkk⟩:∃k,m.cons[j]? = some k:=⟨m.cons[j],by simp[hjl]⟩
   have HRF:Hid (R=zBv m.vars (zAK m.vars k) h):=by
    show _=_;rw[HR.out,if_pos hk1,hj,Int.toNat_natCast,List.getD_eq_getElem?_getD,hkk];rfl
   rw[hj] at k1;have g1:(s.kind==1)=true:=by simpa using hk1
   obtain⟨a',c',hv',_,hrr⟩:=HPP.out w1 HB1.out;obtain⟨b4,o4,x,hax,hb4,hc4,hpx⟩:=hrr j (zAK m.vars k) (by rw[List.getElem?_map,hkk];rfl)
   have ha4:a4=some ⟨b4,o4,none⟩:=by injection hv' with e1;exact e1.trans hax
   clear hv' hrr hax;subst ha4;have HPX:Hid (∀Y,Below w1.heap.size w1 Y→PArg Y x (zAK m.vars k)):=fun Y hY=>PArg.below hY hpx
   obtain⟨ax,cx,rfl,_,_⟩:=hpx;have HSA:Hid (∀Y,Below w1.heap.size w1 Y→Calls Tryz.prog 119 #[.slice a1 m.vars.length c1,.slice ax (zAK m.vars k).length cx,.int .u64 (h:Int)] Y fun e w'=>e=.returned (.bool (zBv m.vars (zAK m.vars k) h))∧Below Y.heap.size Y w'):=fun Y hY =>
    zJm m.vars (zBg m HM.out) _ _ HH36.out _ _ Y (HMA.out _ (HB1.out.trans (hY.mono HB1.out.size))).1 (HPX.out _ hY)
   clear hk1 hkk hj hn0 hn1 HR;go_wp2_with fail
   go_region_held3 (fun w'=>Below w1.heap.size w1 w'∧w'.cell? ⟨bm,0,none⟩=some (.slice a1 m.vars.length c1)∧w'.cell? ⟨bp,0,none⟩=some (.slice (some ⟨b4,o4,none⟩) m.cons.length c4)∧w'.cell? ⟨w.heap.size,1,none⟩=some (.int .i64 (j:Int))∧w'.cell? ⟨b4,o4+j,none⟩=some (.slice ax (zAK m.vars k).length cx))
    ((refine (fun (hB:Below w1.heap.size w1 _)=>⟨hB,(hB.cell (p:=⟨bm,0,none⟩) lm1).trans d0',(hB.cell (p:=⟨bp,0,none⟩) lp1).trans d1',(hB.cell (p:=⟨w.heap.size,1,none⟩) l1).trans k1,(hB.cell (p:=⟨b4,o4+j,none⟩) hb4).trans hc4⟩:Below w1.heap.size w1 _→_) ?_;first | exact (Below.refl _ _).drew | exact zA7 (by assumption) hbq))
    (first
      | (go_at_call 119;refine (HSA.out _ (show Below w1.heap.size w1 _∧_ by assumption).1).mono ?_;rintro e w5 ⟨rfl,hbq⟩;have hB5:=zA7 (by assumption) hbq))
   have HB5:Hid (Below w1.heap.size w1 w5):=hB5;go_wp2_with fail
   go_meet
   exact⟨by rw[HRF.out],HB5⟩
  ·have g1:(s.kind==1)=false:=by simpa using hk1
   by_cases hk2:s.kind=2∧s.con=0
   ·have HRF:Hid (R=zCE m.vars ahead h):=by show _=_;rw[HR.out,if_neg hk1,if_pos hk2]
    have g2:(s.kind==2)=true:=by simpa using hk2.1
    have g3:(s.con==0)=true:=by simpa using hk2.2
    obtain⟨⟨hNb,hNs⟩,_,h36,av,ho,hr,hne⟩:=HT.out w1 HB1.out;have HPA:Hid (PArg w1 av ahead):=zCu hr h36;obtain⟨aa,ca,rfl⟩:=zAC hr;have hca:w1.cell? ⟨ba,0,none⟩=some (.slice aa ahead.length ca):=ho.cellAt 0 (by omega)
    have lba:ba<w1.heap.size:=(ho.lt ba rfl).2;clear hk1 hk2 HR ho hr hne h36;go_wp2_with fail
    refine (zHw m.vars (zBg m HM.out) (zAe m HM.out).1 ahead h HH36.out _ _ _ (HMA.out _ HB1.out).1 HPA.out (HTB.out _ HB1.out)).mono ?_;rintro e w5 ⟨rfl,hb5⟩;have HB5:Hid (Below w1.heap.size w1 w5):=hb5;clear hb5;go_wp2_with fail
    go_meet
    exact⟨by rw[HRF.out],HB5⟩
   ·have HRF:Hid (R=false):=by show _=_;rw[HR.out,if_neg hk1,if_neg hk2]
    by_cases hk3:s.kind=2
    ·have g2:(s.kind==2)=true:=by simpa using hk3
     have g3:(s.con==0)=false:=by
      have:s.con≠0:=fun h0=>hk2 ⟨hk3,h0⟩
      simpa using this
     clear hk1 hk2 hk3 HR;go_wp2_with fail
     go_meet
     exact⟨by rw[HRF.out],Below.refl _ _⟩
    ·have g2:(s.kind==2)=false:=by simpa using hk3
     clear hk1 hk2 hk3 HR;go_wp2_with fail
     go_meet
     exact⟨by rw[HRF.out],Below.refl _ _⟩
 case rest =>
  obtain⟨hv,hbc⟩:=hcut;subst hv;have HBC:Hid (Below w.heap.size w wc):=HB1.out.trans (hbc.out.mono HB1.out.size);have HTC:Hid (zEN N bm bp ba m (.slice a1 m.vars.length c1) (.slice a2 m.cons.length c2) (.slice a4 m.cons.length c4) ahead wc):=HT.out wc HBC.out;obtain⟨⟨hNb,hNs⟩,_,_,av,ho,hr,hne⟩:=HTC.out;obtain⟨aa,ca,rfl⟩:=zAC hr;have hca:wc.cell? ⟨ba,0,none⟩=some (.slice aa ahead.length ca):=ho.cellAt 0 (by omega)
  have lba:ba<wc.heap.size:=(ho.lt ba rfl).2;clear d0' d1' k0 k1 l1 lm1 lp1;go_wp2_with (at_builtin;refine wpList_append_own _ rfl _ _ 139 rfl N 136 i0 (.int .u64 0) 1 8 Tryz.underlying139 hi hz0 hz1 hz2 rfl (by decide) _ _ _ rfl (hr.alloc _) ⟨wc.heap.size,0,none⟩ 1 1 [.int .u64 (h:Int)] rfl rfl ?c1 ?c2 ?c3 ?c4 ?c5 ?_)
  case c1=>exact zKi wc h
  case c2=>intro u hu;rcases List.mem_singleton.1 hu with rfl;rfl
  case c3=>unfold maxLen;omega
  case c4=>omega
  case c5=>simp;omega
  intro v3 w3 hown3 hgrow _;have hown4:w3.ownsRow N 136 1 v3 (ahead++[h]).length (u64s (ahead++[h])):=by
   unfold u64s;rw[List.length_append,List.map_append];exact hown3
  have HPUT:=(HTC.out.below (zAA _ _)).put HH36.out (ho.alloc _) (hr.alloc _) hne hown4 hgrow;have HP:Hid (zEN N bm bp ba m (.slice a1 m.vars.length c1) (.slice a2 m.cons.length c2) (.slice a4 m.cons.length c4) (ahead++[h]) (w3.setCell ⟨ba,0,none⟩ v3)):=HPUT.1;have HB4:Hid (Below N w (w3.setCell ⟨ba,0,none⟩ v3)):=(HBC.out.mono HN.out).trans (((Below.refl _ _).alloc hNs _).trans HPUT.2);have ht3:w3.ownsRow N 139 1 (.slice (some ⟨ba,0,none⟩) 1 1) 1 [.slice aa ahead.length ca]:=(ho.alloc _).kept hgrow (Or.inr (fun h=>hne h.symm))
  have hcB:w3.cell? ⟨ba,0,none⟩=some (.slice aa ahead.length ca):=ht3.cellAt 0 (by omega)
  have hfB:w3.frozen? ⟨ba,0,none⟩=false:=ht3.frozenAt 0;obtain⟨av',cv',rfl⟩:=zAC hown4;rw[show (ahead++[h]).length=ahead.length+1 by simp] at HP HB4
  clear hown3 hgrow hown4 hr ho hca ht3 HPUT hne;go_wp2
  go_ret
  exact⟨rfl,HP.out,HB4.out⟩
theorem Tryz.infoParts:(Tryz.prog.info? 139).map (fun i=>(i.zero,i.size,i.bytes))=some (some (.slice none 0 0),1,24):=by kernel_rfl
theorem Tryz.underPartss:Tryz.prog.underlying 138=some (.slice 139):=by kernel_rfl
theorem zRg (w:World) (n base:Nat) (hn:n≤1000) (hb:base≤w.heap.size):(w.alloc (.cells (madeCells #[.slice none 0 0] n) 139)).ownsRow base 139 1 (.slice (some ⟨w.heap.size,0,none⟩) n n) n (List.replicate n (.slice none 0 0)):=by
 refine⟨by simp,Or.inr ⟨w.heap.size,n,_,rfl,hb,heap_alloc_new w _,Nat.le_refl _,by unfold maxLen;omega,?_,?_⟩⟩
 ·have h:=congrArg List.length (toList_madeCells_one (.slice none 0 0) n)
  simp at h;simpa using h
 ·rw[toList_madeCells_one]
  simp
def zEm (B n:Nat) (cells:List Value) (l:List (List Nat)) (k:Nat) (w:World):Prop :=
 w.ownsRow B 139 1 (.slice (some ⟨B,0,none⟩) n n) n cells∧∀j r,j<k→l[j]? = some r→∃x,cells[j]? = some x∧w.ownsRow (B+1) 136 1 x r.length (u64s r)
theorem zEm.below {B n k:Nat} {cells:List Value} {l:List (List Nat)} {w w':World} (h:zEm B n cells l k w) (hb:Below w.heap.size w w'):zEm B n cells l k w':=by
 refine⟨zAB h.1 hb,fun j r hj hr=>?_⟩
 obtain⟨x,h1,h2⟩:=h.2 j r hj hr;exact⟨x,h1,zAB h2 hb⟩
theorem zEm.put {B n k:Nat} {cells:List Value} {l:List (List Nat)} {w:World} {x:Value} {r:List Nat} (h:zEm B n cells l k w) (hk:k<n) (hr:l[k]? = some r) (hx:w.ownsRow (B+1) 136 1 x r.length (u64s r)):zEm B n (cells.set k x) l (k+1) (w.setCell ⟨B,k,none⟩ x):=by
 have hlen:cells.length=n:=by have:=h.1.1;omega
 have keep:∀{y:Value} {q:List Nat},w.ownsRow (B+1) 136 1 y q.length (u64s q)→(w.setCell ⟨B,k,none⟩ x).ownsRow (B+1) 136 1 y q.length (u64s q):=fun hy =>
  zDc hy fun g hg=>Below.heap_setCell _ _ _ _ (fun he=>by have:=(hy.lt g hg).1;simp only at he;omega)
 refine⟨(h.1.stored k x).1,fun j q hj hq=>?_⟩
 by_cases hjk:j=k
 ·subst hjk
  rw[hr] at hq;cases hq
  exact⟨x,by rw[List.getElem?_set_self (by omega)],keep hx⟩
 ·obtain⟨y,h1,h2⟩:=h.2 j q (by omega) hq
  exact⟨y,by rw[List.getElem?_set_ne (fun h=>hjk h.symm)];exact h1,keep h2⟩
theorem zEm.arg {B n:Nat} {cells:List Value} {l:List (List Nat)} {w:World} (h:zEm B n cells l n w) (hl:l.length=n) (hlt:∀r∈l,∀z∈r,z<2 ^ 36) (hn:n≤1000):zFQ w (.slice (some ⟨B,0,none⟩) n n) l:=by
 refine⟨_,n,by rw[hl],⟨by omega,by unfold maxLen;omega⟩,fun i r hr=>?_⟩
 have hi:i<n:=by rw[←hl];exact (List.getElem?_eq_some_iff.1 hr).1
 obtain⟨x,h1,h2⟩:=h.2 i r hi hr;exact⟨B,0,x,rfl,(h.1.lt B rfl).2,by rw[Nat.zero_add,h.1.cellAt i (by omega)];exact h1,zCu h2 (hlt r (List.mem_of_getElem? hr))⟩
theorem zRh (m:Mod) (hm:zAG m=0) (given:List Cla) (hg6:given.length≤600) (vs cs u:Value) (w:World) (hma:MArg w vs cs m) (hu:zDV w u given) (hT:TabT w) :
 Calls Tryz.prog 77 #[modV vs cs m,u] w fun e w'=>∃N bm bp ba pv,e=.returned (.func (.func 139) #[] #[.pointer (some ⟨bm,0,none⟩),.pointer (some ⟨bp,0,none⟩),.pointer (some ⟨ba,0,none⟩)]) ∧
  zEN N bm bp ba m vs cs pv (given.map (zAH m.vars)) w'∧w.heap.size≤N∧Below w.heap.size w w':=by
 have HMA:Hid (∀w',Below w.heap.size w w'→MArg w' vs cs m):=fun w' h=>MArg.below h hma
 have HU:Hid (∀w',Below w.heap.size w w'→zDV w' u given):=fun w' h=>zDV.below h hu
 have HT:Hid (∀w',Below w.heap.size w w'→TabT w'):=fun w' h=>hT.below h
 have HM:Hid (zAG m=0):=hm;have hc8:m.cons.length≤8:=(zAe m hm).2.2.1;have hmk:=run_make_row' (P:=Tryz.prog) 138 139 (.slice none 0 0) 24 Tryz.underPartss Tryz.infoParts rfl .i64 .i64 m.cons.length (by omega) (by omega)
 obtain⟨⟨a1,c1,rfl,_,_⟩,⟨a2,c2,rfl,hm2,_⟩⟩:=hma;unfold maxLen at hm2;obtain⟨hm21,hm2⟩:=hm2;obtain⟨a3,c3,rfl,_,_⟩:=hu;unfold modV;clear hm hT;go_enter Tryz.func77,Tryz.ntmps77
 go_wp2_with fail
 clear hmk;have HB0:Hid (Below w.heap.size w (((w.alloc (.cells #[.slice a1 m.vars.length c1,.slice a2 m.cons.length c2,.int .i64 m.goal,.int .i64 m.var] 25)).alloc (.cells (madeCells #[.slice none 0 0] m.cons.length) 139)).alloc (.cells #[.slice (some ⟨w.heap.size+1,0,none⟩) m.cons.length m.cons.length] 138))):=((zAA _ _).alloc (by simp) _).alloc (by simp;omega) _
 have HQ:Hid ((((w.alloc (.cells #[.slice a1 m.vars.length c1,.slice a2 m.cons.length c2,.int .i64 m.goal,.int .i64 m.var] 25)).alloc (.cells (madeCells #[.slice none 0 0] m.cons.length) 139)).alloc (.cells #[.slice (some ⟨w.heap.size+1,0,none⟩) m.cons.length m.cons.length] 138)).cell? ⟨w.heap.size,0,none⟩=some (.slice a1 m.vars.length c1)∧(((w.alloc (.cells #[.slice a1 m.vars.length c1,.slice a2 m.cons.length c2,.int .i64 m.goal,.int .i64 m.var] 25)).alloc (.cells (madeCells #[.slice none 0 0] m.cons.length) 139)).alloc (.cells #[.slice (some ⟨w.heap.size+1,0,none⟩) m.cons.length m.cons.length] 138)).cell? ⟨w.heap.size,1,none⟩=some (.slice a2 m.cons.length c2)∧(((w.alloc (.cells #[.slice a1 m.vars.length c1,.slice a2 m.cons.length c2,.int .i64 m.goal,.int .i64 m.var] 25)).alloc (.cells (madeCells #[.slice none 0 0] m.cons.length) 139)).alloc (.cells #[.slice (some ⟨w.heap.size+1,0,none⟩) m.cons.length m.cons.length] 138)).cell? ⟨w.heap.size,2,none⟩=some (.int .i64 m.goal)∧(((w.alloc (.cells #[.slice a1 m.vars.length c1,.slice a2 m.cons.length c2,.int .i64 m.goal,.int .i64 m.var] 25)).alloc (.cells (madeCells #[.slice none 0 0] m.cons.length) 139)).alloc (.cells #[.slice (some ⟨w.heap.size+1,0,none⟩) m.cons.length m.cons.length] 138)).cell? ⟨w.heap.size,3,none⟩=some (.int .i64 m.var)):=by
  refine⟨?_,?_,?_,?_⟩
  all_goals rw[World.cell?_alloc_past _ _ _ (by simp;omega),World.cell?_alloc_past _ _ _ (by simp)]
  ·exact World.cell?_alloc_at _ _ _ 0 (by simp)
  ·exact World.cell?_alloc_at _ _ _ 1 (by simp)
  ·exact World.cell?_alloc_at _ _ _ 2 (by simp)
  ·exact World.cell?_alloc_at _ _ _ 3 (by simp)
 have HQP:Hid ((((w.alloc (.cells #[.slice a1 m.vars.length c1,.slice a2 m.cons.length c2,.int .i64 m.goal,.int .i64 m.var] 25)).alloc (.cells (madeCells #[.slice none 0 0] m.cons.length) 139)).alloc (.cells #[.slice (some ⟨w.heap.size+1,0,none⟩) m.cons.length m.cons.length] 138)).cell? ⟨w.heap.size+1+1,0,none⟩=some (.slice (some ⟨w.heap.size+1,0,none⟩) m.cons.length m.cons.length)):=World.cell?_alloc_at _ _ _ 0 (by simp)
 have HO0:Hid (zEm (w.heap.size+1) m.cons.length (List.replicate m.cons.length (.slice none 0 0)) (m.cons.map (zAK m.vars)) 0 (((w.alloc (.cells #[.slice a1 m.vars.length c1,.slice a2 m.cons.length c2,.int .i64 m.goal,.int .i64 m.var] 25)).alloc (.cells (madeCells #[.slice none 0 0] m.cons.length) 139)).alloc (.cells #[.slice (some ⟨w.heap.size+1,0,none⟩) m.cons.length m.cons.length] 138))):=by
  refine⟨?_,fun j r hj=>by omega⟩
  have h:=(zRg (w.alloc (.cells #[.slice a1 m.vars.length c1,.slice a2 m.cons.length c2,.int .i64 m.goal,.int .i64 m.var] 25)) m.cons.length (w.heap.size+1) (by omega) (by simp)).alloc (.cells #[.slice (some ⟨w.heap.size+1,0,none⟩) m.cons.length m.cons.length] 138)
  simpa using h
 have HS0:Hid ((((w.alloc (.cells #[.slice a1 m.vars.length c1,.slice a2 m.cons.length c2,.int .i64 m.goal,.int .i64 m.var] 25)).alloc (.cells (madeCells #[.slice none 0 0] m.cons.length) 139)).alloc (.cells #[.slice (some ⟨w.heap.size+1,0,none⟩) m.cons.length m.cons.length] 138)).heap.size=w.heap.size+3):=by show _=_;simp
 obtain⟨W,hW⟩:∃W,(((w.alloc (.cells #[.slice a1 m.vars.length c1,.slice a2 m.cons.length c2,.int .i64 m.goal,.int .i64 m.var] 25)).alloc (.cells (madeCells #[.slice none 0 0] m.cons.length) 139)).alloc (.cells #[.slice (some ⟨w.heap.size+1,0,none⟩) m.cons.length m.cons.length] 138))=W:=⟨_,rfl⟩;rw[hW] at HB0 HQ HQP HO0 HS0 ⊢;clear hW;obtain⟨L,hL⟩:∃L,m.cons.map (zAK m.vars)=L:=⟨_,rfl⟩;have HL:Hid (m.cons.map (zAK m.vars)=L):=hL;rw[hL] at HO0;clear hL;go_loopw [15] (fun i wr=>∃(k:Nat) (cells:List Value),k≤m.cons.length∧i=.int .i64 k∧Hid (zEm (w.heap.size+1) m.cons.length cells L k wr)∧Hid (Below (w.heap.size+1) W wr)∧Hid (wr.cell? ⟨w.heap.size+1+1,0,none⟩=some (.slice (some ⟨w.heap.size+1,0,none⟩) m.cons.length m.cons.length))) (fun i _=>m.cons.length - (intOf i).toNat)
 case atStart=>exact⟨0,_,by omega,rfl,HO0,Below.refl _ _,HQP⟩
 case round =>
  obtain⟨k,cells,hk,rfl,HROW,HBW,HCP⟩:=hrel;have HBN:Hid (Below w.heap.size w wr):=HB0.out.trans (HBW.out.mono (by omega))
  have HSZ:Hid (w.heap.size+3≤wr.heap.size):=by have:=HBW.out.size;have:=HS0.out;show _≤_;omega
  obtain⟨q0,q1,q2,q3⟩:=HQ.out;have k0:=(HBW.out.cell (p:=⟨w.heap.size,0,none⟩) (by simp only;omega)).trans q0
  have k1:=(HBW.out.cell (p:=⟨w.heap.size,1,none⟩) (by simp only;omega)).trans q1
  have k2:=(HBW.out.cell (p:=⟨w.heap.size,2,none⟩) (by simp only;omega)).trans q2
  have k3:=(HBW.out.cell (p:=⟨w.heap.size,3,none⟩) (by simp only;omega)).trans q3
  have kp:=HCP.out;clear q0 q1 q2 q3;by_cases hlt:k<m.cons.length
  ·obtain⟨c,hc⟩:∃c,m.cons[k]? = some c:=⟨m.cons[k],by simp[hlt]⟩
   have HLK:Hid (L[k]? = some (zAK m.vars c)):=by show _=_;rw[←HL.out,List.getElem?_map,hc];rfl
   have HPT:Hid (∀Y,Below wr.heap.size wr Y→Calls Tryz.prog 120 #[.agg #[.slice a1 m.vars.length c1,.slice a2 m.cons.length c2,.int .i64 m.goal,.int .i64 m.var],.int .i64 (k:Int)] Y fun e w'=>∃x,e=.returned x∧w'.ownsRow Y.heap.size 136 1 x (zAK m.vars c).length (u64s (zAK m.vars c))∧Below Y.heap.size Y w'):=fun Y hY =>
    zGK m k c _ _ Y HM.out hc (HMA.out _ (HBN.out.trans (hY.mono HBN.out.size)))
   have HLEN:Hid (cells.length=m.cons.length):=by have:=HROW.out.1.1;show _=_;omega
   obtain⟨y,hy⟩:∃y,cells[k]? = some y:=⟨cells[k]'(by rw[HLEN.out];exact hlt),by simp⟩
   have HY:Hid (cells[k]? = some y):=hy;have lr:w.heap.size<wr.heap.size:=by have:=HSZ.out;omega
   clear hc hy;go_wp2_with fail
   go_region_law
    (rw[if_pos (by rfl)];go_simp;go_at_call 120;refine (HPT.out _ (Below.refl _ _).drew).mono ?_;rintro e w3 ⟨x,rfl,hx,hb3⟩;obtain⟨ax,cx,rfl⟩:=zAC hx;have hB3:Below wr.heap.size wr w3:=(Below.refl _ _).drew.trans hb3;have s0:=(hB3.cell (p:=⟨w.heap.size+1+1,0,none⟩) (by have:=HSZ.out;simp only;omega)).trans kp;have HR3:=HROW.out.below hB3;have cB:w3.cell? ⟨w.heap.size+1,k,none⟩=some y:=(HR3.1.cellAt k (by omega)).trans HY.out;have zB:=HR3.1.frozenAt k;have lB:w.heap.size+1<w3.heap.size:=(HR3.1.lt (w.heap.size+1) rfl).2;dsimp only)
   all_goals
    have HPUT:Hid (zEm (w.heap.size+1) m.cons.length (cells.set k (.slice ax (zAK m.vars c).length cx)) L (k+1) (w3.setCell ⟨w.heap.size+1,k,none⟩ (.slice ax (zAK m.vars c).length cx))):=HR3.put hlt HLK.out (World.ownsRow.mono hx (by show w.heap.size+1+1≤wr.heap.size;have:=HSZ.out;omega))
    have HBS:Hid (Below (w.heap.size+1) W (w3.setCell ⟨w.heap.size+1,k,none⟩ (.slice ax (zAK m.vars c).length cx))):=(HBW.out.trans (hB3.mono (by have:=HSZ.out;omega))).setCell (show w.heap.size+1≤w.heap.size+1 from Nat.le_refl _) _
    have HCS:Hid ((w3.setCell ⟨w.heap.size+1,k,none⟩ (.slice ax (zAK m.vars c).length cx)).cell? ⟨w.heap.size+1+1,0,none⟩=some (.slice (some ⟨w.heap.size+1,0,none⟩) m.cons.length m.cons.length)):=(World.cell?_of_block (Below.heap_setCell _ _ _ _ (fun h=>by simp only at h;omega))).trans s0
    clear hx hb3 hB3 s0 HR3 k0 k1 k2 k3 kp;go_wp2
    go_roundw
    case rel=>exact⟨k+1,_,by omega,by go_num,HPUT,HBS,HCS⟩
    case measure=>simp[intOf];omega
  ·have hke:k=m.cons.length:=by omega
   subst hke;have HPP:Hid (zFQ wr (.slice (some ⟨w.heap.size+1,0,none⟩) m.cons.length m.cons.length) L):=HROW.out.arg (by rw[←HL.out,List.length_map]) (by
    rw[←HL.out];intro r hr;obtain⟨c,hcm,rfl⟩:=List.mem_map.1 hr;obtain⟨j,hj⟩:=List.mem_iff_getElem?.1 hcm;exact zGL m HM.out j c hj) (by omega)
   have lr:w.heap.size<wr.heap.size:=by have:=HSZ.out;omega
   obtain⟨W2,hW2⟩:∃W2:World,W2=wr:=⟨_,rfl⟩;rw[←hW2] at HPP HBN HSZ k0 k1 k2 k3 kp lr ⊢;have HK0:Hid (W2.cell? ⟨w.heap.size,0,none⟩=some (.slice a1 m.vars.length c1)):=k0;have HKP:Hid (W2.cell? ⟨w.heap.size+1+1,0,none⟩=some (.slice (some ⟨w.heap.size+1,0,none⟩) m.cons.length m.cons.length)):=kp;clear hW2 HROW HBW HCP;go_wp2_with fail
   refine (zK0 m HM.out given hg6 _ _ _ _ (HMA.out _ HBN.out) (HU.out _ HBN.out)).mono ?_;rintro e w5 ⟨x,rfl,hx,hb5⟩;obtain⟨ax,cx,rfl⟩:=zAC hx;have HWS:Hid (zEN W2.heap.size w.heap.size (w.heap.size+1+1) w5.heap.size m (.slice a1 m.vars.length c1) (.slice a2 m.cons.length c2) (.slice (some ⟨w.heap.size+1,0,none⟩) m.cons.length m.cons.length) (given.map (zAH m.vars)) (w5.alloc (.cells #[.slice ax given.length cx] 139))):=by
    have hbx:Below W2.heap.size W2 (w5.alloc (.cells #[.slice ax given.length cx] 139)):=hb5.alloc hb5.size _;refine⟨⟨hb5.size,hbx.size⟩,⟨W2,Nat.le_refl _,⟨HMA.out _ HBN.out,by rw[HL.out];exact HPP.out,HK0.out,HKP.out,HT.out _ HBN.out⟩,hbx⟩,zNI m HM.out given,.slice ax given.length cx,?_,?_,?_⟩
    ·exact World.ownsRow_lit w5 #[.slice ax given.length cx] 1 hb5.size (by unfold maxLen;omega) rfl
    ·rw[List.length_map]
     exact World.ownsRow.mono (hx.alloc _) (by omega)
    ·intro he
     have:=(hx.lt _ he).2;omega
   have HBF:Hid (Below w.heap.size w (w5.alloc (.cells #[.slice ax given.length cx] 139))):=HBN.out.trans ((hb5.alloc hb5.size _).mono HBN.out.size);have HNS:Hid (w.heap.size≤W2.heap.size):=HBN.out.size;clear hx hb5 k0 k1 k2 k3 kp;go_wp2
   go_ret
   exact⟨_,_,_,_,_,rfl,HWS.out,HNS.out,HBF.out⟩
end Go.Proofs.YtndcpnlaadikoaaGreatDoor
