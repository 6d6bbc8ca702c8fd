/- What the proof leans on, part 15. -/
import Derived.Test.YtdjbejlbmaiocagGreatDoorPartAn
import Derived.Test.YtdjbejlbmaiocagGreatDoorPartAk
import Derived.Test.YtdjbejlbmaiocagGreatDoorPartAl
import Derived.Deep.CutBlock
import Derived.Deep.DeepCutAuto
set_option maxRecDepth 100000
set_option maxHeartbeats 3200000
namespace Go.Proofs.YtdjbejlbmaiocagGreatDoor
open Go.RowKit
def zHc (w:World) (v:Value) (l:List MStep):Prop :=
 ∃a c,v=.slice a l.length c∧(l.length≤c∧c≤maxLen)∧∀(i:Nat) (t:MStep),l[i]? = some t→∃b off x,a=some ⟨b,off,none⟩∧b<w.heap.size ∧
  w.cell? ⟨b,off+i * 3,none⟩=some (.int .i64 t.kind)∧w.cell? ⟨b,off+i * 3+1,none⟩=some (.int .i64 t.con)∧w.cell? ⟨b,off+i * 3+2,none⟩=some x∧LArg w x t.cla
theorem zHc.below {w w':World} {v:Value} {l:List MStep} (hb:Below w.heap.size w w') (h:zHc w v l):zHc w' v l:=by
 obtain⟨a,c,hv,hm,hr⟩:=h;refine⟨a,c,hv,hm,fun i z hz=>?_⟩
 obtain⟨b,off,x,ha,hlt,c0,c1,c2,hx⟩:=hr i z hz;exact⟨b,off,x,ha,Nat.lt_of_lt_of_le hlt hb.size,(hb.cell (p:=⟨b,off+i * 3,none⟩) hlt).trans c0,(hb.cell (p:=⟨b,off+i * 3+1,none⟩) hlt).trans c1,(hb.cell (p:=⟨b,off+i * 3+2,none⟩) hlt).trans c2,LArg.below hb hx⟩
def zCG (n:Int) (s:MStep):Bool:=!(decide (s.kind=1)&&(decide (s.con<0) || decide (n≤s.con)))
def zDG (m:Mod) (given:List Cla) (l:List MStep):Int :=
 if zAF m=0 then (if 6000<l.length then 2 else if zFm m.vars given=0 then
  (if zAQ (l.map fun s=>claE m.vars s.cla)=0 then (if l.all (zCG m.cons.length) then 0 else 5) else zAQ (l.map fun s=>claE m.vars s.cla)) else zFm m.vars given) else zAF m
theorem zLH (m:Mod) (given:List Cla) (l:List MStep) (h:zDG m given l=0):zAF m=0∧l.length≤6000∧zFm m.vars given=0∧(∀s∈l,claE m.vars s.cla=0)∧∀s∈l,s.kind=1→0≤s.con∧s.con<(m.cons.length:Int):=by
 unfold zDG at h;by_cases h0:zAF m=0
 ·rw[if_pos h0] at h
  by_cases h1:6000<l.length
  ·rw[if_pos h1] at h;cases h
  ·rw[if_neg h1] at h
   by_cases h2:zFm m.vars given=0
   ·rw[if_pos h2] at h
    by_cases h3:zAQ (l.map fun s=>claE m.vars s.cla)=0
    ·rw[if_pos h3] at h
     cases h4:l.all (zCG m.cons.length)
     ·rw[h4] at h;cases h
     ·refine⟨h0,by omega,h2,fun s hs=>zDJ _ h3 _ (List.mem_map.2 ⟨s,hs,rfl⟩),fun s hs hk=>?_⟩
      have:=List.all_eq_true.1 h4 s hs;unfold zCG at this;simp[hk] at this;omega
    ·rw[if_neg h3] at h;exact absurd h h3
   ·rw[if_neg h2] at h;exact absurd h h2
 ·rw[if_neg h0] at h;exact absurd h h0
theorem zMl (m:Mod) (given:List Cla) (l:List MStep) (vs cs ul u:Value) (w:World) (hma:MArg w vs cs m) (hul:zFA w ul given) (hu:zHc w u l) :
 Calls Tryz.prog 80 #[modV vs cs m,ul,u] w fun e w'=>e=.returned (.int .i64 (zDG m given l))∧Below w.heap.size w w':=by
 have HMA:Hid (∀w',Below w.heap.size w w'→MArg w' vs cs m):=fun w' h=>MArg.below h hma
 have HL:Hid (∀w',Below w.heap.size w w'→zFA w' ul given):=fun w' h=>zFA.below h hul
 obtain⟨R,hR⟩:∃R,zDG m given l=R:=⟨_,rfl⟩;have HR:Hid (zDG m given l=R):=hR;rw[hR];obtain⟨⟨a1,c1,rfl,_,_⟩,⟨a2,c2,rfl,_,_⟩⟩:=hma;obtain⟨a3,c3,rfl,hm3,hr3⟩:=hu;have HST:Hid (∀(i:Nat) (t:MStep),l[i]? = some t→∃b off x,a3=some ⟨b,off,none⟩∧b<w.heap.size ∧
  w.cell? ⟨b,off+i * 3,none⟩=some (.int .i64 t.kind)∧w.cell? ⟨b,off+i * 3+1,none⟩=some (.int .i64 t.con)∧w.cell? ⟨b,off+i * 3+2,none⟩=some x∧LArg w x t.cla):=hr3
 unfold maxLen at hm3;obtain⟨hm31,hm3⟩:=hm3;obtain⟨a4,c4,rfl,_,_⟩:=hul;unfold modV;clear hR hr3;go_enter Tryz.func80,Tryz.ntmps80
 go_wp2_with fail
 refine (zCD m _ _ _ (HMA.out _ (zAA _ _))).mono ?_;rintro e w1 ⟨rfl,hb1⟩;have HB1:Hid (Below w.heap.size w w1):=(zAA _ _).trans (hb1.mono (by simp))
 have l1:w.heap.size<w1.heap.size:=by have:=hb1.size;simp at this;omega
 have k0:w1.cell? ⟨w.heap.size,0,none⟩=some (.slice a1 m.vars.length c1):=(hb1.cell (by simp)).trans (World.cell?_alloc_at _ _ _ 0 (by simp))
 have k1:w1.cell? ⟨w.heap.size,1,none⟩=some (.slice a2 m.cons.length c2):=(hb1.cell (by simp)).trans (World.cell?_alloc_at _ _ _ 1 (by simp))
 clear hb1;obtain⟨er,her⟩:∃er,zAF m=er:=⟨_,rfl⟩;have HER:Hid (zAF m=er):=her;rw[her];clear her;by_cases he:er=0
 ·subst he
  by_cases h60:6000<l.length
  ·have HRF:Hid (R=2):=by show _=_;rw[←HR.out];unfold zDG;rw[if_pos HER.out,if_pos h60]
   go_wp2
   go_ret
   exact⟨zAE HRF.out.symm,HB1.out⟩
  ·have HR2:Hid (R=if zFm m.vars given=0 then (if zAQ (l.map fun s=>claE m.vars s.cla)=0 then (if l.all (zCG m.cons.length) then 0 else 5) else zAQ (l.map fun s=>claE m.vars s.cla)) else zFm m.vars given):=by
    show _=_;rw[←HR.out];unfold zDG;rw[if_pos HER.out,if_neg h60]
   clear HR;go_wp2_with fail
   refine (zOj m.vars given _ _ _ (HMA.out _ HB1.out).1 (HL.out _ HB1.out)).mono ?_;rintro e w2 ⟨rfl,hb2⟩;have HB2:Hid (Below w.heap.size w w2):=HB1.out.trans (hb2.mono HB1.out.size);have HL2:Hid (w.heap.size<w2.heap.size):=Nat.lt_of_lt_of_le l1 hb2.size;have HJ0:Hid (w2.cell? ⟨w.heap.size,0,none⟩=some (.slice a1 m.vars.length c1)):=(hb2.cell (p:=⟨w.heap.size,0,none⟩) l1).trans k0;have HJ1:Hid (w2.cell? ⟨w.heap.size,1,none⟩=some (.slice a2 m.cons.length c2)):=(hb2.cell (p:=⟨w.heap.size,1,none⟩) l1).trans k1;clear hb2 k0 k1 l1;obtain⟨el,hel⟩:∃el,zFm m.vars given=el:=⟨_,rfl⟩;rw[hel] at HR2 ⊢;clear hel;by_cases hl0:el=0
   ·subst hl0
    have HR3:Hid (R=if zAQ (l.map fun s=>claE m.vars s.cla)=0 then (if l.all (zCG m.cons.length) then 0 else 5) else zAQ (l.map fun s=>claE m.vars s.cla)):=by show _=_;rw[HR2.out,if_pos rfl]
    clear HR2;go_wp2_with fail
    go_loopw [31] (fun i wr=>∃k:Nat,k≤l.length∧i=.int .i64 k∧Hid (zAQ ((l.map fun s=>claE m.vars s.cla).take k)=0)∧Below w2.heap.size w2 wr) (fun i _=>l.length - (intOf i).toNat)
    case atStart=>exact⟨0,by omega,rfl,rfl,Below.refl _ _⟩
    case round =>
     obtain⟨k,hk,rfl,hall,hbw⟩:=hrel;have HBW:Hid (Below w2.heap.size w2 wr):=hbw;have HBN:Hid (Below w.heap.size w wr):=HB2.out.trans (hbw.mono HB2.out.size);have i0:=(hbw.cell (p:=⟨w.heap.size,0,none⟩) HL2.out).trans HJ0.out;have lr:w.heap.size<wr.heap.size:=Nat.lt_of_lt_of_le HL2.out hbw.size;clear hbw;by_cases hlt:k<l.length
     ·obtain⟨t,ht⟩:∃t,l[k]? = some t:=⟨l[k],by simp[hlt]⟩
      obtain⟨b,off,x,hax,hb,q0,q1,q2,hxa⟩:=HST.out k t ht;subst hax;have hc0:=(HBN.out.cell (p:=⟨b,off+k * 3,none⟩) hb).trans q0;have hc1:=(HBN.out.cell (p:=⟨b,off+k * 3+1,none⟩) hb).trans q1;have hc2:=(HBN.out.cell (p:=⟨b,off+k * 3+2,none⟩) hb).trans q2;have HXA:Hid (∀w',Below w.heap.size w w'→LArg w' x t.cla):=fun w' h=>LArg.below h hxa
      obtain⟨ax,cx,rfl,_,_⟩:=hxa;obtain⟨er,her⟩:∃er,claE m.vars t.cla=er:=⟨_,rfl⟩;have HE1:Hid (claE m.vars t.cla=er):=her;have HZ:Hid ((l.map fun s=>claE m.vars s.cla)[k]? = some er):=by show _=_;rw[List.getElem?_map,ht,←her];rfl
      clear ht q0 q1 q2 her hb;go_wp2_with fail
      refine (zLG m.vars t.cla _ _ _ (HMA.out _ (HBN.out.alloc HBN.out.size _)).1 (HXA.out _ (HBN.out.alloc HBN.out.size _))).mono ?_;rintro e w3 ⟨rfl,hb3⟩;rw[HE1.out];have HB3:Hid (Below w2.heap.size w2 w3):=(HBW.out.alloc HBW.out.size _).trans (hb3.mono (by have:=HBW.out.size;simp;omega))
      clear hb3 hc0 hc1 hc2 i0;by_cases he:er=0
      ·subst he
       have HN:Hid (zAQ ((l.map fun s=>claE m.vars s.cla).take (k+1))=0):=zCB _ k hall.out HZ.out
       go_wp2
       go_roundw
       case rel=>exact⟨k+1,by omega,by go_num,HN,HB3.out⟩
       case measure=>simp[intOf];omega
      ·have HF:=zB2 _ k er hall.out HZ.out he
       have HRF:Hid (R=er):=by show _=_;rw[HR3.out,HF,if_neg he]
       have he2:(er != 0)=true:=by simpa using he
       have HB4:Hid (Below w.heap.size w w3):=HB2.out.trans (HB3.out.mono HB2.out.size);clear hall he HF;go_wp2
       go_ret
       exact⟨zAE HRF.out.symm,HB4.out⟩
     ·have hke:k=l.length:=by omega
      have HR4:Hid (R=if l.all (zCG m.cons.length) then 0 else 5):=by
       show _=_;have h1:=hall.out;rw[hke,List.take_of_length_le (by simp)] at h1
       rw[HR3.out,if_pos h1]
      have HJ0':Hid (wr.cell? ⟨w.heap.size,0,none⟩=some (.slice a1 m.vars.length c1)):=i0;have HJ1':Hid (wr.cell? ⟨w.heap.size,1,none⟩=some (.slice a2 m.cons.length c2)):=(HBW.out.cell (p:=⟨w.heap.size,1,none⟩) HL2.out).trans HJ1.out;have HLR:Hid (w.heap.size<wr.heap.size):=lr;obtain⟨W,hW⟩:∃W:World,W=wr:=⟨_,rfl⟩;rw[←hW] at HJ0' HJ1' HLR HBN ⊢;clear hall hke i0 HR3 HJ0 HJ1 lr HBW hW;go_wp2_with fail
      go_loopw [46] (fun i wx=>∃k:Nat,k≤l.length∧i=.int .i64 k∧Hid ((l.take k).all (zCG m.cons.length)=true)∧Below W.heap.size W wx) (fun i _=>l.length - (intOf i).toNat)
      case atStart=>exact⟨0,by omega,rfl,rfl,Below.refl _ _⟩
      case round =>
       obtain⟨k,hk,rfl,hall,hbw⟩:=hrel;have HBW:Hid (Below W.heap.size W wr):=hbw;have HBM:Hid (Below w.heap.size w wr):=HBN.out.trans (hbw.mono HBN.out.size);have i1:=(hbw.cell (p:=⟨w.heap.size,1,none⟩) HLR.out).trans HJ1'.out;have lr:w.heap.size<wr.heap.size:=Nat.lt_of_lt_of_le HLR.out hbw.size;clear hbw;by_cases hlt:k<l.length
       ·obtain⟨t,ht⟩:∃t,l[k]? = some t:=⟨l[k],by simp[hlt]⟩
        obtain⟨b,off,x,hax,hb,q0,q1,q2,hxa⟩:=HST.out k t ht;subst hax;have hc0:=(HBM.out.cell (p:=⟨b,off+k * 3,none⟩) hb).trans q0;have hc1:=(HBM.out.cell (p:=⟨b,off+k * 3+1,none⟩) hb).trans q1;have hc2:=(HBM.out.cell (p:=⟨b,off+k * 3+2,none⟩) hb).trans q2;obtain⟨ax,cx,rfl,_,_⟩:=hxa;have HT:Hid (l[k]? = some t):=ht;have HB3:Hid (∀o,Below W.heap.size W (wr.alloc o)):=fun o=>HBW.out.alloc HBW.out.size _
        have HN1:Hid (zCG m.cons.length t=true→(l.take (k+1)).all (zCG m.cons.length)=true):=fun hq=>by rw[List.take_add_one,HT.out,List.all_append,hall.out];simp[hq]
        have HN2:Hid (zCG m.cons.length t=false→R=5):=fun hq=>by
         have h5:l.all (zCG m.cons.length)=false:=by
          cases h6:l.all (zCG m.cons.length)
          ·rfl
          ·rw[List.all_eq_true.1 h6 t (List.mem_of_getElem? HT.out)] at hq;cases hq
         rw[HR4.out,h5];rfl
        clear ht q0 q1 q2 hb hall;by_cases hk1:t.kind=1
        ·have g1:(t.kind==1)=true:=by simpa using hk1
         by_cases hn0:t.con<0
         ·have HRF:Hid (R=5):=HN2.out (by unfold zCG;simp[hk1,hn0])
          clear hk1;go_wp2
          go_ret
          exact⟨zAE HRF.out.symm,HBM.out.alloc HBM.out.size _⟩
         ·by_cases hn1:(m.cons.length:Int)≤t.con
          ·have HRF:Hid (R=5):=HN2.out (by unfold zCG;simp[hk1,hn1])
           clear hk1;go_wp2
           go_ret
           exact⟨zAE HRF.out.symm,HBM.out.alloc HBM.out.size _⟩
          ·have HN:Hid ((l.take (k+1)).all (zCG m.cons.length)=true):=HN1.out (by unfold zCG;simp[hk1];omega)
           clear hk1 HN1 HN2;go_wp2
           go_roundw
           case rel=>exact⟨k+1,by omega,by go_num,HN,HB3.out _⟩
           case measure=>simp[intOf];omega
        ·have g1:(t.kind==1)=false:=by simpa using hk1
         have HN:Hid ((l.take (k+1)).all (zCG m.cons.length)=true):=HN1.out (by unfold zCG;simp[hk1])
         clear hk1 HN1 HN2;go_wp2
         go_roundw
         case rel=>exact⟨k+1,by omega,by go_num,HN,HB3.out _⟩
         case measure=>simp[intOf];omega
       ·have hke:k=l.length:=by omega
        have HRF:Hid (R=0):=by
         show _=_;have h1:=hall.out;rw[hke,List.take_of_length_le (Nat.le_refl _)] at h1;rw[HR4.out,h1];rfl
        clear hall hke;go_wp2
        go_ret
        exact⟨zAE HRF.out.symm,HBM.out⟩
   ·have HRF:Hid (R=el):=by show _=_;rw[HR2.out,if_neg hl0]
    have he2:(el != 0)=true:=by simpa using hl0
    clear hl0 HR2;go_wp2
    go_ret
    exact⟨zAE HRF.out.symm,HB2.out⟩
 ·have HRF:Hid (R=er):=by
   show _=_;rw[←HR.out];unfold zDG;rw[HER.out,if_neg he]
  have he2:(er != 0)=true:=by simpa using he
  clear he;go_wp2
  go_ret
  exact⟨zAE HRF.out.symm,HB1.out⟩
def Impl (G:List Nat) (c:Nat):Prop:=∀r,r<2 ^ 36→zDm G r→zDm [c] r
theorem zGb {G:List Nat} {c:Nat} (h:c∈G):Impl G c:=fun _ _ hg d hd=>by rw[List.mem_singleton.1 hd];exact hg c h
theorem zGc {G H:List Nat} {c:Nat} (h:Impl G c) (hs:∀d∈G,d∈H):Impl H c:=fun r hr hg=>h r hr (zIE hg hs)
theorem zOk {G H:List Nat} {c:Nat} (h:Impl G c) (hs:∀d∈G,Impl H d):Impl H c:=fun r hr hg=>h r hr fun d hd=>hs d hd r hr hg d (List.mem_singleton.2 rfl)
theorem zJi (vs:List MVar) (hv:zAd vs) (A B:List Nat) (h:Nat) (hs:∀c∈A,Impl B c) (hf:zDf vs A h=true):zDf vs B h=true:=by
 unfold zDf at *;have h0:zAf vs A (zAL (zAD vs) h)=0:=by simpa using hf
 have h36:zAL (zAD vs) h<2 ^ 36:=zCe 36 _ _ (zB6 vs hv);cases hb:(zAf vs B (zAL (zAD vs) h)==0)
 ·exfalso
  have hn:zAf vs B (zAL (zAD vs) h)≠0:=by simpa using hb
  obtain⟨k1,k2,k3⟩:=zJc vs B _ h36 hn;have hle:=zDq vs B (zAL (zAD vs) h);have:=zHK vs _ (by omega) k1 A (fun c hc=>hs c hc _ (by omega) k2 c (List.mem_singleton.2 rfl)) _ k3
  obtain⟨i,hi⟩:=zC3 hn;have:=this i hi;rw[h0] at this;simp at this
 ·rfl
theorem zOl (m:Mod) (hm:zAF m=0) (A B:List Nat) (s:MStep) (hs:∀c∈A,Impl B c) (h:zDg m A s=true):zDg m B s=true:=by
 unfold zDg at h ⊢
 split
 ·rename_i hk;rw[if_pos hk] at h;exact h
 ·rename_i hk
  rw[if_neg hk] at h
  split
  ·rename_i hk2
   rw[if_pos hk2] at h;exact zJi m.vars (zAg m hm) A B _ hs h
  ·rename_i hk2;rw[if_neg hk2] at h;cases h
theorem zJj (m:Mod) (hm:zAF m=0):∀(l:List MStep) (A B:List Nat),(∀c∈A,Impl B c)→zBZ m A l=true→zBZ m B l=true
 | [],A,B,_,_=>rfl
 | s :: r,A,B,hs,h=>by
   unfold zBZ at h ⊢;rw[Bool.and_eq_true] at h ⊢;refine⟨zOl m hm A B s hs h.1,zJj m hm r _ _ (fun c hc=>?_) h.2⟩
   rcases List.mem_append.1 hc with hc | hc
   ·exact zGc (hs c hc) fun d hd=>List.mem_append_left _ hd
   ·exact zGb (List.mem_append_right _ hc)
theorem zJk (m:Mod) (s:MStep):∀(l:List MStep) (A:List Nat),zBZ m A (l++[s])=(zBZ m A l&&zDg m (A++l.map fun t=>zAH m.vars t.cla) s)
 | [],A=>by simp[zBZ]
 | t :: r,A=>by
   rw[List.cons_append];unfold zBZ;rw[zJk m s r,Bool.and_assoc];simp
theorem zSF (c d:Nat) (f:Nat) (hcd:SubP c d) (hd:∀i,d.testBit i=true→i / 6=f):Impl [c] d:=by
 intro r hr hg e he;rw[List.mem_singleton.1 he];obtain⟨h1,h2⟩:=hg c (List.mem_singleton.2 rfl);obtain⟨i,hi⟩:=zC3 h1;obtain⟨i1,i2⟩:=(zB4 _ _ _).1 hi;have ct:∀q:Nat,(∀j,q.testBit j=true→d.testBit j=true)→q≠0→q<2 ^ 36→zAL q (zAl q)=0∧∀j,(zAl q).testBit j=true↔j / 6=f:=fun q hq hq0 hq36=>by
  have hb:=(zEJ q hq0 (by omega) (Lib.ctz 64 q)).2.1 rfl
  have h6:=hd _ (hq _ hb);refine⟨(zBk _ _).2 fun j hj=>?_,fun j=>?_⟩
  ·rw[zBL,decide_eq_true_eq,hd j (hq j hj),h6]
  ·rw[zBL,decide_eq_true_eq,h6]
 have hne:r &&& d≠0:=fun h=>by
  have:=(zB4 r d i).2 ⟨i1,hcd i i2⟩;rw[h] at this;simp at this
 have hle1:r &&& c≤r:=Nat.and_le_left;have hle2:r &&& d≤r:=Nat.and_le_left;obtain⟨c1,c2⟩:=ct (r &&& c) (fun j hj=>hcd j ((zB4 _ _ _).1 hj).2) h1 (by omega)
 obtain⟨_,d2⟩:=ct (r &&& d) (fun j hj=>((zB4 _ _ _).1 hj).2) hne (by omega)
 exact⟨hne,fun _ j hj hf=>hcd j (h2 c1 j hj ((c2 j).2 ((d2 j).1 hf)))⟩
structure PrOk (m:Mod) (G:List Nat) (S:Sk):Prop where
 stp:zBZ m G S.proof=true
 imp:∀c∈S.cs,Impl (G++S.proof.map fun t=>zAH m.vars t.cla) c
 cla:∀s∈S.proof,claE m.vars s.cla=0
 thr:∀s∈S.proof,zCG m.cons.length s=true
 non:∀s∈S.proof,zAH m.vars s.cla≠0
 pth:∀l∈S.path,litE m.vars l=0∧∀c:Cla,l∈c→zAH m.vars c≠0
theorem zLI (m:Mod) (G:List Nat) (P:List MStep) (t:MStep) (h1:zBZ m G P=true) (ht:zDg m (G++P.map fun t=>zAH m.vars t.cla) t=true):zBZ m G (zAe m.vars [t] P)=true∧zAH m.vars t.cla∈(zAe m.vars [t] P).map (fun t=>zAH m.vars t.cla)∧(∀s∈P,s∈zAe m.vars [t] P)∧∀s∈zAe m.vars [t] P,s∈P∨s=t:=by
 unfold zAe zAe
 split
 ·rename_i hc
  refine⟨h1,?_,fun s hs=>hs,fun s hs=>Or.inl hs⟩
  simpa using hc
 ·refine⟨by rw[zJk,h1,ht];rfl,?_,fun s hs=>List.mem_append_left _ hs,fun s hs=>?_⟩
  ·rw[List.map_append]
   exact List.mem_append_right _ (List.mem_singleton.2 rfl)
  ·rcases List.mem_append.1 hs with hs | hs
   ·exact Or.inl hs
   ·exact Or.inr (List.mem_singleton.1 hs)
theorem zF9 (vs:List MVar) (t:MStep) (r P:List MStep):zAe vs (t :: r) P=zAe vs r (zAe vs [t] P):=rfl
theorem zJl (vs:List MVar):∀(a b P:List MStep),zAe vs (a++b) P=zAe vs b (zAe vs a P)
 | [],b,P=>rfl
 | t :: r,b,P=>by rw[List.cons_append,zF9,zJl vs r b,←zF9]
theorem zJm (m:Mod) (G:List Nat):∀(l P:List MStep),(∀t∈l,∀A,zDg m A t=true)→zBZ m G P=true→zBZ m G (zAe m.vars l P)=true∧(∀t∈l,zAH m.vars t.cla∈(zAe m.vars l P).map (fun t=>zAH m.vars t.cla))∧(∀s∈P,s∈zAe m.vars l P)∧∀s∈zAe m.vars l P,s∈P∨s∈l
 | [],P,_,h=>⟨h,fun t ht=>(by cases ht),fun s hs=>hs,fun s hs=>Or.inl hs⟩
 | t :: r,P,hr,h=>by
   rw[zF9];obtain⟨a1,a2,a3,a4⟩:=zLI m G P t h (hr t (List.mem_cons_self ..) _);obtain⟨b1,b2,b3,b4⟩:=zJm m G r (zAe m.vars [t] P) (fun x hx=>hr x (List.mem_cons_of_mem _ hx)) a1
   refine⟨b1,fun x hx=>?_,fun s hs=>b3 s (a3 s hs),fun s hs=>?_⟩
   ·rcases List.mem_cons.1 hx with rfl | hx
    ·obtain⟨y,hy,he⟩:=List.mem_map.1 a2
     exact List.mem_map.2 ⟨y,b3 y hy,he⟩
    ·exact b2 x hx
   ·rcases b4 s hs with h1 | h1
    ·rcases a4 s h1 with h2 | h2
     ·exact Or.inl h2
     ·exact Or.inr (h2▸List.mem_cons_self ..)
    ·exact Or.inr (List.mem_cons_of_mem _ h1)
def zGA (w:World) (v:Value) (pt:List (List Nat)):Prop :=
 ∃a c,v=.slice a pt.length c∧(pt.length≤c∧c≤maxLen)∧∀(i:Nat) (pts:List Nat),pt[i]? = some pts→∃b off x,a=some ⟨b,off,none⟩∧b<w.heap.size∧w.cell? ⟨b,off+i,none⟩=some x∧PArg w x pts
theorem zGA.below {w w':World} {v:Value} {pt:List (List Nat)} (hb:Below w.heap.size w w') (h:zGA w v pt):zGA w' v pt:=by
 obtain⟨a,c,hv,hm,hr⟩:=h;refine⟨a,c,hv,hm,fun i z hz=>?_⟩
 obtain⟨b,off,x,ha,hlt,hc,hx⟩:=hr i z hz;exact⟨b,off,x,ha,Nat.lt_of_lt_of_le hlt hb.size,(hb.cell (p:=⟨b,off+i,none⟩) hlt).trans hc,PArg.below hb hx⟩
def zFB (N bm bp ba:Nat) (m:Mod) (vs cs pv:Value) (ahead:List Nat) (w:World):Prop :=
 (N≤ba∧N≤w.heap.size) ∧
 Old N w (fun u=>MArg u vs cs m∧zGA u pv (m.cons.map (zAM m.vars))∧u.cell? ⟨bm,0,none⟩=some vs∧u.cell? ⟨bp,0,none⟩=some pv∧TabT u) ∧
 (∀z∈ahead,z<2 ^ 36) ∧
 ∃av,w.ownsRow N 180 1 (.slice (some ⟨ba,0,none⟩) 1 1) 1 [av]∧w.ownsRow N 183 1 av ahead.length (u64s ahead)∧av.ownBlock≠some ba
section
variable {N bm bp ba:Nat} {m:Mod} {vs cs pv:Value} {ahead:List Nat} {w w':World}
theorem zFB.below (h:zFB N bm bp ba m vs cs pv ahead w) (hb:Below w.heap.size w w'):zFB N bm bp ba m vs cs pv ahead w':=by
 obtain⟨⟨h1,h2⟩,h3,h4,av,h5,h6,h7⟩:=h;exact⟨⟨h1,Nat.le_trans h2 hb.size⟩,h3.below (hb.mono h2),h4,av,zAG h5 hb,zAG h6 hb,h7⟩
theorem zFB.old (h:zFB N bm bp ba m vs cs pv ahead w):MArg w vs cs m∧zGA w pv (m.cons.map (zAM m.vars))∧w.cell? ⟨bm,0,none⟩=some vs∧w.cell? ⟨bp,0,none⟩=some pv∧TabT w∧bm<w.heap.size∧bp<w.heap.size:=by
 obtain⟨_,⟨w0,g0,⟨g1,g2,g3,g4,g5⟩,gb⟩,_⟩:=h;have l1:=World.block_lt_of_cell? w0 _ g3;have l2:=World.block_lt_of_cell? w0 _ g4;have hs:=gb.size;simp only at l1 l2;exact⟨MArg.below gb g1,zGA.below gb g2,(gb.cell (p:=⟨bm,0,none⟩) l1).trans g3,(gb.cell (p:=⟨bp,0,none⟩) l2).trans g4,g5.below gb,by omega,by omega⟩
theorem zFB.put {z:Nat} {v3 av:Value} {w2:World} (h:zFB N bm bp ba m vs cs pv ahead w) (hz:z<2 ^ 36) (ho:w.ownsRow N 180 1 (.slice (some ⟨ba,0,none⟩) 1 1) 1 [av]) (hr:w.ownsRow N 183 1 av ahead.length (u64s ahead)) (hne:av.ownBlock≠some ba)
 (hw:w2.ownsRow N 183 1 v3 (ahead++[z]).length (u64s (ahead++[z]))) (hg:w.grownBy w2 av.ownBlock) :
 zFB N bm bp ba m vs cs pv (ahead++[z]) (w2.setCell ⟨ba,0,none⟩ v3)∧Below N w (w2.setCell ⟨ba,0,none⟩ v3):=by
 obtain⟨⟨h1,h2⟩,h3,h4,_⟩:=h;have hb1:Below N w w2:=(Below.refl _ _).grown hg h2 (fun k hk=>(hr.lt k hk).1)
 have hb:Below N w (w2.setCell ⟨ba,0,none⟩ v3):=hb1.setCell h1 _;have hba:ba<w.heap.size:=(ho.lt ba rfl).2;have h6:w2.ownsRow N 180 1 (.slice (some ⟨ba,0,none⟩) 1 1) 1 [av]:=ho.kept hg (Or.inr fun he=>hne he.symm)
 have hvb:v3.ownBlock≠some ba:=by
  intro he;rcases hw.2 with ⟨hq,_⟩ | ⟨g,cap,cur,hq,_,hh,_⟩
  ·rw[hq] at he;cases he
  ·rw[hq] at he
   cases he
   rcases h6.2 with ⟨hq2,_⟩ | ⟨g2,cap2,cur2,hq2,_,hh2,_⟩
   ·cases hq2
   ·cases hq2
    rw[hh] at hh2
    injection hh2 with h9
    injection h9 with _ h8
    exact absurd h8 (by decide)
 refine⟨⟨⟨h1,Nat.le_trans h2 hb.size⟩,h3.below hb,fun y hy=>?_,v3,(h6.stored 0 v3).1,zFs hw fun g hgg=>?_,hvb⟩,hb⟩
 ·rcases List.mem_append.1 hy with h | h
  ·exact h4 y h
  ·rw[List.mem_singleton.1 h];exact hz
 ·exact Below.heap_setCell _ _ _ _ (fun h=>hvb (by rw[hgg];exact congrArg some h))
end
theorem zQK (N bm bp ba:Nat) (m:Mod) (vs cs pv u:Value) (ahead:List Nat) (s:MStep) (w:World) (hm:zAF m=0) (hT:zFB N bm bp ba m vs cs pv ahead w) (hu:LArg w u s.cla) (hk:s.kind=1→0≤s.con∧s.con<(m.cons.length:Int)) (hbud:ahead.length≤100000) :
 Calls Tryz.prog 143 #[.agg #[.int .i64 s.kind,.int .i64 s.con,u],.pointer (some ⟨bm,0,none⟩),.pointer (some ⟨bp,0,none⟩),.pointer (some ⟨ba,0,none⟩)] w fun e w'=>e=.returned (.bool (zDg m ahead s)) ∧
  zFB N bm bp ba m vs cs pv (ahead++[zAH m.vars s.cla]) w'∧Below N w w':=by
 have HM:Hid (zAF m=0):=hm;have HK:Hid (s.kind=1→0≤s.con∧s.con<(m.cons.length:Int)):=hk;have HN:Hid (N≤w.heap.size):=hT.1.2;obtain⟨hma,hpp,d0,d1,htab,lm,lp⟩:=hT.old;have HMA:Hid (∀w',Below w.heap.size w w'→MArg w' vs cs m):=fun w' h=>MArg.below h hma
 have HPP:Hid (∀w',Below w.heap.size w w'→zGA w' pv (m.cons.map (zAM m.vars))):=fun w' h=>zGA.below h hpp
 have HTB:Hid (∀w',Below w.heap.size w w'→TabT w'):=fun w' h=>htab.below h
 have HU:Hid (∀w',Below w.heap.size w w'→LArg w' u s.cla):=fun w' h=>LArg.below h hu
 have HT:Hid (∀w',Below w.heap.size w w'→zFB N bm bp ba m vs cs pv ahead w'):=fun w' h=>hT.below h
 obtain⟨⟨a1,c1,rfl,_,_⟩,⟨a2,c2,rfl,_,_⟩⟩:=hma;obtain⟨a3,c3,rfl,_,_⟩:=hu;obtain⟨a4,c4,hpv,hm4,_⟩:=hpp;rw[List.length_map] at hpv hm4;unfold maxLen at hm4;obtain⟨hm41,hm4⟩:=hm4;subst hpv;obtain⟨i0,hi,hz0,hz1,hz2⟩:=info_parts Tryz.infoPart;obtain⟨h,hh⟩:∃h,zAH m.vars s.cla=h:=⟨_,rfl⟩;have HH:Hid (zAH m.vars s.cla=h):=hh;have HH36:Hid (h<2 ^ 36):=by rw[←hh];exact zQH m hm s.cla
 obtain⟨R,hR⟩:∃R,zDg m ahead s=R:=⟨_,rfl⟩;have HR:Hid (R=if s.kind=1 then zCy m.vars (zAM m.vars (m.cons.getD s.con.toNat zPm)) h else if s.kind=2∧s.con=0 then zDf m.vars ahead h else false):=by show _=_;rw[←hR,←hh];rfl
 rw[hR,hh];clear hT hm hk htab hh hR;go_enter Tryz.func143,Tryz.ntmps143
 go_wp2_with fail
 refine (zEL m.vars (zDY m HM.out) s.cla _ _ _ (HMA.out _ (zAA _ _)).1 (HU.out _ (zAA _ _))).mono ?_;rintro e w1 ⟨rfl,hb1⟩;rw[HH.out];have HB1:Hid (Below w.heap.size w w1):=(zAA _ _).trans (hb1.mono (by simp))
 have l1:w.heap.size<w1.heap.size:=by have:=hb1.size;simp at this;omega
 have k0:w1.cell? ⟨w.heap.size,0,none⟩=some (.int .i64 s.kind):=(hb1.cell (by simp)).trans (World.cell?_alloc_at _ _ _ 0 (by simp))
 have k1:w1.cell? ⟨w.heap.size,1,none⟩=some (.int .i64 s.con):=(hb1.cell (by simp)).trans (World.cell?_alloc_at _ _ _ 1 (by simp))
 have d0':=(HB1.out.cell (p:=⟨bm,0,none⟩) lm).trans d0;have d1':=(HB1.out.cell (p:=⟨bp,0,none⟩) lp).trans d1;have lm1:bm<w1.heap.size:=by omega
 have lp1:bp<w1.heap.size:=by omega
 clear hb1 d0 d1 lm lp;go_upto_block 0 with (fail)
 go_cut [7] (fun v wx=>v=.bool R∧Hid (Below w1.heap.size w1 wx))
 case first =>
  have HS2:Hid (w1.heap.size=w1.heap.size):=rfl;by_cases hk1:s.kind=1
  ·obtain⟨hn0,hn1⟩:=HK.out hk1
   obtain⟨j,hj⟩:∃j:Nat,s.con=(j:Int):=⟨s.con.toNat,by omega⟩
   have hjl:j<m.cons.length:=by omega
   obtain⟨k,hkk⟩:∃k,m.cons[j]? = some k:=⟨m.cons[j],by simp[hjl]⟩
   have HRF:Hid (R=zCy m.vars (zAM m.vars k) h):=by
    show _=_;rw[HR.out,if_pos hk1,hj,Int.toNat_natCast,List.getD_eq_getElem?_getD,hkk];rfl
   rw[hj] at k1;have g1:(s.kind==1)=true:=by simpa using hk1
   obtain⟨a',c',hv',_,hrr⟩:=HPP.out w1 HB1.out;obtain⟨b4,o4,x,hax,hb4,hc4,hpx⟩:=hrr j (zAM m.vars k) (by rw[List.getElem?_map,hkk];rfl)
   have ha4:a4=some ⟨b4,o4,none⟩:=by injection hv' with e1;exact e1.trans hax
   clear hv' hrr hax;subst ha4;have HPX:Hid (∀Y,Below w1.heap.size w1 Y→PArg Y x (zAM m.vars k)):=fun Y hY=>PArg.below hY hpx
   obtain⟨ax,cx,rfl,_,_⟩:=hpx;have HSA:Hid (∀Y,Below w1.heap.size w1 Y→Calls Tryz.prog 126 #[.slice a1 m.vars.length c1,.slice ax (zAM m.vars k).length cx,.int .u64 (h:Int)] Y fun e w'=>e=.returned (.bool (zCy m.vars (zAM m.vars k) h))∧Below Y.heap.size Y w'):=fun Y hY =>
    zNs m.vars (zDY m HM.out) _ _ HH36.out _ _ Y (HMA.out _ (HB1.out.trans (hY.mono HB1.out.size))).1 (HPX.out _ hY)
   clear hk1 hkk hj hn0 hn1 HR;go_wp2_with fail
   go_region_held3 (fun w'=>Below w1.heap.size w1 w'∧w'.cell? ⟨bm,0,none⟩=some (.slice a1 m.vars.length c1)∧w'.cell? ⟨bp,0,none⟩=some (.slice (some ⟨b4,o4,none⟩) m.cons.length c4)∧w'.cell? ⟨w.heap.size,1,none⟩=some (.int .i64 (j:Int))∧w'.cell? ⟨b4,o4+j,none⟩=some (.slice ax (zAM m.vars k).length cx))
    ((refine (fun (hB:Below w1.heap.size w1 _)=>⟨hB,(hB.cell (p:=⟨bm,0,none⟩) lm1).trans d0',(hB.cell (p:=⟨bp,0,none⟩) lp1).trans d1',(hB.cell (p:=⟨w.heap.size,1,none⟩) l1).trans k1,(hB.cell (p:=⟨b4,o4+j,none⟩) hb4).trans hc4⟩:Below w1.heap.size w1 _→_) ?_;first | exact (Below.refl _ _).drew | exact zCa (by assumption) hbq))
    (first
      | (go_at_call 126;refine (HSA.out _ (show Below w1.heap.size w1 _∧_ by assumption).1).mono ?_;rintro e w5 ⟨rfl,hbq⟩;have hB5:=zCa (by assumption) hbq))
   have HB5:Hid (Below w1.heap.size w1 w5):=hB5;go_wp2_with fail
   go_meet
   exact⟨by rw[HRF.out],HB5⟩
  ·have g1:(s.kind==1)=false:=by simpa using hk1
   by_cases hk2:s.kind=2∧s.con=0
   ·have HRF:Hid (R=zDf m.vars ahead h):=by show _=_;rw[HR.out,if_neg hk1,if_pos hk2]
    have g2:(s.kind==2)=true:=by simpa using hk2.1
    have g3:(s.con==0)=true:=by simpa using hk2.2
    obtain⟨⟨hNb,hNs⟩,_,h36,av,ho,hr,hne⟩:=HT.out w1 HB1.out;have HPA:Hid (PArg w1 av ahead):=zEh hr h36;obtain⟨aa,ca,rfl⟩:=zAB hr;have hca:w1.cell? ⟨ba,0,none⟩=some (.slice aa ahead.length ca):=ho.cellAt 0 (by omega)
    have lba:ba<w1.heap.size:=(ho.lt ba rfl).2;clear hk1 hk2 HR ho hr hne h36;go_wp2_with fail
    refine (zLF m.vars (zDY m HM.out) (zA9 m HM.out).1 ahead h HH36.out _ _ _ (HMA.out _ HB1.out).1 HPA.out (HTB.out _ HB1.out)).mono ?_;rintro e w5 ⟨rfl,hb5⟩;have HB5:Hid (Below w1.heap.size w1 w5):=hb5;clear hb5;go_wp2_with fail
    go_meet
    exact⟨by rw[HRF.out],HB5⟩
   ·have HRF:Hid (R=false):=by show _=_;rw[HR.out,if_neg hk1,if_neg hk2]
    by_cases hk3:s.kind=2
    ·have g2:(s.kind==2)=true:=by simpa using hk3
     have g3:(s.con==0)=false:=by
      have:s.con≠0:=fun h0=>hk2 ⟨hk3,h0⟩
      simpa using this
     clear hk1 hk2 hk3 HR;go_wp2_with fail
     go_meet
     exact⟨by rw[HRF.out],Below.refl _ _⟩
    ·have g2:(s.kind==2)=false:=by simpa using hk3
     clear hk1 hk2 hk3 HR;go_wp2_with fail
     go_meet
     exact⟨by rw[HRF.out],Below.refl _ _⟩
 case rest =>
  obtain⟨hv,hbc⟩:=hcut;subst hv;have HBC:Hid (Below w.heap.size w wc):=HB1.out.trans (hbc.out.mono HB1.out.size);have HTC:Hid (zFB N bm bp ba m (.slice a1 m.vars.length c1) (.slice a2 m.cons.length c2) (.slice a4 m.cons.length c4) ahead wc):=HT.out wc HBC.out;obtain⟨⟨hNb,hNs⟩,_,_,av,ho,hr,hne⟩:=HTC.out;obtain⟨aa,ca,rfl⟩:=zAB hr;have hca:wc.cell? ⟨ba,0,none⟩=some (.slice aa ahead.length ca):=ho.cellAt 0 (by omega)
  have lba:ba<wc.heap.size:=(ho.lt ba rfl).2;clear d0' d1' k0 k1 l1 lm1 lp1;go_wp2_with (at_builtin;refine wpList_append_own _ rfl _ _ 180 rfl N 183 i0 (.int .u64 0) 1 8 Tryz.underlying180 hi hz0 hz1 hz2 rfl (by decide) _ _ _ rfl (hr.alloc _) ⟨wc.heap.size,0,none⟩ 1 1 [.int .u64 (h:Int)] rfl rfl ?c1 ?c2 ?c3 ?c4 ?c5 ?_)
  case c1=>exact zLD wc h
  case c2=>intro u hu;rcases List.mem_singleton.1 hu with rfl;rfl
  case c3=>unfold maxLen;omega
  case c4=>omega
  case c5=>simp;omega
  intro v3 w3 hown3 hgrow _;have hown4:w3.ownsRow N 183 1 v3 (ahead++[h]).length (u64s (ahead++[h])):=by
   unfold u64s;rw[List.length_append,List.map_append];exact hown3
  have HPUT:=(HTC.out.below (zAA _ _)).put HH36.out (ho.alloc _) (hr.alloc _) hne hown4 hgrow;have HP:Hid (zFB N bm bp ba m (.slice a1 m.vars.length c1) (.slice a2 m.cons.length c2) (.slice a4 m.cons.length c4) (ahead++[h]) (w3.setCell ⟨ba,0,none⟩ v3)):=HPUT.1;have HB4:Hid (Below N w (w3.setCell ⟨ba,0,none⟩ v3)):=(HBC.out.mono HN.out).trans (((Below.refl _ _).alloc hNs _).trans HPUT.2);have ht3:w3.ownsRow N 180 1 (.slice (some ⟨ba,0,none⟩) 1 1) 1 [.slice aa ahead.length ca]:=(ho.alloc _).kept hgrow (Or.inr (fun h=>hne h.symm))
  have hcB:w3.cell? ⟨ba,0,none⟩=some (.slice aa ahead.length ca):=ht3.cellAt 0 (by omega)
  have hfB:w3.frozen? ⟨ba,0,none⟩=false:=ht3.frozenAt 0;obtain⟨av',cv',rfl⟩:=zAB hown4;rw[show (ahead++[h]).length=ahead.length+1 by simp] at HP HB4
  clear hown3 hgrow hown4 hr ho hca ht3 HPUT hne;go_wp2
  go_ret
  exact⟨rfl,HP.out,HB4.out⟩
end Go.Proofs.YtdjbejlbmaiocagGreatDoor
