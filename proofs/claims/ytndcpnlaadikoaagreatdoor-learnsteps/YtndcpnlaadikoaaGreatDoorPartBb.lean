/- What the proof leans on, part 28. -/
import Derived.Test.YtndcpnlaadikoaaGreatDoorPartBa
import Derived.Test.YtndcpnlaadikoaaGreatDoorPartAz
namespace Go.Proofs.YtndcpnlaadikoaaGreatDoor
open Go.RowKit
theorem zBx {w:World} {b:Nat} {cs:Array Value} {t:TypeId} (h:w.heap[b]? = some (.cells cs t)) (i:Nat) (v:Value) (hv:cs[i]? = some v):w.cell? ⟨b,i,none⟩=some v:=by
 rw[Lib.cell_of_heap h];exact hv
theorem zCF {w:World} {b:Nat} {cs:Array Value} {t:TypeId} (h:w.heap[b]? = some (.cells cs t)) (i:Nat):w.frozen? ⟨b,i,none⟩=false:=by
 unfold World.frozen?
 simp only[h]
 simp
theorem zNj (w:World) (o1 o2 o3:Obj):(((w.alloc o1).alloc o2).alloc o3).heap[w.heap.size]? = some o1∧(((w.alloc o1).alloc o2).alloc o3).heap[w.heap.size+1]? = some o2∧(((w.alloc o1).alloc o2).alloc o3).heap[w.heap.size+2]? = some o3:=by
 refine⟨?_,?_,?_⟩
 all_goals
  show (((w.heap.push _).push _).push _)[_]? = _
  simp only[Array.getElem?_push,Array.size_push]
  repeat first | rw[if_pos (by omega)] | rw[if_neg (by omega)]
 all_goals simp
set_option maxHeartbeats 1600000 in
set_option maxRecDepth 100000 in
theorem zMq (m:Mod) (l:MLit) (vs cs:Value) (w:World) (hm:MArg w vs cs m) :
 Calls Tryz.prog 140 #[modV vs cs m,.agg #[.int .i64 l.var,.int .i64 l.op,.int .i64 l.n]] w fun e w'=>e=.returned (.tuple #[.agg #[.int .i64 (zCQ m l).1.var,.int .i64 (zCQ m l).1.op,.int .i64 (zCQ m l).1.n],.int .i64 (zCQ m l).2])∧Below w.heap.size w w':=by
 have HMA:Hid (∀w':World,Below w.heap.size w w'→MArg w' vs cs m):=fun w' h=>MArg.below h hm
 obtain⟨⟨a1,c1,rfl,_,_⟩,⟨a2,c2,rfl,_,_⟩⟩:=hm
 obtain⟨R,hR⟩:∃R,zCQ m l=R:=⟨_,rfl⟩
 rw[hR]
 obtain⟨er,her⟩:∃er,zCe m l=er:=⟨_,rfl⟩
 have HER:Hid (zCe m l=er):=her
 have HE:Hid (R=if er=0 then (if litE m.vars (oppL l)=0 then (oppL l,0) else (zIb,litE m.vars (oppL l))) else (zIb,er)):=by rw[←hR,←her];rfl
 clear hR her
 unfold modV
 go_enter Tryz.func140,Tryz.ntmps140
 go_wp2_with fail
 refine (zKU m l (.slice a1 m.vars.length c1) (.slice a2 m.cons.length c2) _ ?_).mono ?_
 ·exact HMA.out _ (((zAA _ _).alloc (by simp) _).alloc (by simp;omega) _)
 rintro e w1 ⟨rfl,hb1⟩
 rw[HER.out]
 obtain⟨HA,HB,HC⟩:=zNj w (.cells #[.slice a1 m.vars.length c1,.slice a2 m.cons.length c2,.int .i64 m.goal,.int .i64 m.var] 25) (.cells #[.int .i64 l.var,.int .i64 l.op,.int .i64 l.n] 76) (.cells #[.int .i64 0,.int .i64 0,.int .i64 0] 76)
 have HA1:Hid (w1.heap[w.heap.size]? = _):=(hb1.block _ (by simp;omega)).trans HA
 have HB1':=(hb1.block _ (by simp)).trans HB
 have HC1:Hid (w1.heap[w.heap.size+2]? = _):=(hb1.block _ (by simp)).trans HC
 have g0:=zBx HA1.out 0 _ rfl
 have d0:=zBx HB1' 0 _ rfl
 have d1:=zBx HB1' 1 _ rfl
 have d2:=zBx HB1' 2 _ rfl
 have HB1:Hid (Below w.heap.size w w1):=(((zAA _ _).alloc (by simp) _).alloc (by simp;omega) _).trans (hb1.mono (by simp;omega))
 have hs1:w.heap.size+3≤w1.heap.size:=by simpa using hb1.size
 clear hb1 HA HB HC HB1'
 by_cases he:er=0
 ·subst he
  obtain⟨_,q2,q3⟩:=(zK5 _ _).1 (zK6 m l HER.out).2
  have HN0:Hid (R=if litE m.vars (oppL l)=0 then (oppL l,0) else (zIb,litE m.vars (oppL l))):=by rw[HE.out,if_pos rfl];rfl
  go_wp2_with fail
  refine (zNi l _ q2 q3).mono ?_
  rintro e w2 ⟨rfl,hb2⟩
  have HC2:Hid (w2.heap[w.heap.size+2]? = _):=(hb2.block _ (by omega)).trans HC1.out
  have k0:=(hb2.cell (p:=⟨w.heap.size,0,none⟩) (by simp only;omega)).trans g0
  have HB2:Hid (Below w.heap.size w w2):=HB1.out.trans (hb2.mono HB1.out.size)
  have hs2:w.heap.size+3≤w2.heap.size:=by have:=hb2.size;omega
  have hlt0:w.heap.size<w2.heap.size:=by omega
  obtain⟨o,ho⟩:∃o,oppL l=o:=⟨_,rfl⟩
  rw[ho] at HN0 ⊢
  clear hb2 g0 d0 d1 d2 q2 q3 ho HE HER HC1 HA1
  go_wp2_with fail
  refine (zFa m.vars o _ _ (HMA.out _ (HB2.out.alloc HB2.out.size _)).1).mono ?_
  rintro e w3 ⟨rfl,hb3⟩
  have HC3:=(hb3.block (w.heap.size+2) (by simp;omega)).trans ((Below.heap_alloc _ _ _ (by omega)).trans HC2.out)
  have r0:=zBx HC3 0 _ rfl
  have r1:=zBx HC3 1 _ rfl
  have r2:=zBx HC3 2 _ rfl
  have z0:=zCF HC3 0
  have z1:=zCF HC3 1
  have z2:=zCF HC3 2
  have f0:w3.cell? ⟨w2.heap.size,0,none⟩=some (.int .i64 o.var):=(hb3.cell (by simp)).trans (by simp)
  have f1:w3.cell? ⟨w2.heap.size,1,none⟩=some (.int .i64 o.op):=(hb3.cell (by simp)).trans (by simp)
  have f2:w3.cell? ⟨w2.heap.size,2,none⟩=some (.int .i64 o.n):=(hb3.cell (by simp)).trans (by simp)
  have HB3:Hid (Below w.heap.size w w3):=(HB2.out.alloc HB2.out.size _).trans (hb3.mono (by simp;omega))
  have hs3:w2.heap.size+1≤w3.heap.size:=by simpa using hb3.size
  obtain⟨f,hf⟩:∃f,litE m.vars o=f:=⟨_,rfl⟩
  rw[hf] at HN0 ⊢
  clear hb3 hf HC3 HC2
  by_cases hf0:f=0
  ·subst hf0
   have HN:Hid (R=(o,0)):=by rw[HN0.out,if_pos rfl];rfl
   go_wp2
   refine bodyPost_ret (by simp[results,Tryz.results140,go_sem, *];try rfl) rfl ⟨by rw[HN.out] <;> rfl,?_⟩
   exact ((HB3.out.setCell (by simp only;omega) _).setCell (by simp only;omega) _).setCell (by simp only;omega) _
  ·have HN:Hid (R=(zIb,f)):=by rw[HN0.out,if_neg hf0];rfl
   have he2:(f != 0)=true:=by simpa using hf0
   clear hf0
   go_wp2
   refine bodyPost_ret (by simp[results,Tryz.results140,go_sem, *];try rfl) rfl ⟨by rw[HN.out] <;> rfl,?_⟩
   exact ((HB3.out.setCell (by simp only;omega) _).setCell (by simp only;omega) _).setCell (by simp only;omega) _
 ·have HN:Hid (R=(zIb,er)):=by rw[HE.out,if_neg he];rfl
  have he2:(er != 0)=true:=by simpa using he
  have r0:=zBx HC1.out 0 _ rfl
  have r1:=zBx HC1.out 1 _ rfl
  have r2:=zBx HC1.out 2 _ rfl
  have z0:=zCF HC1.out 0
  have z1:=zCF HC1.out 1
  have z2:=zCF HC1.out 2
  clear he
  go_wp2
  refine bodyPost_ret (by simp[results,Tryz.results140,go_sem, *];try rfl) rfl ⟨by rw[HN.out] <;> rfl,?_⟩
  exact ((HB1.out.setCell (by simp only;omega) _).setCell (by simp only;omega) _).setCell (by simp only;omega) _
def zCP (m:Mod) (l:List Cla) (d:Cla):Int:=if zAP m=0 then (if zDz m.vars l=0 then claE m.vars d else zDz m.vars l) else zAP m
def zBR (m:Mod):Cla→Cla→Cla×Int
 | [],out=>(out,0)
 | x :: r,out=>if (zCQ m x).2=0 then zBR m r (out++[(zCQ m x).1]) else ([],(zCQ m x).2)
def zAL (m:Mod) (l:List Cla) (d:Cla):Cla×Bool×Int :=
 if zCP m l d=0 then
  (if (zBR m d []).2=0 then ((zCr m.vars (l.map (zAF m.vars)) (ptsM m) (zBR m d []).1).1,(zCr m.vars (l.map (zAF m.vars)) (ptsM m) (zBR m d []).1).2,0) else ([],false,(zBR m d []).2))
 else ([],false,zCP m l d)
theorem zE1 (m:Mod):∀(d out:Cla),(zBR m d out).1.length≤out.length+d.length
 | [],out=>by simp[zBR]
 | x :: r,out=>by
   unfold zBR
   split
   ·have:=zE1 m r (out++[(zCQ m x).1])
    rw[List.length_append] at this
    simp at *
    omega
   ·simp
theorem zG3 (vs:List MVar) (c:Cla) (h:claE vs c=0):c.length≤40:=by
 unfold claE at h
 by_cases h1:40<c.length
 ·rw[if_pos h1] at h;cases h
 ·omega
theorem zHy (vs:List MVar) (l:List Cla) (h:zDz vs l=0):l.length≤600:=by
 unfold zDz at h
 by_cases h1:600<l.length
 ·rw[if_pos h1] at h;cases h
 ·omega
theorem zC1 (m:Mod) (l:List Cla) (d:Cla) (h:zCP m l d=0):zAP m=0∧zDz m.vars l=0∧claE m.vars d=0:=by
 unfold zCP at h
 by_cases h1:zAP m=0
 ·rw[if_pos h1] at h
  by_cases h2:zDz m.vars l=0
  ·rw[if_pos h2] at h;exact⟨h1,h2,h⟩
  ·rw[if_neg h2] at h;exact absurd h h2
 ·rw[if_neg h1] at h;exact absurd h h1
set_option maxHeartbeats 800000 in
set_option maxRecDepth 100000 in
theorem zHz (m:Mod) (l:List Cla) (d:Cla) (vs cs u v:Value) (w:World) (hma:MArg w vs cs m) (hu:zA8 w u l) (hv:LArg w v d) :
 Calls Tryz.prog 80 #[modV vs cs m,u,v] w fun e w'=>e=.returned (.int .i64 (zCP m l d))∧Below w.heap.size w w':=by
 have HMA:Hid (∀w':World,Below w.heap.size w w'→MArg w' vs cs m):=fun w' h=>MArg.below h hma
 have HU:Hid (∀w':World,Below w.heap.size w w'→zA8 w' u l):=fun w' h=>zA8.below h hu
 have HV:Hid (∀w':World,Below w.heap.size w w'→LArg w' v d):=fun w' h=>LArg.below h hv
 obtain⟨⟨a1,c1,rfl,_,_⟩,⟨a2,c2,rfl,_,_⟩⟩:=hma
 obtain⟨a3,c3,rfl,_,_⟩:=hu
 obtain⟨a4,c4,rfl,_,_⟩:=hv
 obtain⟨R,hR⟩:∃R,zCP m l d=R:=⟨_,rfl⟩
 rw[hR]
 obtain⟨er,her⟩:∃er,zAP m=er:=⟨_,rfl⟩
 obtain⟨e2,he2⟩:∃e2,zDz m.vars l=e2:=⟨_,rfl⟩
 have HER:Hid (zAP m=er):=her
 have HE2:Hid (zDz m.vars l=e2):=he2
 have HE:Hid (R=if er=0 then (if e2=0 then claE m.vars d else e2) else er):=by show _=_;rw[←hR,←her,←he2];rfl
 unfold modV
 clear hR her he2
 go_enter Tryz.func80,Tryz.ntmps80
 go_wp2_with fail
 refine (zDg m (.slice a1 m.vars.length c1) (.slice a2 m.cons.length c2) _ ?_).mono ?_
 ·exact HMA.out _ (zAA _ _)
 rintro e w1 ⟨rfl,hb1⟩
 rw[HER.out]
 have g0:w1.cell? ⟨w.heap.size,0,none⟩=some (.slice a1 m.vars.length c1):=(hb1.cell (by simp)).trans (by simp)
 have HB1:Hid (Below w.heap.size w w1):=(zAA _ _).trans (hb1.mono (by simp))
 have HL1:Hid (w.heap.size<w1.heap.size):=by have:=hb1.size;simp at this;show _<_;omega
 clear hb1
 by_cases he:er=0
 ·subst he
  go_wp2_with fail
  refine (zKT m.vars l _ _ _ (HMA.out _ HB1.out).1 (HU.out _ HB1.out)).mono ?_
  rintro e w2 ⟨rfl,hb2⟩
  rw[HE2.out]
  have g1:w2.cell? ⟨w.heap.size,0,none⟩=some (.slice a1 m.vars.length c1):=(hb2.cell HL1.out).trans g0
  have HB2:Hid (Below w.heap.size w w2):=HB1.out.trans (hb2.mono HB1.out.size)
  clear hb2 g0
  by_cases hq:e2=0
  ·subst hq
   have HN:Hid (R=claE m.vars d):=HE.out
   go_wp2_with fail
   refine (zHx m.vars d _ _ _ (HMA.out _ HB2.out).1 (HV.out _ HB2.out)).mono ?_
   rintro e w3 ⟨rfl,hb3⟩
   have HB3:Hid (Below w.heap.size w w3):=HB2.out.trans (hb3.mono HB2.out.size)
   clear hb3
   go_wp2
   go_ret
   exact⟨zAI HN.out.symm,HB3.out⟩
  ·have HN:Hid (R=e2):=by have h1:=HE.out;simp only[if_true,if_neg hq] at h1;exact h1
   have hq2:(e2 != 0)=true:=by simpa using hq
   clear hq
   go_wp2
   go_ret
   exact⟨zAI HN.out.symm,HB2.out⟩
 ·have HN:Hid (R=er):=by show _=_;rw[HE.out,if_neg he]
  have he2:(er != 0)=true:=by simpa using he
  clear he
  go_wp2
  go_ret
  exact⟨zAI HN.out.symm,HB1.out⟩
set_option maxHeartbeats 1600000 in
set_option maxRecDepth 100000 in
theorem zMr (m:Mod) (d:Cla) (hd:d.length≤40) (vs cs v:Value) (w:World) (hma:MArg w vs cs m) (hv:LArg w v d) :
 Calls Tryz.prog 81 #[modV vs cs m,v] w fun e w'=>∃x,e=.returned (.tuple #[x,.int .i64 (zBR m d []).2])∧LOwn w.heap.size w' x (zBR m d []).1∧Below w.heap.size w w':=by
 have HMA:Hid (∀w':World,Below w.heap.size w w'→MArg w' vs cs m):=fun w' h=>MArg.below h hma
 have HV:Hid (∀w':World,Below w.heap.size w w'→LArg w' v d):=fun w' h=>LArg.below h hv
 obtain⟨⟨a1,c1,rfl,_,_⟩,⟨a2,c2,rfl,_,_⟩⟩:=hma
 obtain⟨a4,c4,rfl,hm4,_⟩:=hv
 unfold maxLen at hm4
 obtain⟨hm41,hm42⟩:=hm4
 obtain⟨R,hR⟩:∃R,zBR m d []=R:=⟨_,rfl⟩
 have HR:Hid (R=zBR m d []):=hR.symm
 rw[hR]
 unfold modV
 clear hR
 have HB0:Hid (Below w.heap.size w (w.alloc (.cells #[.slice a1 m.vars.length c1,.slice a2 m.cons.length c2,.int .i64 m.goal,.int .i64 m.var] 25))):=zAA _ _
 have HMB:Hid ((w.alloc (.cells #[.slice a1 m.vars.length c1,.slice a2 m.cons.length c2,.int .i64 m.goal,.int .i64 m.var] 25)).heap[w.heap.size]? = some (.cells #[.slice a1 m.vars.length c1,.slice a2 m.cons.length c2,.int .i64 m.goal,.int .i64 m.var] 25)):=heap_alloc_new w _
 go_enter Tryz.func81,Tryz.ntmps81
 go_wp2_with fail
 go_loopw [6,13] (fun o i wr=>∃k:Nat,k≤d.length∧i=.int .i64 k∧Hid (∃out:Cla,out.length=k∧R=zBR m (d.drop k) out∧LOwn w.heap.size wr o out∧Below w.heap.size w wr∧wr.heap[w.heap.size]? = some (.cells #[.slice a1 m.vars.length c1,.slice a2 m.cons.length c2,.int .i64 m.goal,.int .i64 m.var] 25))) (fun _ i _=>d.length - (intOf i).toNat)
 case atStart=>exact⟨0,by omega,rfl,[],rfl,HR.out,World.ownsRow_nil _ _ _ _,HB0.out,HMB.out⟩
 case round =>
  obtain⟨k,hk,rfl,hrest⟩:=hrel
  obtain⟨out,hlo,hst,ho,hbw,hmb⟩:=hrest.out
  have HLO:Hid (out.length=k):=hlo
  have HST:Hid (R=zBR m (d.drop k) out):=hst
  have HO:Hid (LOwn w.heap.size wr u6 out):=ho
  have HBW:Hid (Below w.heap.size w wr):=hbw
  have HMBW:Hid (wr.heap[w.heap.size]? = some (.cells #[.slice a1 m.vars.length c1,.slice a2 m.cons.length c2,.int .i64 m.goal,.int .i64 m.var] 25)):=hmb
  obtain⟨ao,co,hu6⟩:=zAE (show wr.ownsRow _ _ _ _ _ _ from ho)
  rw[hlo] at hu6
  subst hu6
  have k0:wr.cell? ⟨w.heap.size,0,none⟩=some (.slice a1 m.vars.length c1):=blk9 hmb 0 _ rfl
  have k1:wr.cell? ⟨w.heap.size,1,none⟩=some (.slice a2 m.cons.length c2):=blk9 hmb 1 _ rfl
  have k2:wr.cell? ⟨w.heap.size,2,none⟩=some (.int .i64 m.goal):=blk9 hmb 2 _ rfl
  have k3:wr.cell? ⟨w.heap.size,3,none⟩=some (.int .i64 m.var):=blk9 hmb 3 _ rfl
  have kl:w.heap.size<wr.heap.size:=(Array.getElem?_eq_some_iff.1 hmb).1
  clear hlo hst ho hbw hmb hrest
  by_cases hlt:k<d.length
  ·obtain⟨t,ht⟩:∃t,d[k]? = some t:=⟨d[k],by simp[hlt]⟩
   obtain⟨q4,n4,he4,_,hr4⟩:=HV.out _ HBW.out
   injection he4 with he4 he5 he6
   clear he5 he6
   obtain⟨b4,o4,ha4,hb4,t0,t1,t2⟩:=hr4 k t ht
   rw[ha4] at he4
   subst he4
   have HDK:Hid (d.drop k=t :: d.drop (k+1)):=by
    show _=_
    have e:d[k]=t:=by rw[List.getElem?_eq_getElem hlt] at ht;exact Option.some.inj ht
    rw[List.drop_eq_getElem_cons hlt,e]
   have HNT:Hid (∀Y,Below w.heap.size w Y→Calls Tryz.prog 140 #[.agg #[.slice a1 m.vars.length c1,.slice a2 m.cons.length c2,.int .i64 m.goal,.int .i64 m.var],.agg #[.int .i64 t.var,.int .i64 t.op,.int .i64 t.n]] Y fun e w'=>e=.returned (.tuple #[.agg #[.int .i64 (zCQ m t).1.var,.int .i64 (zCQ m t).1.op,.int .i64 (zCQ m t).1.n],.int .i64 (zCQ m t).2])∧Below Y.heap.size Y w'):=fun Y hY=>zMq m t _ _ Y (HMA.out Y hY)
   obtain⟨NL,NE,hN⟩:∃NL NE,zCQ m t=(NL,NE):=⟨_,_,rfl⟩
   have HSTN:Hid (R=if NE=0 then zBR m (d.drop (k+1)) (out++[NL]) else ([],NE)):=by show _=_;rw[HST.out,HDK.out];show (if (zCQ m t).2=0 then zBR m (d.drop (k+1)) (out++[(zCQ m t).1]) else ([],(zCQ m t).2))=_;rw[hN]
   rw[hN] at HNT
   dsimp only at HNT
   obtain⟨nv,hnv⟩:∃nv,NL.var=nv:=⟨_,rfl⟩
   obtain⟨no,hno⟩:∃no,NL.op=no:=⟨_,rfl⟩
   obtain⟨nn,hnn⟩:∃nn,NL.n=nn:=⟨_,rfl⟩
   have HNL:Hid (NL=⟨nv,no,nn⟩):=by show _=_;rw[←hnv,←hno,←hnn]
   rw[hnv,hno,hnn] at HNT
   have HBX:Hid (Below w.heap.size w (wr.alloc (.cells #[.int .i64 t.var,.int .i64 t.op,.int .i64 t.n] 76))):=HBW.out.alloc HBW.out.size _
   clear hr4 ht ha4 hN hnv hno hnn
   go_wp2_with fail
   refine (HNT.out _ HBX.out).mono ?_
   rintro e w2 ⟨rfl,hb2⟩
   have HBR:Hid (Below wr.heap.size wr w2):=(zAA _ _).trans (hb2.mono (by simp))
   have HB2:Hid (Below w.heap.size w w2):=HBW.out.trans (HBR.out.mono HBW.out.size)
   have HO2:Hid (LOwn w.heap.size w2 (.slice ao k co) out):=zAD HO.out HBR.out
   have HM2:Hid (w2.heap[w.heap.size]? = some (.cells #[.slice a1 m.vars.length c1,.slice a2 m.cons.length c2,.int .i64 m.goal,.int .i64 m.var] 25)):=(HBR.out.block _ kl).trans HMBW.out
   clear hb2 k0 k1 k2 k3 t0 t1 t2
   by_cases hne:NE=0
   ·subst hne
    have HN2:Hid (R=zBR m (d.drop (k+1)) (out++[NL])):=HSTN.out
    have HSA:Hid (LOwn w.heap.size ((w2.alloc (.cells #[.int .i64 nv,.int .i64 no,.int .i64 nn] 76)).alloc (.cells #[.int .i64 nv,.int .i64 no,.int .i64 nn] 76)) (.slice ao k co) out):=World.ownsRow.alloc (World.ownsRow.alloc HO2.out _) _
    have HOA:Hid (((w2.alloc (.cells #[.int .i64 nv,.int .i64 no,.int .i64 nn] 76)).alloc (.cells #[.int .i64 nv,.int .i64 no,.int .i64 nn] 76)).ownsRow w.heap.size 76 3 (.slice ao k co) k (zA1 out)):=by have:=HSA.out;unfold LOwn at this;rw[HLO.out] at this;exact this
    have hs2:=HB2.out.size
    obtain⟨i0,hi0,hz0,hz1,hz2⟩:=info_parts Tryz.infoLit
    go_wp2_with (at_builtin;refine wpList_append_own _ rfl _ _ 28 rfl w.heap.size 76 i0 (.agg #[.int .i64 0,.int .i64 0,.int .i64 0]) 3 24 zBg hi0 hz0 hz1 hz2 rfl (by decide) _ _ _ rfl HOA.out ⟨w2.heap.size+1,0,none⟩ 1 1 (zCh ⟨nv,no,nn⟩) rfl rfl ?c0 (by intro u hu;simp[zCh] at hu;rcases hu with rfl | rfl | rfl <;> rfl) ?c1 ?c2 ?c3 ?_)
    case c0 =>
     have h1:=zJc (w2.alloc (.cells #[.int .i64 nv,.int .i64 no,.int .i64 nn] 76)) ⟨nv,no,nn⟩
     rw[World.size_alloc] at h1
     exact h1
    case c1=>unfold maxLen;omega
    case c2=>omega
    case c3=>simp;omega
    intro v6 w6 hown6 hg6 _
    have HO6:Hid (LOwn w.heap.size w6 v6 (out++[NL])):=by
     show World.ownsRow _ _ _ _ _ _ _
     rw[HNL.out]
     unfold zA1
     rw[List.length_append,HLO.out,List.flatMap_append]
     simpa[zA1] using hown6
    have HBA:Hid (Below w2.heap.size w2 ((w2.alloc (.cells #[.int .i64 nv,.int .i64 no,.int .i64 nn] 76)).alloc (.cells #[.int .i64 nv,.int .i64 no,.int .i64 nn] 76))):=(zAA _ _).alloc (by simp) _
    have HB6:Hid (Below w.heap.size w w6):=(HB2.out.trans (HBA.out.mono hs2)).grown hg6 (by simp;omega) (fun g hg=>(HOA.out.lt g hg).1)
    have HM6:Hid (w6.heap[w.heap.size]? = some (.cells #[.slice a1 m.vars.length c1,.slice a2 m.cons.length c2,.int .i64 m.goal,.int .i64 m.var] 25)):=zB0 ((HBA.out.block _ (Array.getElem?_eq_some_iff.1 HM2.out).1).trans HM2.out) hg6 HOA.out (by decide)
    have HL6:Hid ((out++[NL]).length=k+1):=by show _=_;rw[List.length_append,HLO.out];rfl
    obtain⟨a9,c9,rfl⟩:=zAE hown6
    clear hown6 hg6
    go_wp2
    go_roundw
    case rel=>exact⟨k+1,by omega,by go_num,out++[NL],HL6.out,HN2.out,HO6.out,HB6.out,HM6.out⟩
    case measure=>simp[intOf];omega
   ·have HN2:Hid (R=([],NE)):=by show _=_;rw[HSTN.out,if_neg hne]
    have hne2:(NE != 0)=true:=by simpa using hne
    clear hne
    go_wp2
    go_ret2
    exact⟨_,by rw[HN2.out];rfl,by rw[HN2.out];exact World.ownsRow_nil _ _ _ _,Below.alloc HB2.out HB2.out.size _⟩
  ·have HE:Hid (R=(out,0)):=by show _=_;rw[HST.out,List.drop_eq_nil_of_le (by omega)];rfl
   go_wp2
   go_ret2
   exact⟨_,by rw[HE.out];rfl,by rw[HE.out];exact HO.out,HBW.out⟩
end Go.Proofs.YtndcpnlaadikoaaGreatDoor
