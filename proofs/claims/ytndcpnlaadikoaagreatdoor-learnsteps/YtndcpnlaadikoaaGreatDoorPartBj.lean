/- What the proof leans on, part 36. -/
import Derived.Test.YtndcpnlaadikoaaGreatDoorPartBi
import Derived.Test.YtndcpnlaadikoaaGreatDoorPartBg
namespace Go.Proofs.YtndcpnlaadikoaaGreatDoor
open Go.RowKit
theorem zNG (s:Sto) (hbd:∀r∈s,∀x∈r,-50≤x∧x≤50):∀(scope vals:List Int) (n:Nat),(∀x∈vals,-50≤x∧x≤50)→∀x∈(chN s scope vals n).1,-50≤x∧x≤50
 | [],vals,n,h=>h
 | v :: r,vals,n,h=>by
   unfold chN
   refine zNG s hbd r _ _ fun x hx=>?_
   rcases List.mem_or_eq_of_mem_set hx with hx | rfl
   ·exact h x hx
   ·rw[List.getD_eq_getElem?_getD (l:=List.getD s v.toNat [])]
    cases hg:(List.getD s v.toNat [])[n % (List.getD s v.toNat []).length]? with
    | none=>exact⟨by decide,by decide⟩
    | some z =>
      have hz:=List.mem_of_getElem? hg
      rw[List.getD_eq_getElem?_getD] at hz
      cases hg2:s[v.toNat]? with
      | none=>rw[hg2] at hz;cases hz
      | some q=>rw[hg2] at hz;exact hbd q (List.mem_of_getElem? hg2) z hz
theorem zOA (s:Sto) (hbd:∀r∈s,∀x∈r,-50≤x∧x≤50) (scope:List Int) (n:Nat):∀x∈uN s scope n,-50≤x∧x≤50 :=
 zNG s hbd _ _ _ fun x hx=>by rw[List.eq_of_mem_replicate hx];exact⟨by decide,by decide⟩
theorem zNH (s:Sto) (scope:List Int) (n:Nat):(uN s scope n).length=s.length:=by
 unfold uN;rw[zLn];simp[zAN]
def ZOut (s:Sto) (scope vals:List Int):Prop:=vals.length=s.length∧∀w:Nat,(∀v∈scope,v.toNat≠w)→vals[w]? = (zAN s.length)[w]?
theorem ZOut.zero (s:Sto) (scope:List Int):ZOut s scope (zAN s.length):=⟨by simp[zAN],fun _ _=>rfl⟩
theorem ZOut.next {s:Sto} {scope vals:List Int} (h:ZOut s scope vals) (n:Nat):(chN s scope vals n).1=uN s scope n:=zJl s scope vals _ n (by rw[h.1];simp[zAN]) h.2
theorem ZOut.uN (s:Sto) (scope:List Int) (n:Nat):ZOut s scope (uN s scope n):=⟨zNH s scope n,fun w hw=>zLo s scope _ n w hw⟩
theorem zLq (n:Nat):(zAN n).map (Value.int .i64)=List.replicate n (.int .i64 0):=by simp[zAN]
theorem zJp {w:World} {base n:Nat} {v:Value} {r:List Int} (h:w.ownsRow base 3 1 v n (r.map (Value.int .i64))) (hn:r.length=n):IArg w v r:=by subst hn;exact zCW h
theorem zLr (w:World) (l:MLit):LOwn w.heap.size (w.alloc (.cells #[.int .i64 l.var,.int .i64 l.op,.int .i64 l.n] 76)) (.slice (some ⟨w.heap.size,0,none⟩) 1 1) [l] :=
 ⟨rfl,.inr ⟨w.heap.size,1,_,rfl,Nat.le_refl _,heap_alloc_new _ _,Nat.le_refl _,by decide,rfl,rfl⟩⟩
theorem Tryz.underLits6:Tryz.prog.underlying 27=some (.slice 76):=by kernel_rfl
set_option maxHeartbeats 6400000 in
set_option maxRecDepth 100000 in
theorem zI1 (m:Mod) (hm:zAP m=0) (j:Nat) (k:MCon) (hk:m.cons[j]? = some k) (s:Sto) (hlen:s.length=m.vars.length) (hrow:∀r∈s,r.length≤6) (hbd:∀r∈s,∀x∈r,-50≤x∧x≤50)
 (vs cs v:Value) (w:World) (hma:MArg w vs cs m) (hv:RArg w v s) :
 Calls Tryz.prog 94 #[modV vs cs m,.int .i64 (j:Int),v] w fun e w'=>∃x,e=.returned x∧RArg w' x (zAp k s)∧Below w.heap.size w w':=by
 have h6:s.length≤6:=by rw[hlen];exact (zAo m hm).2.1
 have H6M:Hid (m.vars.length≤6):=(zAo m hm).2.1
 have hjl:=(List.getElem?_eq_some_iff.1 hk).1
 have HLEN:Hid (s.length=m.vars.length):=hlen
 have HCE:Hid (conE s.length k=0):=by rw[hlen];exact zHL m hm j k hk
 have HSI:Hid ((∀v∈zAO k,0≤v∧v<(s.length:Int))∧(k.kind=10→k.lits≠[])):=by rw[hlen];exact zD5 m hm j k hk
 have HROW:Hid (∀r∈s,r.length≤6):=hrow
 have HBD:Hid (∀r∈s,∀x∈r,-50≤x∧x≤50):=hbd
 have HV:Hid (RArg w v s):=hv
 have HMA:Hid (MArg w vs cs m):=hma
 obtain⟨⟨a,cap,rfl,_,_⟩,⟨a0,c0,rfl,⟨hm01,hm0⟩,hr0⟩⟩:=hma
 obtain⟨a1,c1,rfl,⟨hm11,hm1⟩,_⟩:=hv
 unfold maxLen at hm0 hm1
 obtain⟨b0,o0,vv,vc,vr,vl,rfl,hb0,e0,e1,e2,e3,e4,e5,hka⟩:=hr0 j k hk
 have HKA:Hid (KArg w vv vc vr vl k):=hka
 obtain⟨⟨a2,c2,rfl,_,_⟩,⟨a3,c3,rfl,_,_⟩,⟨a4,c4,rfl,_,_⟩,⟨a5,c5,rfl,_,_⟩⟩:=hka
 obtain⟨i0,hi,hz0,hz1,hz2⟩:=info_parts Tryz.infoInt
 unfold modV
 clear hr0 hm hlen hrow hbd hk
 go_enter Tryz.func94,Tryz.ntmps94
 go_wp2_with fail
 have HB0:Hid (Below w.heap.size w (w.alloc (.cells #[.slice a m.vars.length cap,.slice (some ⟨b0,o0,none⟩) m.cons.length c0,.int .i64 m.goal,.int .i64 m.var] 25))):=zAA _ _
 have HN:Hid ((w.alloc (.cells #[.slice a m.vars.length cap,.slice (some ⟨b0,o0,none⟩) m.cons.length c0,.int .i64 m.goal,.int .i64 m.var] 25)).heap[w.heap.size]? = some (.cells #[.slice a m.vars.length cap,.slice (some ⟨b0,o0,none⟩) m.cons.length c0,.int .i64 m.goal,.int .i64 m.var] 25)):=heap_alloc_new _ _
 obtain⟨W,hW⟩:∃W,w.alloc (.cells #[.slice a m.vars.length cap,.slice (some ⟨b0,o0,none⟩) m.cons.length c0,.int .i64 m.goal,.int .i64 m.var] 25)=W:=⟨_,rfl⟩
 rw[hW] at HB0 HN ⊢
 clear hW
 replace HV:Hid (RArg W (.slice a1 s.length c1) s):=RArg.below HB0.out HV.out
 replace HMA:Hid (MArg W (.slice a m.vars.length cap) (.slice (some ⟨b0,o0,none⟩) m.cons.length c0) m):=MArg.below HB0.out HMA.out
 replace HKA:Hid (KArg W (.slice a2 k.vars.length c2) (.slice a3 k.consts.length c3) (.slice a4 k.rows.length c4) (.slice a5 k.lits.length c5) k):=KArg.below HB0.out HKA.out
 have f0:=(HB0.out.cell (p:=⟨b0,o0+j * 6,none⟩) hb0).trans e0
 have f1:=(HB0.out.cell (p:=⟨b0,o0+j * 6+1,none⟩) hb0).trans e1
 have f2:=(HB0.out.cell (p:=⟨b0,o0+j * 6+2,none⟩) hb0).trans e2
 have f3:=(HB0.out.cell (p:=⟨b0,o0+j * 6+3,none⟩) hb0).trans e3
 have f4:=(HB0.out.cell (p:=⟨b0,o0+j * 6+4,none⟩) hb0).trans e4
 have f5:=(HB0.out.cell (p:=⟨b0,o0+j * 6+5,none⟩) hb0).trans e5
 have lb0:=Nat.lt_of_lt_of_le hb0 HB0.out.size
 have l0:=(Array.getElem?_eq_some_iff.1 HN.out).1
 have q0:W.cell? ⟨w.heap.size,0,none⟩=some (.slice a m.vars.length cap):=blk9 HN.out 0 _ rfl
 have q1:W.cell? ⟨w.heap.size,1,none⟩=some (.slice (some ⟨b0,o0,none⟩) m.cons.length c0):=blk9 HN.out 1 _ rfl
 have q2:W.cell? ⟨w.heap.size,2,none⟩=some (.int .i64 m.goal):=blk9 HN.out 2 _ rfl
 have q3:W.cell? ⟨w.heap.size,3,none⟩=some (.int .i64 m.var):=blk9 HN.out 3 _ rfl
 clear e0 e1 e2 e3 e4 e5 hb0
 refine (zAk s _ _ HV.out).mono ?_
 rintro e W ⟨rfl,rfl⟩
 cases hf:zAG s
 ·go_wp2_with fail
  have HB1:Hid (Below W.heap.size W (W.alloc (.cells #[.int .i64 k.kind,.slice a2 k.vars.length c2,.slice a3 k.consts.length c3,.int .i64 k.n,.slice a4 k.rows.length c4,.slice a5 k.lits.length c5] 69))):=zAA _ _
  have HN1:Hid ((W.alloc (.cells #[.int .i64 k.kind,.slice a2 k.vars.length c2,.slice a3 k.consts.length c3,.int .i64 k.n,.slice a4 k.rows.length c4,.slice a5 k.lits.length c5] 69)).heap[W.heap.size]? = some (.cells #[.int .i64 k.kind,.slice a2 k.vars.length c2,.slice a3 k.consts.length c3,.int .i64 k.n,.slice a4 k.rows.length c4,.slice a5 k.lits.length c5] 69)):=heap_alloc_new _ _
  obtain⟨W1,hW1⟩:∃W1,W.alloc (.cells #[.int .i64 k.kind,.slice a2 k.vars.length c2,.slice a3 k.consts.length c3,.int .i64 k.n,.slice a4 k.rows.length c4,.slice a5 k.lits.length c5] 69)=W1:=⟨_,rfl⟩
  rw[hW1] at HB1 HN1 ⊢
  clear hW1 f0 f1 f2 f3 f4 f5 q0 q1 q2 q3 lb0 l0
  obtain⟨C,hC⟩:∃C,W.heap.size=C:=⟨_,rfl⟩
  have HBA:Hid (Below w.heap.size w W1):=HB0.out.trans (HB1.out.mono HB0.out.size)
  have HVA:Hid (RArg W1 (.slice a1 s.length c1) s):=RArg.below HB1.out HV.out
  have HMB:Hid (MArg W1 (.slice a m.vars.length cap) (.slice (some ⟨b0,o0,none⟩) m.cons.length c0) m):=MArg.below HB1.out HMA.out
  have HKB:Hid (KArg W1 (.slice a2 k.vars.length c2) (.slice a3 k.consts.length c3) (.slice a4 k.rows.length c4) (.slice a5 k.lits.length c5) k):=KArg.below HB1.out HKA.out
  rw[hC] at HN1 ⊢
  clear hC HB1 HB0 HV HMA HKA HN
  refine (zKa m k _ _ _ _ _ _ W1 H6M.out HMB.out HKB.out).mono ?_
  rintro e B ⟨xv,rfl,hx,hbB⟩
  have HBB:Hid (Below w.heap.size w B):=HBA.out.trans (hbB.mono HBA.out.size)
  have HVB:Hid (RArg B (.slice a1 s.length c1) s):=RArg.below hbB HVA.out
  have HKC:Hid (KArg B (.slice a2 k.vars.length c2) (.slice a3 k.consts.length c3) (.slice a4 k.rows.length c4) (.slice a5 k.lits.length c5) k):=KArg.below hbB HKB.out
  have HCB:Hid (B.heap[C]? = some (.cells #[.int .i64 k.kind,.slice a2 k.vars.length c2,.slice a3 k.consts.length c3,.int .i64 k.n,.slice a4 k.rows.length c4,.slice a5 k.lits.length c5] 69)):=(hbB.block _ (Array.getElem?_eq_some_iff.1 HN1.out).1).trans HN1.out
  have HSC:Hid (IArg B xv (zBC s.length k)):=by rw[HLEN.out];exact hx
  clear hx hbB HBA HVA HMB HKB HN1
  obtain⟨S,hS⟩:∃S,zBC s.length k=S:=⟨_,rfl⟩
  have HS:Hid (zBC s.length k=S):=hS
  rw[hS] at HSC
  clear hS
  obtain⟨ax,cx,hxf,⟨hmx1,hmx⟩,_⟩:=HSC.out
  subst hxf
  unfold maxLen at hmx
  obtain⟨wm,hrun,hown,hbm⟩:=zHM s.length (by omega) B
  obtain⟨V,hV⟩:∃V,B.heap.size=V:=⟨_,rfl⟩
  have HVS:Hid (V=B.heap.size):=hV.symm
  have HC:Hid (∀Y,Below B.heap.size B Y→C<Y.heap.size∧Y.cell? ⟨C,0,none⟩=some (.int .i64 k.kind)∧Y.cell? ⟨C,1,none⟩=some (.slice a2 k.vars.length c2)∧Y.cell? ⟨C,2,none⟩=some (.slice a3 k.consts.length c3)∧Y.cell? ⟨C,3,none⟩=some (.int .i64 k.n)∧Y.cell? ⟨C,4,none⟩=some (.slice a4 k.rows.length c4)∧Y.cell? ⟨C,5,none⟩=some (.slice a5 k.lits.length c5)):=fun Y hY=>by
   have hN:=(hY.block _ (Array.getElem?_eq_some_iff.1 HCB.out).1).trans HCB.out
   exact⟨(Array.getElem?_eq_some_iff.1 hN).1,blk9 hN 0 _ rfl,blk9 hN 1 _ rfl,blk9 hN 2 _ rfl,blk9 hN 3 _ rfl,blk9 hN 4 _ rfl,blk9 hN 5 _ rfl⟩
  have HOW0:Hid (wm.ownsRow B.heap.size 3 1 (.slice (some ⟨V,0,none⟩) s.length s.length) s.length ((zAN s.length).map (Value.int .i64))):=by
   show wm.ownsRow _ _ _ _ _ _
   rw[zLq,←hV];exact hown
  have HBM:Hid (Below B.heap.size B wm):=hbm
  have HBW:Hid (Below w.heap.size w wm):=HBB.out.trans (hbm.mono HBB.out.size)
  rw[hV] at hrun
  clear hown hbm hV HCB
  have HF:Hid (zAG s=false):=hf
  clear hf
  have HSM:Hid (∀v,v∈S↔v∈zAO k):=fun v=>by rw[←HS.out];exact zEb s.length k HSI.out.1 v
  have HZB:Hid (∀x∈zAN s.length,-50≤x∧x≤50):=fun x hx=>by rw[List.eq_of_mem_replicate hx];exact⟨by decide,by decide⟩
  by_cases hS0:S.length=0
  ·obtain⟨lC,g0,g1,g2,g3,g4,g5⟩:=HC.out _ HBM.out
   have t0:((S.length:Int)==0)=true:=by rw[hS0];rfl
   obtain⟨R,hR⟩:∃R,zAV k (zAN s.length)=R:=⟨_,rfl⟩
   have HFV:Hid (zAp k s=if R then s else zB4 s.length):=by
    show _=_
    rw[←hR]
    refine zI0 k s HF.out ?_
    cases hq:zAO k with
    | nil=>rfl
    | cons x r =>
      have hx:x∈S:=(HSM.out x).2 (by rw[hq];exact List.mem_cons_self ..)
      rw[List.eq_nil_of_length_eq_zero hS0] at hx
      cases hx
   clear hS0
   go_wp2_with fail
   refine (zGT k (zAN s.length) _ _ _ _ _ wm (KArg.below HBM.out HKC.out) (zJp HOW0.out (by simp[zAN])) (by rw[show (zAN s.length).length=s.length by simp[zAN]];exact HCE.out) HZB.out).mono ?_
   rintro e w4 ⟨rfl,hb4⟩
   have HB4:Hid (Below w.heap.size w w4):=HBW.out.trans (hb4.mono HBW.out.size)
   have HV4:Hid (RArg w4 (.slice a1 s.length c1) s):=RArg.below hb4 (RArg.below HBM.out HVB.out)
   clear hb4 g0 g1 g2 g3 g4 g5 lC hrun
   rw[hR]
   clear hR
   cases R
   ·go_wp2_with fail
    refine (zCa s.length (by omega) w4).mono ?_
    rintro e w5 ⟨x5,rfl,hx5,hb5⟩
    go_wp2
    go_ret
    exact⟨_,rfl,by rw[HFV.out];exact hx5,HB4.out.trans (hb5.mono HB4.out.size)⟩
   ·go_wp2
    go_ret
    exact⟨_,rfl,by rw[HFV.out];exact HV4.out,HB4.out⟩
  ·have t0:((S.length:Int)==0)=false:=by simp only[beq_eq_false_iff_ne,ne_eq];omega
   have HSN:Hid ((zAO k).length≠0):=by
    intro h
    apply hS0
    cases hq:S with
    | nil=>rfl
    | cons x r =>
      have hx:x∈zAO k:=(HSM.out x).1 (by rw[hq];exact List.mem_cons_self ..)
      rw[List.eq_nil_of_length_eq_zero h] at hx
      cases hx
   have hS6:S.length≤6:=by
    rw[←HS.out];unfold zBC
    exact Nat.le_trans (List.length_filter_le _ _) (by rw[zG4];exact h6)
   have HNE:Hid (∀r∈s,r≠[]):=fun r hr he=>by
    have h:=HF.out
    unfold zAG at h
    rw[List.any_eq_false] at h
    have:=h r hr
    rw[he] at this
    simp at this
   have HIN:Hid (∀x∈S,0≤x∧x<(s.length:Int)):=fun x hx=>HSI.out.1 x ((HSM.out x).1 hx)
   have HND:Hid (∀v∈S,s.getD v.toNat []≠[]):=fun v hv=>by
    obtain⟨h0,h1⟩:=HIN.out v hv
    have h2:v.toNat<s.length:=by omega
    rw[List.getD_eq_getElem?_getD,List.getElem?_eq_getElem h2,Option.getD_some]
    exact HNE.out _ (List.getElem_mem h2)
   obtain⟨P,hP⟩:∃P,zC5 s S=P:=⟨_,rfl⟩
   have HP:Hid (zC5 s S=P):=hP
   have hP0:0<P:=by rw[←hP];exact zH5 s S HND.out
   have hP6:P≤46656:=by
    rw[←hP]
    exact Nat.le_trans (zJn s HROW.out S) (Nat.le_trans (Nat.pow_le_pow_right (by omega) hS6) (by decide))
   clear hP hS0
   go_wp2_with fail
   clear hrun
   go_loopw [10,11,12,13] (fun o i _ _ wr=>∃(n:Nat) (met:Cla) (vals:List Int),n≤P∧i=.int .i64 n∧met.length≤6 * n∧LOwn B.heap.size wr o met∧Hid (zFe k s S n met∧ZOut s S vals)∧wr.ownsRow B.heap.size 3 1 (.slice (some ⟨V,0,none⟩) s.length s.length) s.length (vals.map (Value.int .i64))∧Below B.heap.size B wr) (fun _ i _ _ _=>P - (intOf i).toNat)
   case atStart=>exact⟨0,[],zAN s.length,by omega,rfl,by simp,World.ownsRow_nil _ _ _ _,⟨zKd _ _ _,ZOut.zero _ _⟩,HOW0.out,HBM.out⟩
   case round =>
    obtain⟨n,met,vals,hn,rfl,hml,hlo,hmz,hrw,hbw⟩:=hrel
    have HLO:Hid (LOwn B.heap.size wr u10 met):=hlo
    have HMZ:Hid (zFe k s S n met∧ZOut s S vals):=hmz
    have HRW:Hid (wr.ownsRow B.heap.size 3 1 (.slice (some ⟨V,0,none⟩) s.length s.length) s.length (vals.map (Value.int .i64))):=hrw
    have HBR:Hid (Below B.heap.size B wr):=hbw
    obtain⟨am,cm,rfl⟩:=zAE hlo
    have hml6:met.length≤280000:=by omega
    clear hlo hmz hrw hbw
    go_wp2_with fail
    refine (zKb s S vals n V s.length _ _ B wr HVB.out HSC.out HBR.out HRW.out HIN.out HNE.out (by omega)).mono ?_
    rintro e w3 ⟨rfl,hr3,hf3⟩
    have HL3:Hid (LOwn B.heap.size w3 (.slice am met.length cm) met):=zNp HLO.out HRW.out hf3
    have HR3:Hid (w3.ownsRow B.heap.size 3 1 (.slice (some ⟨V,0,none⟩) s.length s.length) s.length ((uN s S n).map (Value.int .i64))):=by
     show w3.ownsRow _ _ _ _ _ _
     rw[←HMZ.out.2.next n];exact hr3
    have HB3:Hid (Below B.heap.size B w3):=⟨hf3.os.trans HBR.out.os,hf3.tape.trans HBR.out.tape,hf3.output.trans HBR.out.output,Nat.le_trans HBR.out.size hf3.size,fun q hq=>(hf3.block q (Nat.lt_of_lt_of_le hq HBR.out.size) (by have:=HVS.out;omega)).trans (HBR.out.block q hq)⟩
    have HTW:Hid ((chN s S vals n).2=n / P):=by show _=_;rw[zLm,HP.out]
    clear hr3 hf3
    by_cases hlt:n<P
    ·have ht:((chN s S vals n).2==0)=true:=by rw[HTW.out,Nat.div_eq_of_lt hlt];rfl
     rw[ht]
     clear ht HTW
     obtain⟨lC,g0,g1,g2,g3,g4,g5⟩:=HC.out _ HB3.out
     obtain⟨U,hU⟩:∃U,uN s S n=U:=⟨_,rfl⟩
     have HU:Hid (uN s S n=U):=hU
     have hUl:U.length=s.length:=by rw[←hU];exact zNH s S n
     have HUL:Hid (U.length=s.length):=hUl
     have HUB:Hid (∀x∈U,-50≤x∧x≤50):=fun x hx=>by rw[←hU] at hx;exact zOA s HBD.out S n x hx
     rw[hU] at HR3
     clear hU hUl
     obtain⟨R,hR⟩:∃R,zAV k U=R:=⟨_,rfl⟩
     have HR:Hid (zAV k (uN s S n)=R):=by rw[HU.out];exact hR
     go_wp2_with fail
     refine (zGT k U _ _ _ _ _ w3 (KArg.below HB3.out HKC.out) (zJp HR3.out HUL.out) (by rw[HUL.out];exact HCE.out) HUB.out).mono ?_
     rintro e w4 ⟨rfl,hb4⟩
     have HB4:Hid (Below B.heap.size B w4):=HB3.out.trans (hb4.mono HB3.out.size)
     have HL4:Hid (LOwn B.heap.size w4 (.slice am met.length cm) met):=zAD HL3.out hb4
     have HR4:Hid (w4.ownsRow B.heap.size 3 1 (.slice (some ⟨V,0,none⟩) s.length s.length) s.length (U.map (Value.int .i64))):=zAD HR3.out hb4
     clear hb4 g0 g1 g2 g3 g4 g5 lC
     rw[hR]
     clear hR
     cases R
     ·go_wp2
      go_roundw
      case rel=>exact⟨n+1,met,U,by omega,by go_num,by omega,HL4.out,⟨zKe HMZ.out.1 HR.out,HU.out▸ZOut.uN s S n⟩,HR4.out,HB4.out⟩
      case measure=>simp[intOf];omega
     ·go_wp2_with fail
      go_loopw [10,12,13] (fun o i _ wr=>∃(q:Nat) (mt:Cla),q≤S.length∧i=.int .i64 q∧mt.length≤met.length+q∧LOwn B.heap.size wr o mt∧Hid (MetI k s S n q mt)∧wr.ownsRow B.heap.size 3 1 (.slice (some ⟨V,0,none⟩) s.length s.length) s.length (U.map (Value.int .i64))∧Below B.heap.size B wr) (fun _ i _ _=>S.length - (intOf i).toNat)
      case atStart=>exact⟨0,met,by omega,rfl,by omega,HL4.out,zKf HMZ.out.1,HR4.out,HB4.out⟩
      case round =>
       obtain⟨q,mt,hq,rfl,hmt,hlo,hmi,hrw,hbw⟩:=hrel
       have HLO:Hid (LOwn B.heap.size wr u10 mt):=hlo
       have HMI:Hid (MetI k s S n q mt):=hmi
       have HRW:Hid (wr.ownsRow B.heap.size 3 1 (.slice (some ⟨V,0,none⟩) s.length s.length) s.length (U.map (Value.int .i64))):=hrw
       have HBR:Hid (Below B.heap.size B wr):=hbw
       obtain⟨an,cn,rfl⟩:=zAE hlo
       by_cases hlq:q<S.length
       ·obtain⟨x,hx⟩:∃x,S[q]? = some x:=⟨S[q],by simp[hlq]⟩
        have HX:Hid (S[q]? = some x):=hx
        obtain⟨hx0,hx1⟩:=HIN.out x (List.mem_of_getElem? hx)
        obtain⟨y,rfl⟩:∃y:Nat,x=(y:Int):=⟨x.toNat,by omega⟩
        have hyl:y<s.length:=by omega
        have hyU:y<U.length:=by have:=HUL.out;omega
        obtain⟨z,hz⟩:∃z,U[y]? = some z:=⟨U[y],by simp[hyU]⟩
        have HZ:Hid (zAX (uN s S n) (y:Int)=z):=by rw[HU.out];exact zCH U y z hz
        obtain⟨_,_,hs2,_,hr2⟩:=IArg.below hbw HSC.out
        cases hs2
        obtain⟨b2,o2,hb2,hbl2,e2⟩:=hr2 q _ hx
        subst hb2
        have hcv:wr.cell? ⟨V,y,none⟩=some (.int .i64 z):=by rw[hrw.cellAt y (by omega),List.getElem?_map,hz];rfl
        have lV:V<wr.heap.size:=(hrw.lt V rfl).2
        clear hr2 hx hz hlo hmi hrw hbw hx0 hx1 hyU
        go_wp2_with fail
        go_cut [13] (fun p wx=>∃L,p=.pointer (some ⟨L,0,none⟩)∧Hid (wx.heap[L]? = some (.cells #[.int .i64 (y:Int),.int .i64 0,.int .i64 z] 76))∧Hid (Below wr.heap.size wr wx))
        case first =>
         have HAL:Hid ((wr.alloc (.cells #[.int .i64 (y:Int),.int .i64 0,.int .i64 z] 76)).heap[wr.heap.size]? = some (.cells #[.int .i64 (y:Int),.int .i64 0,.int .i64 z] 76)):=heap_alloc_new _ _
         have HAB:Hid (Below wr.heap.size wr (wr.alloc (.cells #[.int .i64 (y:Int),.int .i64 0,.int .i64 z] 76)).drew):=(zAA _ _).drew
         go_region_law (fail)
         all_goals (go_wp2_with fail;go_meet)
         all_goals exact⟨_,rfl,HAL.out,HAB.out⟩
        case rest =>
         obtain⟨L,rfl,hL,hbL⟩:=hcut
         have lL:=(Array.getElem?_eq_some_iff.1 hL.out).1
         have p0:wc.cell? ⟨L,0,none⟩=some (.int .i64 (y:Int)):=blk9 hL.out 0 _ rfl
         have p1:wc.cell? ⟨L,1,none⟩=some (.int .i64 0):=blk9 hL.out 1 _ rfl
         have p2:wc.cell? ⟨L,2,none⟩=some (.int .i64 z):=blk9 hL.out 2 _ rfl
         have HL5:Hid (LOwn B.heap.size wc (.slice an mt.length cn) mt):=zAD HLO.out hbL.out
         have HR5:Hid (wc.ownsRow B.heap.size 3 1 (.slice (some ⟨V,0,none⟩) s.length s.length) s.length (U.map (Value.int .i64))):=zAD HRW.out hbL.out
         have HB5:Hid (Below B.heap.size B wc):=HBR.out.trans (hbL.out.mono HBR.out.size)
         have HLB:Hid (wc.heap[L]? = some (.cells #[.int .i64 (y:Int),.int .i64 0,.int .i64 z] 76)):=hL
         clear hL hbL hcv lV e2 hbl2
         go_wp2_with fail
         refine (zGU mt ⟨(y:Int),0,z⟩ _ wc (LOwn.arg HL5.out)).mono ?_
         rintro e w6 ⟨rfl,hb6⟩
         have hN6:=(hb6.block _ lL).trans HLB.out
         have HL6:Hid (LOwn B.heap.size w6 (.slice an mt.length cn) mt):=zAD HL5.out hb6
         have HR6:Hid (w6.ownsRow B.heap.size 3 1 (.slice (some ⟨V,0,none⟩) s.length s.length) s.length (U.map (Value.int .i64))):=zAD HR5.out hb6
         have HB6:Hid (Below B.heap.size B w6):=HB5.out.trans (hb6.mono HB5.out.size)
         have lL6:=(Array.getElem?_eq_some_iff.1 hN6).1
         have r0:w6.cell? ⟨L,0,none⟩=some (.int .i64 (y:Int)):=blk9 hN6 0 _ rfl
         have r1:w6.cell? ⟨L,1,none⟩=some (.int .i64 0):=blk9 hN6 1 _ rfl
         have r2:w6.cell? ⟨L,2,none⟩=some (.int .i64 z):=blk9 hN6 2 _ rfl
         clear p0 p1 p2 lL hN6 hb6
         cases hT:hasT mt ⟨(y:Int),0,z⟩
         ·have HMA2:Hid (MetI k s S n (q+1) (mt++[⟨(y:Int),0,z⟩])):=by
           have h:=zMx HMI.out (y:Int) HX.out
           rw[HZ.out] at h
           exact h
          have HOW:=HL6.out
          have hB6s:=HB6.out.size
          clear hT
          go_wp2_with (at_builtin;refine zDo 27 Tryz.underLits6 rfl _ _ rfl B.heap.size _ mt rfl (HL6.out.alloc _) _ [⟨(y:Int),0,z⟩] rfl ?c1 ?c2 ?c3 ?_)
          case c1=>exact LOwn.arg (zLr w6 ⟨(y:Int),0,z⟩)
          case c2=>simp;omega
          case c3=>simp;omega
          intro v7 w7 hown7 hgrow
          have HL7:Hid (LOwn B.heap.size w7 v7 (mt++[⟨(y:Int),0,z⟩])):=hown7
          have hal:(w6.alloc (.cells #[.int .i64 (y:Int),.int .i64 0,.int .i64 z] 76)).ownsRow B.heap.size 76 3 (.slice an mt.length cn) mt.length (zA1 mt):=World.ownsRow.alloc HL6.out _
          have HR7:Hid (w7.ownsRow B.heap.size 3 1 (.slice (some ⟨V,0,none⟩) s.length s.length) s.length (U.map (Value.int .i64))):=zBe (World.ownsRow.alloc HR6.out _) hgrow hal (by decide)
          have HB7:Hid (Below B.heap.size B w7):=(HB6.out.alloc HB6.out.size _).grown hgrow (by simp;omega) (fun g h=>(hal.lt g h).1)
          clear hown7 hgrow hal r0 r1 r2 lL6 HOW
          go_wp2
          go_roundw
          case rel=>exact⟨q+1,_,by omega,by go_num,by simp;omega,HL7.out,HMA2,HR7.out,HB7.out⟩
          case measure=>simp[intOf];omega
         ·have HMA2:Hid (MetI k s S n (q+1) mt):=zMw HMI.out (y:Int) HX.out (by rw[HZ.out];exact hT)
          clear hT
          go_wp2
          go_roundw
          case rel=>exact⟨q+1,mt,by omega,by go_num,by omega,HL6.out,HMA2,HR6.out,HB6.out⟩
          case measure=>simp[intOf];omega
       ·have HMO:Hid (zFe k s S (n+1) mt):=by
         have hqe:q=S.length:=by omega
         have h:=HMI.out
         rw[hqe] at h
         exact zMy h HR.out
        clear hlo hmi hrw hbw
        go_wp2
        go_roundw
        case rel=>exact⟨n+1,mt,U,by omega,by go_num,by omega,HLO.out,⟨HMO.out,HU.out▸ZOut.uN s S n⟩,HRW.out,HBR.out⟩
        case measure=>simp[intOf];omega
    ·have hnP:n=P:=by omega
     have ht:((chN s S vals n).2==0)=false:=by rw[HTW.out,hnP,Nat.div_self hP0];rfl
     rw[ht]
     clear ht HTW
     have HMO:Hid (zFe k s (zBC s.length k) (zC5 s (zBC s.length k)) met):=by
      have h:=HMZ.out.1
      rw[hnP] at h
      rw[HS.out,HP.out];exact h
     clear hnP
     have HFL:Hid ((zAp k s).length=s.length):=zAQ _ _
     have HFR:Hid (∀(i:Nat) (r:List Int),s[i]? = some r→(zAp k s)[i]? = some (if hasB S (i:Int) then r.filter (fun z=>hasT met ⟨(i:Int),0,z⟩) else r)):=fun i r hr=>by
      have h:=zKg k s HF.out HSI.out.1 HSI.out.2 HSN.out met HMO.out (by rw[HS.out];exact HND.out) i r hr
      rw[HS.out] at h
      exact h
     have HVZ:Hid (RArg w3 (.slice a1 s.length c1) s):=RArg.below HB3.out HVB.out
     have HSZ:Hid (IArg w3 (.slice ax S.length cx) S):=IArg.below HB3.out HSC.out
     have HLZ:Hid (LArg w3 (.slice am met.length cm) met):=LOwn.arg HL3.out
     have HBZ:Hid (Below w.heap.size w w3):=HBB.out.trans (HB3.out.mono HBB.out.size)
     obtain⟨E,hE⟩:∃E,zAp k s=E:=⟨_,rfl⟩
     have HE:Hid (zAp k s=E):=hE
     rw[hE] at HFL HFR
     clear hE
     obtain⟨Z,hZ⟩:∃Z:World,Z=w3:=⟨_,rfl⟩
     rw[←hZ] at HVZ HSZ HLZ HBZ ⊢
     clear hZ HMO HL3 HR3 HB3 HLO HRW HBR HMZ
     go_wp2_with fail
     go_loopw [14,15,16,17] (fun o i _ _ wr=>∃(d:Nat) (cells:List Value),d≤s.length∧i=.int .i64 d∧zBT Z o cells E d wr) (fun _ i _ _ _=>s.length - (intOf i).toNat)
     case atStart=>exact⟨0,[],by omega,rfl,zBT.nil _ _⟩
     case round =>
      obtain⟨d,cells,hd,rfl,har⟩:=hrel
      have HAR:Hid (zBT Z u14 cells E d wr):=har
      obtain⟨an,cn,rfl⟩:=zAE har.1
      have HBX:Hid (Below Z.heap.size Z wr):=har.2.2
      clear har
      by_cases hlj:d<s.length
      ·obtain⟨r,hr⟩:∃r,s[d]? = some r:=⟨s[d],by simp[hlj]⟩
       have HEJ:Hid (E[d]? = some (if hasB S (d:Int) then r.filter (fun z=>hasT met ⟨(d:Int),0,z⟩) else r)):=HFR.out d r hr
       have hr6:r.length≤6:=HROW.out r (List.mem_of_getElem? hr)
       obtain⟨_,_,hsl,_,hrr⟩:=HVZ.out
       cases hsl
       obtain⟨ob,oo,xv,hob,hol,ocl,hix⟩:=hrr d r hr
       subst hob
       have HIX:Hid (IArg Z xv r):=hix
       obtain⟨ay,cy,hxf,hmy,hxr⟩:=hix
       subst hxf
       unfold maxLen at hmy
       obtain⟨hmy1,hmy2⟩:=hmy
       have HOC:Hid (∀Y,Below wr.heap.size wr Y→ob<Y.heap.size∧Y.cell? ⟨ob,oo+d,none⟩=some (.slice ay r.length cy)):=fun Y hY =>
        ⟨Nat.lt_of_lt_of_le (Nat.lt_of_lt_of_le hol HBX.out.size) hY.size,(hY.cell (p:=⟨ob,oo+d,none⟩) (Nat.lt_of_lt_of_le hol HBX.out.size)).trans ((HBX.out.cell (p:=⟨ob,oo+d,none⟩) hol).trans ocl)⟩
       have HXR:Hid (∀(i:Nat) (z:Int),r[i]? = some z→∃b off,ay=some ⟨b,off,none⟩∧b<wr.heap.size∧∀Y,Below wr.heap.size wr Y→b<Y.heap.size∧Y.cell? ⟨b,off+i,none⟩=some (.int .i64 z)):=fun i z hz=>by
        obtain⟨b,off,h1,h2,h3⟩:=hxr i z hz
        have h4:=Nat.lt_of_lt_of_le h2 HBX.out.size
        exact⟨b,off,h1,h4,fun Y hY=>⟨Nat.lt_of_lt_of_le h4 hY.size,(hY.cell (p:=⟨b,off+i,none⟩) h4).trans ((HBX.out.cell (p:=⟨b,off+i,none⟩) h2).trans h3)⟩⟩
       have HMT:Hid (∀Y,Below wr.heap.size wr Y→LArg Y (.slice am met.length cm) met):=fun Y hY=>LArg.below (HBX.out.trans (hY.mono HBX.out.size)) HLZ.out
       clear hrr hxr ocl hol hr
       go_wp2_with fail
       refine (zGV S _ (d:Int) wr (IArg.below HBX.out HSZ.out)).mono ?_
       rintro e wo ⟨rfl,rfl⟩
       cases hh:hasB S (d:Int)
       ·have HE2:Hid (E[d]? = some r):=by show _=_;rw[HEJ.out,hh];rfl
        obtain⟨ol,oc⟩:=HOC.out wo (Below.refl _ _)
        have hout:=HAR.out.1
        have hsz:=HAR.out.2.2.size
        clear hh HEJ
        go_wp2_with (at_builtin;refine zAm rfl _ _ rfl Z.heap.size _ d cells rfl (hout.alloc _) wo.heap.size (.slice ay r.length cy) rfl rfl ?c1 ?c2 ?c3 ?_)
        case c1=>exact World.cell?_alloc_at _ _ _ 0 (by simp)
        case c2=>omega
        case c3=>simp;omega
        intro v3 w3 hown3 hgrow
        have HP3:Hid (zBT Z v3 (cells++[.slice ay r.length cy]) E (d+1) w3):=(HAR.out.below (zAA _ _)).push HE2.out (Or.inl HIX.out) hown3 hgrow
        clear hown3 hgrow hout
        go_wp2
        go_roundw
        case rel=>exact⟨d+1,_,by omega,by go_num,HP3.out⟩
        case measure=>simp[intOf];omega
       ·have HE2:Hid (E[d]? = some (r.filter (fun z=>hasT met ⟨(d:Int),0,z⟩))):=by show _=_;rw[HEJ.out,hh];rfl
        clear hh HEJ
        obtain⟨F,hF⟩:∃F:Int→Bool,F=fun z=>hasT met ⟨(d:Int),0,z⟩:=⟨_,rfl⟩
        have HFF:Hid (∀z,hasT met ⟨(d:Int),0,z⟩=F z):=fun z=>by rw[hF]
        rw[←hF] at HE2
        clear hF
        go_wp2_with fail
        go_loopw [16,17] (fun o i wr=>∃q:Nat,q≤r.length∧i=.int .i64 q∧wr.ownsRow wo.heap.size 3 1 o ((r.take q).filter F).length (((r.take q).filter F).map (Value.int .i64))∧Below wo.heap.size wo wr) (fun _ i _=>r.length - (intOf i).toNat)
        case atStart=>exact⟨0,by omega,rfl,World.ownsRow_nil _ _ _ _,Below.refl _ _⟩
        case round =>
         obtain⟨q,hq,rfl,hown,hbq0⟩:=hrel
         have HBQ:Hid (Below wo.heap.size wo wr):=hbq0
         obtain⟨ol,oc⟩:=HOC.out _ hbq0
         obtain⟨acc,hacc⟩:∃acc,(r.take q).filter F=acc:=⟨_,rfl⟩
         have HAC:Hid ((r.take q).filter F=acc):=hacc
         have hal:acc.length≤6:=by rw[←hacc];exact Nat.le_trans (List.length_filter_le _ _) (by rw[List.length_take];omega)
         rw[hacc] at hown
         have HOW:Hid (wr.ownsRow wo.heap.size 3 1 u16 acc.length (acc.map (Value.int .i64))):=hown
         obtain⟨al,cl,hof⟩:=zAE hown
         subst hof
         clear hacc
         by_cases hlq:q<r.length
         ·obtain⟨z,hz⟩:∃z,r[q]? = some z:=⟨r[q],by simp[hlq]⟩
          obtain⟨bx,ox,hbx,hbl,hxc⟩:=HXR.out q z hz
          subst hbx
          obtain⟨zl,zc⟩:=hxc _ hbq0
          have HML:Hid (LArg wr (.slice am met.length cm) met):=HMT.out _ hbq0
          have HTK:Hid ((r.take (q+1)).filter F=acc++(if F z then [z] else [])):=by show _=_;rw[←HAC.out];exact zC4 r _ q z hz
          have HXC:Hid (∀Y,Below wo.heap.size wo Y→bx<Y.heap.size∧Y.cell? ⟨bx,ox+q,none⟩=some (.int .i64 z)):=hxc
          clear hxc hz hbq0
          go_wp2_with fail
          refine (zGU met ⟨(d:Int),0,z⟩ _ wr HML.out).mono ?_
          rintro e wc ⟨rfl,hbc⟩
          rw[HFF.out z]
          have HBC:Hid (Below wo.heap.size wo wc):=HBQ.out.trans (hbc.mono HBQ.out.size)
          have hown2:=zAD HOW.out hbc
          have HOW2:=(show Hid _ from hown2)
          obtain⟨ol2,oc2⟩:=HOC.out _ HBC.out
          obtain⟨zl2,zc2⟩:=HXC.out _ HBC.out
          clear hbc hown oc zc ol zl
          cases hFz:F z
          ·have HT2:Hid ((r.take (q+1)).filter F=acc):=by
            show _=_
            rw[HTK.out,hFz];simp
           clear HTK hown2 hFz
           go_wp2
           go_roundw
           case rel=>exact⟨q+1,by omega,by go_num,by rw[HT2.out];exact HOW2.out,HBC.out⟩
           case measure=>simp[intOf];omega
          ·have HT2:Hid ((r.take (q+1)).filter F=acc++[z]):=by
            show _=_
            rw[HTK.out,hFz];simp
           clear HTK hFz
           go_wp2_with (at_builtin;refine wpList_append_own _ rfl _ _ 42 rfl wo.heap.size 3 i0 (.int .i64 0) 1 8 Tryz.underlying42 hi hz0 hz1 hz2 rfl (by decide) _ _ _ rfl (hown2.alloc _) ⟨wc.heap.size,0,none⟩ 1 1 [.int .i64 z] rfl rfl ?c1 ?c2 ?c3 ?c4 ?c5 ?_)
           case c1=>exact zC0 wc z
           case c2=>intro u hu;rcases List.mem_singleton.1 hu with rfl;rfl
           case c3=>unfold maxLen;omega
           case c4=>omega
           case c5=>have:=HBC.out.size;simp;omega
           intro v3 w3 hown3 hgrow _
           have HO3:Hid (w3.ownsRow wo.heap.size 3 1 v3 ((r.take (q+1)).filter F).length (((r.take (q+1)).filter F).map (Value.int .i64))):=by
            show w3.ownsRow _ _ _ _ _ _
            rw[HT2.out,List.length_append,List.map_append];exact hown3
           have HB3:Hid (Below wo.heap.size wo w3):=(HBC.out.alloc HBC.out.size _).grown hgrow (by have:=HBC.out.size;simp;omega) (fun g h=>(hown2.lt g h).1)
           clear hown3 hgrow hown2
           go_wp2
           go_roundw
           case rel=>exact⟨q+1,by omega,by go_num,HO3.out,HB3.out⟩
           case measure=>simp[intOf];omega
         ·have HFI:Hid (r.filter F=acc):=by show _=_;rw[←HAC.out,List.take_of_length_le (by omega)]
          have HA2:Hid (zBT Z (.slice an d cn) cells E d wr):=HAR.out.below HBQ.out
          have HOL:Hid (wr.ownsRow Z.heap.size 3 1 (.slice al acc.length cl) acc.length (acc.map (Value.int .i64))):=World.ownsRow.mono HOW.out HBX.out.size
          have hout:=HA2.out.1
          have hsz:=HA2.out.2.2.size
          clear hown hbq0
          go_wp2_with (at_builtin;refine zAm rfl _ _ rfl Z.heap.size _ d cells rfl (hout.alloc _) wr.heap.size (.slice al acc.length cl) rfl rfl ?c1 ?c2 ?c3 ?_)
          case c1=>exact World.cell?_alloc_at _ _ _ 0 (by simp)
          case c2=>omega
          case c3=>simp;omega
          intro v3 w3 hown3 hgrow
          have HP3:Hid (zBT Z v3 (cells++[.slice al acc.length cl]) E (d+1) w3):=(HA2.out.below (zAA _ _)).push (by rw[HE2.out,HFI.out]) (Or.inr (HOL.out.alloc _)) hown3 hgrow
          clear hown3 hgrow hout
          go_wp2
          go_roundw
          case rel=>exact⟨d+1,_,by omega,by go_num,HP3.out⟩
          case measure=>simp[intOf];omega
      ·have hde:d=E.length:=by have:=HFL.out;omega
       have HFN:Hid (RArg wr (.slice an d cn) (zAp k s)∧Below w.heap.size w wr):=by
        refine⟨?_,HBZ.out.trans (HBX.out.mono HBZ.out.size)⟩
        rw[HE.out]
        have h:=HAR.out
        subst hde
        exact h.arg
       clear hde
       go_wp2
       go_ret
       exact⟨_,rfl,HFN.out.1,HFN.out.2⟩
 ·have HF:Hid (zAp k s=s):=zH7 k s hf
  go_wp2
  go_ret
  exact⟨_,rfl,by rw[HF.out];exact HV.out,HB0.out⟩
end Go.Proofs.YtndcpnlaadikoaaGreatDoor
