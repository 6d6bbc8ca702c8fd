/- What the proof leans on, part 38. -/
import Derived.Test.YtndcpnlaadikoaaGreatDoorPartAs
import Derived.Test.YtndcpnlaadikoaaGreatDoorPartBc
import Derived.Test.YtndcpnlaadikoaaGreatDoorPartBk
import Derived.Test.YtndcpnlaadikoaaGreatDoorPartBa
import Derived.Test.YtndcpnlaadikoaaGreatDoorPartAm
import Derived.Test.YtndcpnlaadikoaaGreatDoorPartAq
namespace Go.Proofs.YtndcpnlaadikoaaGreatDoor
open Go.RowKit
set_option maxHeartbeats 800000 in
set_option maxRecDepth 100000 in
theorem zG5 (s t:Sto) (v u:Value) (w:World) (hv:RArg w v s) (hu:RArg w u t) :
 Calls Tryz.prog 162 #[v,u] w fun e w'=>e=.returned (.bool (decide (s=t)))∧∃n,w'=w.drewN n:=by
 obtain⟨a,c,rfl,hm,hr⟩:=hv
 obtain⟨a',c',rfl,hm',hr'⟩:=hu
 have HV:Hid (∀(i:Nat) (r:List Int),s[i]? = some r→∃b off x,a=some ⟨b,off,none⟩∧b<w.heap.size∧w.cell? ⟨b,off+i,none⟩=some x∧IArg w x r):=hr
 have HV':Hid (∀(i:Nat) (r:List Int),t[i]? = some r→∃b off x,a'=some ⟨b,off,none⟩∧b<w.heap.size∧w.cell? ⟨b,off+i,none⟩=some x∧IArg w x r):=hr'
 obtain⟨R,hR⟩:∃R,decide (s=t)=R:=⟨_,rfl⟩
 rw[hR]
 have HR:Hid (decide (s=t)=R):=hR
 unfold maxLen at hm hm'
 obtain⟨hm1,hm⟩:=hm
 obtain⟨hm1',hm'⟩:=hm'
 clear hr hr' hR
 by_cases hl:s.length=t.length
 ·have HL:Hid (s.length=t.length):=hl
  have g0:((s.length:Int) != (t.length:Int))=false:=by simp[hl]
  clear hl
  go_enter Tryz.func162,Tryz.ntmps162
  go_wp2_with fail
  go_loopw [5] (fun i wr=>∃m:Nat,m≤s.length∧i=.int .i64 m∧Hid (s.take m=t.take m)∧∃n,wr=w.drewN n) (fun i _=>s.length - (intOf i).toNat)
  case atStart=>exact⟨0,by omega,rfl,rfl,0,rfl⟩
  case round =>
   obtain⟨m,hml,rfl,hall,nq,rfl⟩:=hrel
   by_cases hlt:m<s.length
   ·have hlt':m<t.length:=by rw[←HL.out];exact hlt
    obtain⟨x,hx⟩:∃x,s[m]? = some x:=⟨s[m],by simp[hlt]⟩
    obtain⟨y,hy⟩:∃y,t[m]? = some y:=⟨t[m],by simp[hlt']⟩
    obtain⟨b,off,vx,ha,hb,hc,hix⟩:=HV.out m x hx
    obtain⟨b',off',vy,ha',hb',hd,hiy⟩:=HV'.out m y hy
    have HX:Hid (s[m]? = some x):=hx
    have HY:Hid (t[m]? = some y):=hy
    have HIX:Hid (IArg w vx x):=hix
    have HIY:Hid (IArg w vy y):=hiy
    obtain⟨a5,c5,rfl,_,_⟩:=hix
    obtain⟨a6,c6,rfl,_,_⟩:=hiy
    subst ha;subst ha'
    clear hx hy
    have HS:Hid (∀p q,Calls Tryz.prog 32 #[.slice a5 x.length c5,.slice a6 y.length c6] (w.drewN (p+q)) fun e w'=>e=.returned (.bool (decide (x=y)))∧∃n,w'=w.drewN (p+n)):=by
     intro p q
     refine (zEo x y _ _ (w.drewN (p+q)) HIX.out HIY.out).mono ?_
     rintro e w' ⟨rfl,n,rfl⟩
     exact⟨rfl,q+n,by rw[zCu,Nat.add_assoc]⟩
    by_cases hq:x=y
    ·have hq2:decide (x=y)=true:=decide_eq_true hq
     have HN:Hid (s.take (m+1)=t.take (m+1)):=zH0 s t m x hall.out HX.out (by rw[hq];exact HY.out)
     rw[hq2] at HS
     clear hq hq2
     go_wp2
     go_quiet ((go_at_call 32;exact HS.out _ _))
     go_wp2
     go_roundw
     case rel=>exact⟨m+1,by omega,by go_num,HN,_,rfl⟩
     case measure=>simp[intOf];omega
    ·have hq2:decide (x=y)=false:=decide_eq_false hq
     have HN:Hid (R=false):=by rw[←HR.out];exact decide_eq_false (zJh s t m x y HX.out HY.out hq)
     rw[hq2] at HS
     clear hq hq2
     go_wp2
     go_quiet ((go_at_call 32;exact HS.out _ _))
     go_wp2
     go_ret
     exact⟨zAB HN.out.symm,_,zCu _ _ _⟩
   ·have HN:Hid (R=true):=by rw[←HR.out];exact decide_eq_true (zJg s t m hall.out hlt HL.out)
    go_wp2
    go_ret
    exact⟨zAB HN.out.symm,_,rfl⟩
 ·have HN:Hid (R=false):=by rw[←HR.out];exact decide_eq_false (fun h=>hl (by rw[h]))
  have g0:((s.length:Int) != (t.length:Int))=true:=by simp;omega
  clear hl
  go_enter Tryz.func162,Tryz.ntmps162
  go_wp2
  go_ret
  exact⟨zAB HN.out.symm,0,rfl⟩
theorem zGX (t:Sto):zB4 t.length=zBK t:=by
 unfold zB4 zBK
 refine List.ext_getElem (by simp) fun i h1 h2=>?_
 simp
theorem zIA {t s:Sto} (h:zBZ t s) (hs:∀r∈s,r.length≤6):∀r∈t,r.length≤6:=fun r hr=>by
 obtain⟨k,hk⟩:=List.mem_iff_getElem?.1 hr
 have hl:k<s.length:=by rw[←h.1];exact (List.getElem?_eq_some_iff.1 hk).1
 exact Nat.le_trans (h.2 k r s[k] hk (List.getElem?_eq_getElem hl)).length_le (hs _ (List.getElem_mem hl))
theorem zLt (t:Sto) (d:Cla) (h:zA0 t d≠t):zBz (zA0 t d)<zBz t:=by
 obtain⟨h1,h2⟩:=zJT _ _ (zGk t d)
 rcases Nat.lt_or_ge (zBz (zA0 t d)) (zBz t) with h3 | h3
 ·exact h3
 ·exact absurd (h2 (by omega)) h
open Classical in
noncomputable def zEI (p:Nat→Prop):Nat:=if h:∃n,p n∧∀k,p k→n≤k then Classical.choose h else 0
theorem zEJ {p:Nat→Prop} (h:∃n,p n):∃n,p n∧∀k,p k→n≤k:=by
 obtain⟨n,hn⟩:=h
 induction n using Nat.strongRecOn with
 | _ n ih =>
   by_cases hq:∃k,k<n∧p k
   ·obtain⟨k,hk,hp⟩:=hq
    exact ih k hk hp
   ·exact⟨n,hn,fun k hk=>Classical.byContradiction fun hlt=>hq ⟨k,by omega,hk⟩⟩
theorem zI3 {p:Nat→Prop} (h:∃n,p n):p (zEI p):=by
 unfold zEI
 rw[dif_pos (zEJ h)]
 exact (Classical.choose_spec (zEJ h)).1
theorem zIB {p:Nat→Prop} {n:Nat} (h:p n):zEI p≤n:=by
 unfold zEI
 rw[dif_pos (zEJ ⟨n,h⟩)]
 exact (Classical.choose_spec (zEJ ⟨n,h⟩)).2 n h
def FxI (l:List Cla) (s:Sto) (W:World) (o y:Value) (wr:World) (n:Nat):Prop :=
 ∃(t:Sto) (ch:Bool),y=.bool ch∧RArg wr o t∧zFu (zBa l) s t∧zBZ t s∧(ch=false→∀d∈l,zA0 t d=t)∧Below W.heap.size W wr∧n=2 * zBz t+(if ch then 1 else 0)
set_option maxHeartbeats 12800000 in
set_option maxRecDepth 100000 in
theorem zM1 (m:Mod) (vs cs:Value) (s:Sto) (hs6:s.length≤6) (hrow:∀r∈s,r.length≤6) (l:List Cla) (hl40:∀d∈l,d.length≤40) (hin:∀d∈l,∀x∈d,0≤x.var∧x.var<(s.length:Int)) (v u:Value) (w:World) (hma:MArg w vs cs m) (hv:RArg w v s) (hu:zA8 w u l) :
 Calls Tryz.prog 97 #[modV vs cs m,v,.bool false,u] w fun e w'=>∃x T,e=.returned x∧RArg w' x T∧zD2 (zBa l) s T∧Below w.heap.size w w':=by
 have HV:Hid (RArg w v s):=hv
 have HU:Hid (∀Y,Below w.heap.size w Y→zA8 Y u l):=fun Y h=>zA8.below h hu
 have HIN:Hid (∀d∈l,∀x∈d,0≤x.var∧x.var<(s.length:Int)):=hin
 have HRW:Hid (∀r∈s,r.length≤6):=hrow
 have H40:Hid (∀d∈l,d.length≤40):=hl40
 obtain⟨⟨a1,c1,rfl,_,_⟩,a2,c2,rfl,⟨hm2,hm3⟩,_⟩:=hma
 obtain⟨b,cb,rfl,hmb,_⟩:=hu
 unfold maxLen at hmb hm3
 obtain⟨hmb1,hmb2⟩:=hmb
 unfold modV
 clear hin hrow hl40 hv
 go_enter Tryz.func97,Tryz.ntmps97
 go_wp2_with fail
 have HB0:Hid (Below w.heap.size w (w.alloc (.cells #[.slice a1 m.vars.length c1,.slice a2 m.cons.length c2,.int .i64 m.goal,.int .i64 m.var] 25))):=zAA _ _
 have HN0:Hid ((w.alloc (.cells #[.slice a1 m.vars.length c1,.slice a2 m.cons.length c2,.int .i64 m.goal,.int .i64 m.var] 25)).heap[w.heap.size]? = some (.cells #[.slice a1 m.vars.length c1,.slice a2 m.cons.length c2,.int .i64 m.goal,.int .i64 m.var] 25)):=heap_alloc_new _ _
 obtain⟨W,hW⟩:∃W,w.alloc (.cells #[.slice a1 m.vars.length c1,.slice a2 m.cons.length c2,.int .i64 m.goal,.int .i64 m.var] 25)=W:=⟨_,rfl⟩
 rw[hW] at HB0 HN0 ⊢
 clear hW
 have HC:Hid (∀Y,Below W.heap.size W Y→w.heap.size<Y.heap.size∧Y.cell? ⟨w.heap.size,1,none⟩=some (.slice a2 m.cons.length c2)):=fun Y hY=>by
  have hN:=(hY.block _ (Array.getElem?_eq_some_iff.1 HN0.out).1).trans HN0.out
  exact⟨(Array.getElem?_eq_some_iff.1 hN).1,blk9 hN 1 _ rfl⟩
 go_loopw [1,9] (fun o y wr=>∃n,FxI l s W o y wr n) (fun o y wr=>zEI (FxI l s W o y wr))
 case atStart=>exact⟨_,s,true,rfl,RArg.below HB0.out HV.out,zIe _ _,zBZ.refl _,(fun h=>by cases h),Below.refl _ _,rfl⟩
 case round =>
  have hsp:=zI3 hrel
  obtain⟨NN,hNN⟩:∃NN,zEI (FxI l s W u1 u9 wr)=NN:=⟨_,rfl⟩
  have HNN:Hid (zEI (FxI l s W u1 u9 wr)=NN):=hNN
  rw[hNN] at hsp
  obtain⟨t,ch,rfl,hrt,how,hrs,hcl,hbw,hn⟩:=hsp
  have HRT:Hid (RArg wr u1 t):=hrt
  have HOW:Hid (zFu (zBa l) s t):=how
  have HRS:Hid (zBZ t s):=hrs
  have HCL:Hid (ch=false→∀d∈l,zA0 t d=t):=hcl
  have HBW:Hid (Below W.heap.size W wr):=hbw
  have HN:Hid (NN=2 * zBz t+(if ch then 1 else 0)):=hn
  obtain⟨at_,ct_,rfl,hmt,_⟩:=hrt
  unfold maxLen at hmt
  obtain⟨hmt1,hmt2⟩:=hmt
  have HTL:Hid (t.length=s.length):=hrs.1
  clear hrel hNN how hrs hcl hn
  cases ch
  ·have HF:Hid (∀d∈l,zA0 t d=t):=HCL.out rfl
   clear HCL
   go_wp2_with fail
   refine (zAk t _ _ HRT.out).mono ?_
   rintro e w2 ⟨rfl,rfl⟩
   cases hf:zAG t
   ·have HFT:Hid (zAG t=false):=hf
    clear hf
    go_wp2
    go_ret
    exact⟨_,t,rfl,HRT.out,zK9 HOW.out HFT.out (fun f hf=>by obtain⟨d,hd,rfl⟩:=List.mem_map.1 hf;exact HF.out d hd),HB0.out.trans (HBW.out.mono HB0.out.size)⟩
   ·have HFT:Hid (zAG t=true):=hf
    clear hf
    go_wp2_with fail
    refine (zCa t.length (by have:=HTL.out;omega) _).mono ?_
    rintro e w5 ⟨x,rfl,hx,hb5⟩
    have HX:Hid (RArg w5 x (zB4 t.length)):=hx
    have HB5:Hid (Below w.heap.size w w5):=HB0.out.trans ((HBW.out.trans (hb5.mono HBW.out.size)).mono HB0.out.size)
    obtain⟨ax,cx,rfl,_,_⟩:=hx
    clear hb5
    go_wp2
    go_ret
    exact⟨_,_,rfl,HX.out,by rw[zGX];exact zFE HOW.out HFT.out (zHc l),HB5.out⟩
  ·clear HCL
   go_wp2_with fail
   refine (zAk t _ _ HRT.out).mono ?_
   rintro e w2 ⟨rfl,rfl⟩
   cases hf:zAG t
   ·have HFT:Hid (zAG t=false):=hf
    clear hf
    have hwn:IntKind.i64.wrap ((l.length:Int) - 1)=(l.length:Int) - 1:=by rw[IntKind.wrap_i64];omega
    go_wp2_with fail
    go_loopw [1,9,10] (fun o y i wr=>∃(t':Sto) (ch':Bool) (k:Nat),k≤l.length∧i=.int .i64 ((k:Int) - 1)∧y=.bool ch'∧Hid (RArg wr o t'∧zFu (zBa l) s t'∧zBZ t' s∧(ch'=false→t'=t∧∀(j:Nat) (d:Cla),k≤j→l[j]? = some d→zA0 t d=t)∧(ch'=true→zBz t'<zBz t)∧Below W.heap.size W wr)) (fun _ _ i _=>(intOf i+1).toNat)
    case atStart=>exact⟨t,false,l.length,Nat.le_refl _,rfl,rfl,HRT.out,HOW.out,HRS.out,fun _=>⟨rfl,fun j d hj hd=>by have:=(List.getElem?_eq_some_iff.1 hd).1;omega⟩,(fun h=>by cases h),HBW.out⟩
    case round =>
     obtain⟨t',ch',k,hk,rfl,rfl,HI⟩:=hrel
     obtain⟨hrx,hox,hsx,hcf,hct,hbx⟩:=HI.out
     have HRX:Hid (RArg wr u1 t'):=hrx
     have HOX:Hid (zFu (zBa l) s t'):=hox
     have HSX:Hid (zBZ t' s):=hsx
     have HCF:Hid (ch'=false→t'=t∧∀(j:Nat) (d:Cla),k≤j→l[j]? = some d→zA0 t d=t):=hcf
     have HCT:Hid (ch'=true→zBz t'<zBz t):=hct
     have HBX:Hid (Below W.heap.size W wr):=hbx
     have HXL:Hid (t'.length=s.length):=hsx.1
     obtain⟨ax_,cx_,rfl,hmx,_⟩:=hrx
     unfold maxLen at hmx
     obtain⟨hmx1,hmx2⟩:=hmx
     clear HI hox hsx hcf hct hbx
     have HEND:Hid ((∀d∈l,ch'=false→zA0 t' d=t')→FxI l s W (.slice ax_ t'.length cx_) (.bool ch') wr (2 * zBz t'+(if ch' then 1 else 0))∧2 * zBz t'+(if ch' then 1 else 0)<NN):=fun hall=>by
      refine⟨⟨t',ch',rfl,HRX.out,HOX.out,HSX.out,fun hc d hd=>hall d hd hc,HBX.out,rfl⟩,?_⟩
      rw[HN.out]
      cases ch'
      ·rw[(HCF.out rfl).1];simp
      ·have:=HCT.out rfl
       simp;omega
     cases k with
     | zero =>
       have HFIN:Hid (FxI l s W (.slice ax_ t'.length cx_) (.bool ch') wr (2 * zBz t'+(if ch' then 1 else 0))∧zEI (FxI l s W (.slice ax_ t'.length cx_) (.bool ch') wr)<NN):=by
        obtain⟨h1,h2⟩:=HEND.out fun d hd hc=>by
         obtain⟨e,h3⟩:=HCF.out hc
         obtain⟨j,hj⟩:=List.mem_iff_getElem?.1 hd
         rw[e]
         exact h3 j d (Nat.zero_le _) hj
        exact⟨h1,Nat.lt_of_le_of_lt (zIB h1) h2⟩
       clear HEND
       have hz9:((0:Nat):Int) - 1=-1:=rfl
       rw[hz9]
       have HBW3:Hid (Below W.heap.size W wr):=HBX.out
       obtain⟨d0,d1⟩:=HC.out _ HBW3.out
       have hwl:IntKind.i64.wrap ((m.cons.length:Int) - 1)=(m.cons.length:Int) - 1:=by rw[IntKind.wrap_i64];omega
       go_wp2_with fail
       obtain⟨wz,hwz⟩:∃wz:World,wz=wr:=⟨_,rfl⟩
       rw[←hwz] at HRX HBW3 ⊢
       go_loopw [1,9,12] (fun o y i wr=>o=.slice ax_ t'.length cx_∧y=.bool ch'∧i=.int .i64 ((m.cons.length:Int) - 1)∧wr=wz) (fun _ _ _ _=>0)
       case atStart=>exact⟨rfl,rfl,rfl,rfl⟩
       case round =>
        obtain⟨rfl,rfl,rfl,rfl⟩:=hrel
        cases hd:decide ((0:Int)≤(m.cons.length:Int) - 1)
        all_goals go_wp2_with fail
        all_goals exact⟨⟨_,HFIN.out.1⟩,by rw[HNN.out];exact HFIN.out.2⟩
     | succ k =>
       have hkk:((k+1:Nat):Int) - 1=(k:Int):=by omega
       rw[hkk]
       clear hkk
       have g0:decide ((0:Int)≤(k:Int))=true:=decide_eq_true (by omega)
       go_wp2_with fail
       refine (zAk t' _ _ HRX.out).mono ?_
       rintro e w3 ⟨rfl,rfl⟩
       cases hf2:zAG t'
       ·obtain⟨d,hd⟩:∃d,l[k]? = some d:=⟨l[k],by simp[show k<l.length by omega]⟩
        have hdm:=List.mem_of_getElem? hd
        have HBN:Hid (Below w.heap.size w w3):=HB0.out.trans (HBX.out.mono HB0.out.size)
        obtain⟨_,_,hsl,_,hrr⟩:=HU.out _ HBN.out
        cases hsl
        obtain⟨lb,lo,xv,hlb,hll,lc,hix⟩:=hrr k d hd
        subst hlb
        have HIX:Hid (LArg w3 xv d):=hix
        obtain⟨a5,c5,rfl,_,_⟩:=hix
        have HUN:=zLs t' (by have:=HXL.out;omega) (zIA HSX.out HRW.out) d (H40.out d hdm) (fun x hx=>by rw[HXL.out];exact HIN.out d hdm x hx) _ _ w3 HRX.out HIX.out
        have HUM:Hid ((fun s=>zA0 s d)∈zBa l):=List.mem_map.2 ⟨d,hdm,rfl⟩
        have HD:Hid (l[k]? = some d):=hd
        have hkl:(k:Int)<(l.length:Int):=by omega
        have hwk:IntKind.i64.wrap ((k:Int) - 1)=(k:Int) - 1:=by rw[IntKind.wrap_i64];omega
        rw[zMz] at HUN
        obtain⟨U,hU⟩:∃U,zA0 t' d=U:=⟨_,rfl⟩
        have HUU:Hid (zA0 t' d=U):=hU
        rw[hU] at HUN
        clear hd hdm hrr hf2 hU
        go_wp2_with fail
        refine HUN.mono ?_
        rintro e w4 ⟨x,rfl,hx,hb4⟩
        have HX4:Hid (RArg w4 x U):=hx
        obtain⟨a6,c6,rfl,_,_⟩:=hx
        have HB4:Hid (Below W.heap.size W w4):=HBX.out.trans (hb4.mono HBX.out.size)
        have HR4:Hid (RArg w4 (.slice ax_ t'.length cx_) t'):=RArg.below hb4 HRX.out
        clear hb4 lc hll HUN
        go_wp2_with fail
        refine (zG5 t' U _ _ _ HR4.out HX4.out).mono ?_
        rintro e w5 ⟨rfl,n5,rfl⟩
        have HB5:=(show Hid (Below W.heap.size W _) from below_drewN HB4.out n5)
        by_cases hq:t'=U
        ·have hq2:decide (t'=U)=true:=decide_eq_true hq
         have HCF2:Hid (ch'=false→t'=t∧∀(j:Nat) (d:Cla),k≤j→l[j]? = some d→zA0 t d=t):=fun hc=>by
          obtain⟨e1,e2⟩:=HCF.out hc
          refine⟨e1,fun j d2 hj hd2=>?_⟩
          by_cases hjk:j=k
          ·subst hjk
           rw[HD.out] at hd2
           cases hd2
           rw[←e1,HUU.out];exact hq.symm
          ·exact e2 j d2 (by omega) hd2
         rw[hq2]
         clear hq hq2 HEND
         go_wp2
         go_roundw
         case rel=>exact⟨t',ch',k,by omega,by rfl,rfl,RArg.below (below_drewN (Below.refl _ _) _) HR4.out,HOX.out,HSX.out,HCF2.out,HCT.out,HB5.out⟩
         case measure=>simp[intOf] <;> omega
        ·have hq2:decide (t'=U)=false:=decide_eq_false hq
         have HOU:Hid (zFu (zBa l) s U):=by
          have:=zK8 HOX.out _ HUM.out (zHV d)
          rw[HUU.out] at this;exact this
         have HSU:Hid (zBZ U s):=by
          have:=zGk t' d
          rw[HUU.out] at this
          exact this.trans HSX.out
         have HLU:Hid (zBz U<zBz t):=by
          have h1:=zLt t' d (by rw[HUU.out];exact fun e=>hq e.symm)
          rw[HUU.out] at h1
          show _<_
          cases ch'
          ·rw[(HCF.out rfl).1] at h1;exact h1
          ·have:=HCT.out rfl;omega
         rw[hq2]
         clear hq hq2 HEND
         go_wp2
         go_roundw
         case rel=>exact⟨U,true,k,by omega,by rfl,rfl,RArg.below (below_drewN (Below.refl _ _) _) HX4.out,HOU.out,HSU.out,(fun h=>by cases h),fun _=>HLU.out,HB5.out⟩
         case measure=>simp[intOf] <;> omega
       ·have HFIN:Hid (FxI l s W (.slice ax_ t'.length cx_) (.bool ch') w3 (2 * zBz t'+(if ch' then 1 else 0))∧zEI (FxI l s W (.slice ax_ t'.length cx_) (.bool ch') w3)<NN):=by
         obtain⟨h1,h2⟩:=HEND.out fun d hd hc=>by
          obtain⟨e,_⟩:=HCF.out hc
          rw[e,HFT.out] at hf2
          cases hf2
         exact⟨h1,Nat.lt_of_le_of_lt (zIB h1) h2⟩
        clear HEND hf2
        have HBW3:Hid (Below W.heap.size W w3):=HBX.out
        obtain⟨d0,d1⟩:=HC.out _ HBW3.out
        have hwl:IntKind.i64.wrap ((m.cons.length:Int) - 1)=(m.cons.length:Int) - 1:=by rw[IntKind.wrap_i64];omega
        go_wp2_with fail
        obtain⟨wz,hwz⟩:∃wz:World,wz=w3:=⟨_,rfl⟩
        rw[←hwz] at HRX HBW3 ⊢
        go_loopw [1,9,12] (fun o y i wr=>o=.slice ax_ t'.length cx_∧y=.bool ch'∧i=.int .i64 ((m.cons.length:Int) - 1)∧wr=wz) (fun _ _ _ _=>0)
        case atStart=>exact⟨rfl,rfl,rfl,rfl⟩
        case round =>
         obtain⟨rfl,rfl,rfl,rfl⟩:=hrel
         cases hd:decide ((0:Int)≤(m.cons.length:Int) - 1)
         all_goals go_wp2_with fail
         all_goals exact⟨⟨_,HFIN.out.1⟩,by rw[HNN.out];exact HFIN.out.2⟩
   ·have HFT:Hid (zAG t=true):=hf
    clear hf
    go_wp2_with fail
    refine (zAk t _ _ HRT.out).mono ?_
    rintro e w2 ⟨rfl,rfl⟩
    rw[HFT.out]
    go_wp2_with fail
    refine (zCa t.length (by have:=HTL.out;omega) _).mono ?_
    rintro e w5 ⟨x,rfl,hx,hb5⟩
    have HX:Hid (RArg w5 x (zB4 t.length)):=hx
    have HB5:Hid (Below w.heap.size w w5):=HB0.out.trans ((HBW.out.trans (hb5.mono HBW.out.size)).mono HB0.out.size)
    obtain⟨ax,cx,rfl,_,_⟩:=hx
    clear hb5
    go_wp2
    go_ret
    exact⟨_,_,rfl,HX.out,by rw[zGX];exact zFE HOW.out HFT.out (zHc l),HB5.out⟩
theorem zIC (vs:List MVar) (hv:zAb vs) (a b:Cla) (i:Nat):(zAF vs (a++b)).testBit i=((zAF vs a).testBit i || (zAF vs b).testBit i):=by
 unfold zAF ofP
 rw[zAg vs hv,zAg vs hv,zAg vs hv]
 unfold oneB
 rw[List.any_append]
 cases decide (i / 6<vs.length) <;> cases decide (i % 6<zAu (zAH vs (i / 6))) <;> simp
theorem zM2 (vs:List MVar) (hv:zAb vs) (i:Nat):(zAF vs []).testBit i=false:=by
 unfold zAF ofP
 rw[zAg vs hv]
 simp[oneB]
theorem zEK (n p:Nat) (h:zA7 n p=false) (v:Nat) (hv:v<n):∃k,k<6∧p.testBit (6 * v+k)=true:=by
 unfold zA7 at h
 rw[List.any_eq_false] at h
 have h1:=h v (List.mem_range.2 hv)
 have h2:p / 2 ^ (v * 6) &&& 63≠0:=by simpa using h1
 apply Classical.byContradiction
 intro hn
 apply h2
 apply Nat.eq_of_testBit_eq
 intro i
 rw[Nat.testBit_and,Nat.zero_testBit,zEU,Nat.testBit_div_two_pow]
 by_cases hi:i<6
 ·cases hb:p.testBit (i+v * 6)
  ·rfl
  ·exact absurd ⟨i,hi,by rw[show 6 * v+i=i+v * 6 by omega];exact hb⟩ hn
 ·simp[hi]
theorem zB2 {n:Nat} (h:n≠0):∃i,n.testBit i=true:=by
 apply Classical.byContradiction
 intro hn
 apply h
 apply Nat.eq_of_testBit_eq
 intro i
 rw[Nat.zero_testBit]
 cases hb:n.testBit i
 ·rfl
 ·exact absurd ⟨i,hb⟩ hn
end Go.Proofs.YtndcpnlaadikoaaGreatDoor
