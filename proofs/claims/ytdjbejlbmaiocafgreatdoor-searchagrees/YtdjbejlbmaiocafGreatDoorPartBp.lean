/- What the proof leans on, part 42. -/
import Derived.Test.YtdjbejlbmaiocafGreatDoorPartBo
import Derived.Deep.DeepCutAuto
namespace Go.Proofs.YtdjbejlbmaiocafGreatDoor
open Go.RowKit
def FrI {σ:Type} (m:Mod) (tell:σ→List Int→Bool×σ) (J:σ→List Int→World→Prop) (v k:Nat) (pre:List Int) (R:Bool×σ) (wr:World) (n:Nat):Prop :=
 ∃(x:Int) (vals:List Int) (s:σ),(zAE m.vars v).lo≤x∧x≤(zAE m.vars v).hi+1∧n=((zAE m.vars v).hi+1 - x).toNat∧J s vals wr∧vals.take (v+1)=pre++[x]∧runT tell ((zCB x (zAE m.vars v).hi).flatMap (fL m.vars m.cons k pre)) s=R
theorem hid0 {p:Prop} (h:p):Hid p:=h
set_option maxHeartbeats 6400000 in
set_option maxRecDepth 100000 in
theorem zKr {σ:Type} (q:EaB) (m:Mod) (hm:zAI m=0) (tell:σ→List Int→Bool×σ) (J:σ→List Int→World→Prop) (hJ:Told9 q m.vars m.cons tell J):∀(k v:Nat) (pre vals:List Int) (s:σ) (w:World),v+k=m.vars.length→pre.length=v→vals.take v=pre→zIV m.vars pre→J s vals w →
 Calls Tryz.prog 131 (#[.int .i64 (v:Int)]++q.caps) w fun e w'=>e=.returned (.bool (runT tell (zBp m.vars m.cons k pre) s).1)∧∃vals',vals'.take v=pre∧J (runT tell (zBp m.vars m.cons k pre) s).2 vals' w':=by
 intro k
 induction k with
 | zero =>
   intro v pre vals s w hvk hpl htk hpo hI
   have hle:=(hJ.at9 s vals w hI).len
   have hvp:vals=pre:=by rw[←htk,List.take_of_length_le (by omega)]
   subst hvp
   have hvn:v=m.vars.length:=by omega
   subst hvn
   refine (zKq q m tell J hJ vals s w hI).mono ?_
   intro e w' h
   rw[zBp,zKp]
   exact⟨h.1,vals,htk,h.2⟩
 | succ k ih =>
   intro v pre vals s w hvk hpl htk hpo hI
   have HJ:Hid (Told9 q m.vars m.cons tell J):=hJ
   have HIH:Hid (∀(v:Nat) (pre vals:List Int) (s:σ) (w:World),v+k=m.vars.length→pre.length=v→vals.take v=pre→zIV m.vars pre→J s vals w →
    Calls Tryz.prog 131 (#[.int .i64 (v:Int)]++q.caps) w fun e w'=>e=.returned (.bool (runT tell (zBp m.vars m.cons k pre) s).1)∧∃vals',vals'.take v=pre∧J (runT tell (zBp m.vars m.cons k pre) s).2 vals' w'):=ih
   have hvn:v<m.vars.length:=by omega
   have HPO:Hid (zIV m.vars pre):=hpo
   have HPL:Hid (pre.length=v):=hpl
   have HVK:Hid (v+(k+1)=m.vars.length):=hvk
   have hbd:=zEO m hm v hvn
   have HRR:Hid (zBp m.vars m.cons (k+1) pre=(zCB (zAE m.vars v).lo (zAE m.vars v).hi).flatMap (fL m.vars m.cons k pre)):=by
    show _=_
    rw[zJH,hpl]
   obtain⟨R,hR⟩:∃R,runT tell (zBp m.vars m.cons (k+1) pre) s=R:=⟨_,rfl⟩
   rw[hR]
   rw[HRR.out] at hR
   have HR:=(show Hid _ from hR)
   obtain⟨hlen,hown,cV,cT,cM,mv,cD,hdue,cB,cF⟩:=hJ.at9 s vals w hI
   obtain⟨a1,c1,hsv,_,hvr⟩:=mv
   have hvv:m.vars[v]? = some (zAE m.vars v):=by unfold zAE;rw[List.getD_eq_getElem?_getD,List.getElem?_eq_getElem hvn];rfl
   obtain⟨_,bv,ov,hav,hlv,_,e1,e2⟩:=hvr v _ hvv
   subst hav
   rw[hsv] at cM
   obtain⟨lo,hlo⟩:∃lo,(zAE m.vars v).lo=lo:=⟨_,rfl⟩
   obtain⟨hi,hhi⟩:∃hi,(zAE m.vars v).hi=hi:=⟨_,rfl⟩
   have hvo:=zHO m hm v _ hvv
   have HRI:Hid (∀(wr:World) (n:Nat),FrI m tell J v k pre R wr n→∃(x:Int) (vals:List Int) (s:σ),lo≤x∧x≤hi+1∧n=(hi+1 - x).toNat∧J s vals wr∧vals.take (v+1)=pre++[x]∧runT tell ((zCB x hi).flatMap (fL m.vars m.cons k pre)) s=R):=fun wr n h=>by
    rw[←hlo,←hhi];exact h
   have HIR:Hid (∀(wr:World) (x:Int) (vals:List Int) (s:σ),lo≤x→x≤hi+1→J s vals wr→vals.take (v+1)=pre++[x]→runT tell ((zCB x hi).flatMap (fL m.vars m.cons k pre)) s=R→FrI m tell J v k pre R wr (hi+1 - x).toNat):=fun wr x vals s h1 h2 h3 h4 h5=>by
    rw[←hlo] at h1
    rw[←hhi] at h2 h5 ⊢
    exact⟨x,vals,s,h1,h2,rfl,h3,h4,h5⟩
   have HM:Hid (zAI m=0):=hm
   have HSV:Hid (q.sv=.slice (some ⟨bv,ov,none⟩) m.vars.length c1):=hsv
   have HVR:Hid (∀Y,VArg Y q.sv m.vars→bv<Y.heap.size∧Y.cell? ⟨bv,ov+v * 3+1,none⟩=some (.int .i64 lo)∧Y.cell? ⟨bv,ov+v * 3+2,none⟩=some (.int .i64 hi)):=fun Y hY=>by
    obtain⟨a',c',h1,_,h2⟩:=hY
    rw[hsv] at h1
    injection h1 with h3 _ _
    obtain⟨_,b',o',h4,h5,_,h6,h7⟩:=h2 v _ hvv
    rw[←h3] at h4
    injection h4 with h4
    injection h4 with h8 h9
    subst h8 h9
    rw[hlo] at h6
    rw[hhi] at h7
    exact⟨h5,h6,h7⟩
   have HLH:Hid (lo=(zAE m.vars v).lo∧hi=(zAE m.vars v).hi):=⟨hlo.symm,hhi.symm⟩
   have hn6:m.vars.length≤6:=(zAc m hm).2.1
   have hlh:lo≤hi:=by omega
   have hlo50:-50≤lo:=by omega
   have hhi50:hi≤50:=by omega
   rw[hlo] at e1
   rw[hlo,hhi] at HR
   have lV:=World.block_lt_of_cell? w _ cV
   have lM:=World.block_lt_of_cell? w _ cM
   have lR:q.bR<w.heap.size:=(hown.lt q.bR rfl).2
   have hcv:w.frozen? ⟨q.bR,v,none⟩=false:=hown.frozenAt v
   obtain⟨z0,hz0⟩:∃z0,vals[v]? = some z0:=⟨vals[v]'(by omega),by rw[List.getElem?_eq_getElem (by omega)]⟩
   have hc0:w.cell? ⟨q.bR,v,none⟩=some (.int .i64 z0):=by rw[hown.cellAt v (by omega),List.getElem?_map,hz0];rfl
   have HS1:Hid (J s (vals.set v lo) ((w.setCell ⟨q.bR,v,none⟩ (.int .i64 lo)).drew)):=hJ.below s _ _ _ (hJ.set s vals w v lo hI hvn) (Below.refl _ _).drew
   have HTK:Hid ((vals.set v lo).take (v+1)=pre++[lo]):=zHj vals v pre lo (by omega) htk
   have p1:(v:Int)<(m.vars.length:Int):=by omega
   have p2:((v:Int)==(m.vars.length:Int))=false:=by simp only[beq_eq_false_iff_ne,ne_eq];omega
   unfold EaB.caps
   clear hz0 hI hJ hsv hvr hvv hown hdue cB cF cD cT hpo htk hlo hhi hR ih hvo hbd
   go_enter Tryz.func131,Tryz.ntmps131
   go_wp2_with fail
   go_cut [] (fun wx=>Hid (J s (vals.set v lo) wx))
   case first =>
    go_region_law (fail)
    all_goals (go_wp2_with fail;go_meet)
    all_goals exact HS1.out
   case rest =>
    have HS2:Hid (J s (vals.set v lo) wc):=hcut
    clear hcut HS1 cV cM e1 e2 lV lM lR hcv hc0
    go_wp2_with fail
    go_loopw [] (fun wr=>∃n,FrI m tell J v k pre R wr n) (fun wr=>zB3 (FrI m tell J v k pre R wr))
    case atStart=>exact⟨_,HIR.out wc lo _ s (Int.le_refl _) (by omega) HS2.out HTK.out HR.out⟩
    case round =>
     have hsp:=zDu hrel
     obtain⟨NN,hNN⟩:∃NN,zB3 (FrI m tell J v k pre R wr)=NN:=⟨_,rfl⟩
     have HNN:Hid (zB3 (FrI m tell J v k pre R wr)=NN):=hNN
     rw[hNN] at hsp
     obtain⟨x,vls,st,hx1,hx2,hn,hJw,htk,hrun⟩:=HRI.out _ _ hsp
     clear hrel hsp hNN
     obtain⟨hlen1,hown,cV,cT,cM,mv,cD,hdue,cB,cF⟩:=HJ.out.at9 st vls wr hJw
     obtain⟨tl1,tl2⟩:=zDR vls v pre x HPL.out htk
     obtain⟨lbv,e1,e2⟩:=HVR.out wr mv
     rw[HSV.out] at cM
     have hcx:wr.cell? ⟨q.bR,v,none⟩=some (.int .i64 x):=by rw[hown.cellAt v (by omega),List.getElem?_map,tl2];rfl
     have lV:=World.block_lt_of_cell? wr _ cV
     have lM:=World.block_lt_of_cell? wr _ cM
     have lR:q.bR<wr.heap.size:=(hown.lt q.bR rfl).2
     have HJW:Hid (J st vls wr):=hJw
     have HTL:Hid (vls.take v=pre):=tl1
     have HTW:Hid (vls.take (v+1)=pre++[x]):=htk
     have HRW:Hid (runT tell ((zCB x hi).flatMap (fL m.vars m.cons k pre)) st=R):=hrun
     have HN:Hid (NN=(hi+1 - x).toNat):=hn
     clear hJw htk hrun hn tl1 tl2 mv hlen1 cT cF
     by_cases hxh:x≤hi
     ·obtain⟨cdx,hda⟩:=hdue v hvn
      obtain⟨dx,hdx⟩:∃dx,q.dv v=dx:=⟨_,rfl⟩
      have HDX:Hid (q.dv v=dx):=hdx
      rw[hdx] at cdx hda
      obtain⟨a8,c8,hdx8,_,_⟩:=hda
      obtain⟨n8,hn8⟩:∃n8,(dueP m.cons v).length=n8:=⟨_,rfl⟩
      rw[hn8] at hdx8
      subst hdx8
      have HS:Hid (∀Y s vals,J s vals Y→Y.cell? ⟨q.bD,0,none⟩=some (.slice (some ⟨q.B,0,none⟩) m.vars.length m.vars.length)∧Y.cell? ⟨q.B,v,none⟩=some (.slice a8 n8 c8)∧Y.cell? ⟨q.bB,0,none⟩=some (.func (.func 130) #[] #[.pointer (some ⟨q.bV,0,none⟩)])∧Y.cell? ⟨q.bF,0,none⟩=some (.func (.func 131) #[] q.caps)):=fun Y s vals hY=>by
       have hz:=HJ.out.at9 s vals Y hY
       exact⟨hz.cD,by rw[←HDX.out];exact (hz.due v hvn).1,hz.cB,hz.cF⟩
      have HCF:Hid (∀Y,J st vls Y→Calls Tryz.prog 132 #[.slice a8 n8 c8,.func (.func 130) #[] #[.pointer (some ⟨q.bV,0,none⟩)]] Y fun e w'=>e=.returned (.bool (!okD m.cons v (pre++[x])))∧J st vls w'):=fun Y hY=>by
       have hz:=HJ.out.at9 st vls Y hY
       have hz2:=(hz.due v hvn).2
       rw[HDX.out] at hz2
       refine (zEv 130 _ (fun c=>!zAN c vls) (dueP m.cons v) _ Y hz2 ⟨zFe,fun t vv vc vr vl w' ht hb hk=>?_⟩).mono ?_
       ·obtain⟨ht1,ht2⟩:=List.mem_filter.1 ht
        have hl9:zA5 t=v:=by simpa using ht2
        obtain⟨j,hj⟩:=List.mem_iff_getElem?.1 ht1
        have ho:=hz.own
        rw[←hz.len] at ho
        refine zIC t vls vv vc vr vl _ q.bV w' hk (zCf (zAD ho hb)) (by rw[hz.len];exact zFx m HM.out j t hj) (zLl m HM.out t ht1 vls (pre++[x]) ?_ ?_ ?_ ?_) ((hb.cell (World.block_lt_of_cell? Y _ hz.cV)).trans (by rw[hz.cV,hz.len]))
        ·rw[List.length_append,HPL.out,hl9];simp
        ·rw[List.length_append,HPL.out];exact HTW.out
        ·rw[List.length_append,HPL.out];simp;omega
        ·exact zFQ m.vars pre x HPO.out (by rw[HPL.out];exact (HLH.out).1▸hx1) (by rw[HPL.out];exact (HLH.out).2▸hxh)
       ·rintro e w' ⟨rfl,hb⟩
        exact⟨by rw[zIB m HM.out v vls (pre++[x]) HTW.out],HJ.out.below _ _ _ _ hY hb⟩
      have hwx:IntKind.i64.wrap (x+1)=x+1:=by rw[IntKind.wrap_i64];omega
      have hwv:IntKind.i64.wrap ((v:Int)+1)=((v+1:Nat):Int):=by rw[IntKind.wrap_i64];omega
      have hx50:x≤50:=by omega
      have HSP:Hid (runT tell (fL m.vars m.cons k pre x++(zCB (x+1) hi).flatMap (fL m.vars m.cons k pre)) st=R):=by
       show _=_
       rw[←HRW.out,zJI x hi hxh,List.flatMap_cons]
      have HGO:Hid (∀(Y:World) (s':σ) (vals':List Int),J s' vals' Y→vals'.take (v+1)=pre++[x]→runT tell ((zCB (x+1) hi).flatMap (fL m.vars m.cons k pre)) s'=R→FrI m tell J v k pre R (Y.setCell ⟨q.bR,v,none⟩ (.int .i64 (x+1))) (hi+1 - (x+1)).toNat):=fun Y s' vals' h1 h2 h3=>by
       have hle:=(HJ.out.at9 s' vals' Y h1).len
       exact HIR.out _ (x+1) (vals'.set v (x+1)) s' (by omega) (by omega) (HJ.out.set s' vals' Y v (x+1) h1 hvn) (zHj vals' v pre (x+1) (by omega) (zDR vals' v pre x HPL.out h2).1) h3
      have HLT:Hid ((hi+1 - (x+1)).toNat<NN):=by
       show _<_
       rw[HN.out];omega
      have HCR:Hid (∀Y s' vals',J s' vals' Y→vals'.take (v+1)=pre++[x]→Y.cell? ⟨q.bV,0,none⟩=some (.slice (some ⟨q.bR,0,none⟩) m.vars.length m.vars.length)∧Y.cell? ⟨q.bR,v,none⟩=some (.int .i64 x)∧Y.frozen? ⟨q.bR,v,none⟩=false∧q.bV<Y.heap.size∧q.bR<Y.heap.size):=fun Y s' vals' h1 h2=>by
       have hz:=HJ.out.at9 s' vals' Y h1
       refine⟨hz.cV,?_,hz.own.frozenAt v,World.block_lt_of_cell? Y _ hz.cV,(hz.own.lt q.bR rfl).2⟩
       rw[hz.own.cellAt v (by omega),List.getElem?_map,(zDR vals' v pre x HPL.out h2).2];rfl
      clear hdue hown
      cases hok:okD m.cons v (pre++[x])
      ·have HR2:Hid (runT tell ((zCB (x+1) hi).flatMap (fL m.vars m.cons k pre)) st=R):=by
        have h:=HSP.out
        rw[show fL m.vars m.cons k pre x=[] by unfold fL;rw[HPL.out,hok];rfl] at h
        exact h
       rw[hok] at HCF
       clear hok HSP HRW
       go_wp2
       go_quiet (fail)
       go_wp2_with fail
       have HJ0:=hid0 (HJ.out.below _ _ _ _ HJW.out (below_drewN (Below.refl _ _) nq))
       have hHeld0:=HS.out _ _ _ (HJ.out.below _ _ _ _ HJ0.out (Below.refl _ _).drew)
       refine wp_region_held_drew (S:=fun Y=>Y.cell? ⟨q.bD,0,none⟩=some (.slice (some ⟨q.B,0,none⟩) m.vars.length m.vars.length)∧Y.cell? ⟨q.B,v,none⟩=some (.slice a8 n8 c8)∧Y.cell? ⟨q.bB,0,none⟩=some (.func (.func 130) #[] #[.pointer (some ⟨q.bV,0,none⟩)])∧Y.cell? ⟨q.bF,0,none⟩=some (.func (.func 131) #[] q.caps)) (by kernel_rfl) hHeld0 (fun hu0=>?_)
       clear hu0
       refine wpAnyH_take (i:=0) (v:=?v0) rfl (by kernel_rfl) (by kernel_rfl) (by kernel_rfl) (fun _ _ _ h=>h) (Or.inl ⟨by rfl,?y0⟩) hHeld0 ?r0
       case y0=>intro wq hSw;obtain⟨q0,q1,q2,q3⟩:=hSw;go_simp;with_reducible rfl
       refine wpAnyH_take (i:=1) (v:=?v1) rfl (by kernel_rfl) (by kernel_rfl) (by kernel_rfl) (fun _ _ _ h=>h) (Or.inl ⟨by rfl,?y1⟩) hHeld0 ?r1
       case y1=>intro wq hSw;obtain⟨q0,q1,q2,q3⟩:=hSw;go_simp;with_reducible rfl
       refine wpAnyH_take (i:=2) (v:=?v2) rfl (by kernel_rfl) (by kernel_rfl) (by kernel_rfl) (fun _ _ _ h=>h) (Or.inl ⟨by rfl,?y2⟩) hHeld0 ?r2
       case y2=>intro wq hSw;obtain⟨q0,q1,q2,q3⟩:=hSw;go_simp;with_reducible rfl
       refine wpAnyH_take (i:=3) (v:=?v3) rfl (by kernel_rfl) (by kernel_rfl) (by kernel_rfl) (fun _ _ _ h=>h) (Or.inl ⟨by rfl,?y3⟩) hHeld0 ?r3
       case y3=>intro wq hSw;obtain⟨q0,q1,q2,q3⟩:=hSw;go_simp;with_reducible rfl
       refine wpAnyH_take (i:=4) (v:=?v4) rfl (by kernel_rfl) (by kernel_rfl) (by kernel_rfl) (fun _ _ _ h=>h) (Or.inl ⟨by rfl,?y4⟩) hHeld0 ?r4
       case y4=>intro wq hSw;obtain⟨q0,q1,q2,q3⟩:=hSw;go_simp;with_reducible rfl
       refine wpAnyH_ready (rs:=[5]) (by kernel_rfl) (by simp) ?_
       refine AllReadyH.cons rfl (fun K hK=>?_) AllReadyH.nil
       go_simp
       refine (HCF.out _ (HJ.out.below _ _ _ _ HJ0.out (Below.refl _ _).drew)).mono ?_
       rintro e w3 ⟨rfl,hj3⟩
       dsimp only
       have HJ3:=hid0 hj3
       have hHeld3:=HS.out _ _ _ hj3
       refine hK.out _ _ hHeld3 (fun hu3=>?_)
       clear hu3
       clear hK hj3
       refine wpAnyH_take (i:=6) (v:=?v6) rfl (by kernel_rfl) (by kernel_rfl) (by kernel_rfl) (fun _ _ _ h=>h) (Or.inl ⟨by rfl,?y6⟩) hHeld3 ?r6
       case y6=>intro wq hSw;obtain⟨q0,q1,q2,q3⟩:=hSw;go_simp;with_reducible rfl
       refine wpAnyH_take (i:=7) (v:=?v7) rfl (by kernel_rfl) (by kernel_rfl) (by kernel_rfl) (fun _ _ _ h=>h) (Or.inl ⟨by rfl,?y7⟩) hHeld3 ?r7
       case y7=>intro wq hSw;obtain⟨q0,q1,q2,q3⟩:=hSw;go_simp;with_reducible rfl
       refine wpAnyH_take (i:=8) rfl (by kernel_rfl) (by kernel_rfl) (by kernel_rfl) (fun _ _ _ h=>h) (Or.inr ⟨by rfl,rfl⟩) hHeld3 ?_
       refine wpAnyH_take (i:=9) rfl (by kernel_rfl) (by kernel_rfl) (by kernel_rfl) (fun _ _ _ h=>h) (Or.inr ⟨by rfl,rfl⟩) hHeld3 ?_
       refine wpAnyH_take (i:=10) rfl (by kernel_rfl) (by kernel_rfl) (by kernel_rfl) (fun _ _ _ h=>h) (Or.inr ⟨by rfl,rfl⟩) hHeld3 ?_
       refine wpAnyH_take (i:=11) rfl (by kernel_rfl) (by kernel_rfl) (by kernel_rfl) (fun _ _ _ h=>h) (Or.inr ⟨by rfl,rfl⟩) hHeld3 ?_
       refine wpAnyH_take (i:=12) rfl (by kernel_rfl) (by kernel_rfl) (by kernel_rfl) (fun _ _ _ h=>h) (Or.inr ⟨by rfl,rfl⟩) hHeld3 ?_
       refine wpAnyH_take (i:=13) (v:=?v13) rfl (by kernel_rfl) (by kernel_rfl) (by kernel_rfl) (fun _ _ _ h=>h) (Or.inl ⟨by rfl,?y13⟩) hHeld3 ?r13
       case y13=>intro wq hSw;obtain⟨q0,q1,q2,q3⟩:=hSw;go_simp;with_reducible rfl
       refine wpAnyH_done (by kernel_rfl) ?_ _
       obtain⟨g1,g2,g3,g4,g5⟩:=HCR.out _ _ _ HJ3.out HTW.out
       clear hHeld0 hHeld3
       go_simp
       go_wp2_with fail
       exact⟨⟨_,HGO.out _ _ _ HJ3.out HTW.out HR2.out⟩,Nat.lt_of_le_of_lt (zCl (HGO.out _ _ _ HJ3.out HTW.out HR2.out)) (by rw[HNN.out];exact HLT.out)⟩
      ·have HR2:Hid ((if (runT tell (zBp m.vars m.cons k (pre++[x])) st).1 then runT tell ((zCB (x+1) hi).flatMap (fL m.vars m.cons k pre)) (runT tell (zBp m.vars m.cons k (pre++[x])) st).2 else runT tell (zBp m.vars m.cons k (pre++[x])) st)=R):=by
        have h:=HSP.out
        rw[zEb] at h
        have e:fL m.vars m.cons k pre x=zBp m.vars m.cons k (pre++[x]):=by unfold fL;rw[HPL.out,hok];rfl
        rw[e] at h
        exact h
       rw[hok] at HCF
       obtain⟨⟨b1,s1⟩,hQ1⟩:∃Q1,runT tell (zBp m.vars m.cons k (pre++[x])) st=Q1:=⟨_,rfl⟩
       have HFR:Hid (∀Y,J st vls Y→Calls Tryz.prog 131 (#[.int .i64 ((v:Int)+1)]++q.caps) Y fun e w'=>e=.returned (.bool b1)∧∃vals',vals'.take (v+1)=pre++[x]∧J s1 vals' w'):=fun Y hY=>by
        have h:=HIH.out (v+1) (pre++[x]) vls st Y (by have:=HVK.out;omega) (by rw[List.length_append,HPL.out];rfl) HTW.out (zFQ m.vars pre x HPO.out (by rw[HPL.out];exact (HLH.out).1▸hx1) (by rw[HPL.out];exact (HLH.out).2▸hxh)) hY
        rw[hQ1] at h
        have e:((v+1:Nat):Int)=(v:Int)+1:=by omega
        rw[e] at h
        exact h
       rw[hQ1] at HR2
       clear hok HSP HRW hQ1
       go_wp2
       go_quiet (fail)
       go_wp2_with fail
       have HJ0:=hid0 (HJ.out.below _ _ _ _ HJW.out (below_drewN (Below.refl _ _) nq))
       have hHeld0:=HS.out _ _ _ (HJ.out.below _ _ _ _ HJ0.out (Below.refl _ _).drew)
       refine wp_region_held_drew (S:=fun Y=>Y.cell? ⟨q.bD,0,none⟩=some (.slice (some ⟨q.B,0,none⟩) m.vars.length m.vars.length)∧Y.cell? ⟨q.B,v,none⟩=some (.slice a8 n8 c8)∧Y.cell? ⟨q.bB,0,none⟩=some (.func (.func 130) #[] #[.pointer (some ⟨q.bV,0,none⟩)])∧Y.cell? ⟨q.bF,0,none⟩=some (.func (.func 131) #[] q.caps)) (by kernel_rfl) hHeld0 (fun hu0=>?_)
       clear hu0
       refine wpAnyH_take (i:=0) (v:=?v0b) rfl (by kernel_rfl) (by kernel_rfl) (by kernel_rfl) (fun _ _ _ h=>h) (Or.inl ⟨by rfl,?y0b⟩) hHeld0 ?r0b
       case y0b=>intro wq hSw;obtain⟨q0,q1,q2,q3⟩:=hSw;go_simp;with_reducible rfl
       refine wpAnyH_take (i:=1) (v:=?v1b) rfl (by kernel_rfl) (by kernel_rfl) (by kernel_rfl) (fun _ _ _ h=>h) (Or.inl ⟨by rfl,?y1b⟩) hHeld0 ?r1b
       case y1b=>intro wq hSw;obtain⟨q0,q1,q2,q3⟩:=hSw;go_simp;with_reducible rfl
       refine wpAnyH_take (i:=2) (v:=?v2b) rfl (by kernel_rfl) (by kernel_rfl) (by kernel_rfl) (fun _ _ _ h=>h) (Or.inl ⟨by rfl,?y2b⟩) hHeld0 ?r2b
       case y2b=>intro wq hSw;obtain⟨q0,q1,q2,q3⟩:=hSw;go_simp;with_reducible rfl
       refine wpAnyH_take (i:=3) (v:=?v3b) rfl (by kernel_rfl) (by kernel_rfl) (by kernel_rfl) (fun _ _ _ h=>h) (Or.inl ⟨by rfl,?y3b⟩) hHeld0 ?r3b
       case y3b=>intro wq hSw;obtain⟨q0,q1,q2,q3⟩:=hSw;go_simp;with_reducible rfl
       refine wpAnyH_take (i:=4) (v:=?v4b) rfl (by kernel_rfl) (by kernel_rfl) (by kernel_rfl) (fun _ _ _ h=>h) (Or.inl ⟨by rfl,?y4b⟩) hHeld0 ?r4b
       case y4b=>intro wq hSw;obtain⟨q0,q1,q2,q3⟩:=hSw;go_simp;with_reducible rfl
       refine wpAnyH_ready (rs:=[5]) (by kernel_rfl) (by simp) ?_
       refine AllReadyH.cons rfl (fun K hK=>?_) AllReadyH.nil
       go_simp
       refine (HCF.out _ (HJ.out.below _ _ _ _ HJ0.out (Below.refl _ _).drew)).mono ?_
       rintro e w3 ⟨rfl,hj3⟩
       dsimp only
       have HJ3:=hid0 hj3
       have hHeld3:=HS.out _ _ _ hj3
       refine hK.out _ _ hHeld3 (fun hu3=>?_)
       clear hu3
       clear hK hj3
       refine wpAnyH_take (i:=6) (v:=?v6b) rfl (by kernel_rfl) (by kernel_rfl) (by kernel_rfl) (fun _ _ _ h=>h) (Or.inl ⟨by rfl,?y6b⟩) hHeld3 ?r6b
       case y6b=>intro wq hSw;obtain⟨q0,q1,q2,q3⟩:=hSw;go_simp;with_reducible rfl
       refine wpAnyH_take (i:=7) (v:=?v7b) rfl (by kernel_rfl) (by kernel_rfl) (by kernel_rfl) (fun _ _ _ h=>h) (Or.inl ⟨by rfl,?y7b⟩) hHeld3 ?r7b
       case y7b=>intro wq hSw;obtain⟨q0,q1,q2,q3⟩:=hSw;go_simp;with_reducible rfl
       refine wpAnyH_take (i:=8) (v:=?v8b) rfl (by kernel_rfl) (by kernel_rfl) (by kernel_rfl) (fun _ _ _ h=>h) (Or.inl ⟨by rfl,?y8b⟩) hHeld3 ?r8b
       case y8b=>intro wq hSw;obtain⟨q0,q1,q2,q3⟩:=hSw;go_simp;with_reducible rfl
       refine wpAnyH_take (i:=9) (v:=?v9b) rfl (by kernel_rfl) (by kernel_rfl) (by kernel_rfl) (fun _ _ _ h=>h) (Or.inl ⟨by rfl,?y9b⟩) hHeld3 ?r9b
       case y9b=>intro wq hSw;obtain⟨q0,q1,q2,q3⟩:=hSw;go_simp;with_reducible rfl
       refine wpAnyH_take (i:=10) (v:=?v10b) rfl (by kernel_rfl) (by kernel_rfl) (by kernel_rfl) (fun _ _ _ h=>h) (Or.inl ⟨by rfl,?y10b⟩) hHeld3 ?r10b
       case y10b=>intro wq hSw;obtain⟨q0,q1,q2,q3⟩:=hSw;go_simp;with_reducible rfl
       refine wpAnyH_ready (rs:=[11]) (by kernel_rfl) (by simp) ?_
       refine AllReadyH.cons rfl (fun K hK=>?_) AllReadyH.nil
       go_simp
       refine (HFR.out _ HJ3.out).mono ?_
       rintro e w4 ⟨rfl,vals4,ht4,hj4⟩
       dsimp only
       have HJ4:=hid0 hj4
       have HT4:=hid0 ht4
       have hHeld4:=HS.out _ _ _ hj4
       refine hK.out _ _ hHeld4 (fun hu4=>?_)
       clear hu4
       clear hK hj4 ht4
       refine wpAnyH_take (i:=12) (v:=?v12b) rfl (by kernel_rfl) (by kernel_rfl) (by kernel_rfl) (fun _ _ _ h=>h) (Or.inl ⟨by rfl,?y12b⟩) hHeld4 ?r12b
       case y12b=>intro wq hSw;obtain⟨q0,q1,q2,q3⟩:=hSw;go_simp;with_reducible rfl
       refine wpAnyH_take (i:=13) (v:=?v13b) rfl (by kernel_rfl) (by kernel_rfl) (by kernel_rfl) (fun _ _ _ h=>h) (Or.inl ⟨by rfl,?y13b⟩) hHeld4 ?r13b
       case y13b=>intro wq hSw;obtain⟨q0,q1,q2,q3⟩:=hSw;go_simp;with_reducible rfl
       refine wpAnyH_done (by kernel_rfl) ?_ _
       obtain⟨g1,g2,g3,g4,g5⟩:=HCR.out _ _ _ HJ4.out HT4.out
       clear hHeld0 hHeld3 hHeld4
       go_simp
       cases b1
       ·have HR3:Hid (R=(false,s1)):=HR2.out.symm
        clear HR2
        go_wp2
        go_ret
        rw[HR3.out]
        exact⟨rfl,vals4,(zDR vals4 v pre x HPL.out HT4.out).1,HJ4.out⟩
       ·have HR3:Hid (runT tell ((zCB (x+1) hi).flatMap (fL m.vars m.cons k pre)) s1=R):=HR2.out
        clear HR2
        go_wp2_with fail
        exact⟨⟨_,HGO.out _ _ _ HJ4.out HT4.out HR3.out⟩,Nat.lt_of_le_of_lt (zCl (HGO.out _ _ _ HJ4.out HT4.out HR3.out)) (by rw[HNN.out];exact HLT.out)⟩
     ·have HR2:Hid (runT tell [] st=R):=by
       have h:=HRW.out
       rw[zKO x hi (by omega)] at h
       exact h
      clear HRW hdue hown
      go_wp2
      go_quiet (fail)
      go_wp2
      go_ret
      rw[show R=(true,st) from HR2.out.symm]
      exact⟨rfl,vls,HTL.out,HJ.out.below _ _ _ _ HJW.out (below_drewN (Below.refl _ _) _)⟩
end Go.Proofs.YtdjbejlbmaiocafGreatDoor
