/- What the proof leans on, part 24. -/
import Derived.Test.YtdjbejlbmaiocagGreatDoorPartAw
import Derived.Test.YtdjbejlbmaiocagGreatDoorPartAp
import Derived.Test.YtdjbejlbmaiocagGreatDoorPartAq
set_option maxRecDepth 100000
set_option maxHeartbeats 6400000
namespace Go.Proofs.YtdjbejlbmaiocagGreatDoor
open Go.RowKit Go.Maps
theorem zKV {p:Nat→Prop} (h:∃n,p n):∃n,p n∧∀m,p m→n≤m:=by
 obtain⟨n,hn⟩:=h;have:∀(k n:Nat),n≤k→p n→∃n,p n∧∀m,p m→n≤m:=by
  intro k
  induction k with
  | zero=>intro n hk hn;exact⟨n,hn,fun m _=>by omega⟩
  | succ k ih =>
    intro n hk hn;by_cases h:∃m,p m∧m<n
    ·obtain⟨m,hm,hlt⟩:=h
     exact ih m (by omega) hm
    ·refine⟨n,hn,fun m hm=>?_⟩
     apply Classical.byContradiction;intro hl;exact h ⟨m,hm,by omega⟩
 exact this n n (Nat.le_refl _) hn
open Classical in
noncomputable def zES (p:Nat→Prop):Nat:=if h:∃n,p n then Classical.choose (zKV h) else 0
theorem zHR {p:Nat→Prop} (h:∃n,p n):p (zES p):=by
 unfold zES;rw[dif_pos h];exact (Classical.choose_spec (zKV h)).1
theorem zGz {p:Nat→Prop} {n:Nat} (h:p n):zES p≤n:=by
 have he:∃n,p n:=⟨n,h⟩;unfold zES;rw[dif_pos he];exact (Classical.choose_spec (zKV he)).2 n h
structure SkO (vs:List MVar) (S:Sk):Prop where
 prf:S.proof.length≤6000
 cs:S.cs.length+S.fuel≤1000
 path:zH9 vs S.path
theorem zM0 (vs:List MVar) (pt:List (List Nat)) (S:Sk) (h:SkO vs S) (h0:(zBV vs pt S).1=0):SkO vs (zBV vs pt S).2:=by
 unfold zBV at h0 ⊢
 split
 ·rename_i hc;rw[if_pos hc] at h0;cases h0
 ·rename_i hc0
  rw[if_neg hc0] at h0
  split
  ·rename_i hc;rw[if_pos hc] at h0;cases h0
  ·rename_i hc1
   rw[if_neg hc1] at h0
   split
   ·rename_i hc;rw[if_pos hc] at h0;cases h0
   ·refine⟨by simp only;omega,?_,zP3 vs _ h.path _⟩
    have:=h.cs;simp only[List.length_append,List.length_singleton];omega
theorem zQa (vs:List MVar) (hv:zAd vs) (pt:List (List Nat)) (S:Sk) (h:SkO vs S) (hf:¬zBf (zAh vs (zAt vs pt S))<0):SkO vs (zFH (zAh vs (zAt vs pt S)) S) :=
 ⟨h.prf,h.cs,zR4 vs hv pt S h.path hf⟩
def NxI (W w:World) (s r mb:Nat) (sv pv:Value) (vs:List MVar) (pt:List (List Nat)) (R:Int×List Int×Sk) (wr:World) (n:Nat):Prop :=
 ∃(S:Sk) (cv prv pav:Value) (L:List SV),zDF vs S=n∧zAa vs pt S=R∧SkO vs S∧SkD W wr s r mb sv pv cv prv pav L (S.proof.map fun x=>zAH vs x.cla) S∧TFr w wr
theorem zLa (vs:List MVar) (hva:zAW vs) (hn1:1≤vs.length) (pt:List (List Nat)) (W:World) (s r mb:Nat) (sv pv cv prv pav:Value) (hB:SkB W s r mb sv pv vs pt) (L:List SV) (S:Sk) (hS:SkO vs S) (w:World)
 (hD:SkD W w s r mb sv pv cv prv pav L (S.proof.map fun x=>zAH vs x.cla) S) :
 Calls Tryz.prog 73 #[.pointer (some ⟨s,0,none⟩)] w fun e w'=>∃x,e=.returned (.tuple #[.int .i64 (zAa vs pt S).1,x])∧w'.ownsRow w.heap.size 3 1 x (zAa vs pt S).2.1.length ((zAa vs pt S).2.1.map (Value.int .i64))∧TFr w w' ∧
  ∃cv' prv' pav' L',SkD W w' s r mb sv pv cv' prv' pav' L' ((zAa vs pt S).2.2.proof.map fun x=>zAH vs x.cla) (zAa vs pt S).2.2:=by
 obtain⟨R,hR⟩:∃R,zAa vs pt S=R:=⟨_,rfl⟩;rw[hR];obtain⟨i0,hi0,hz0,hz1,hz2⟩:=info_parts Tryz.infoLit;have HVO:Hid (zAW vs):=hva;have HSB:Hid (SkB W s r mb sv pv vs pt):=hB;have HI:Hid (∃n,NxI W w s r mb sv pv vs pt R w n):=⟨_,S,cv,prv,pav,L,rfl,hR,hS,hD,TFr.refl _⟩;obtain⟨asv,csv,hsv⟩:∃a c,sv=.slice a vs.length c:=by obtain⟨a,c,h,_⟩:=(hB.keep w hD.fr).1;exact⟨a,c,h⟩
 subst hsv;clear hD hB hva hR hS;go_enter Tryz.func73,Tryz.ntmps73
 go_wp2_with fail
 go_loopw [] (fun wr=>∃n,NxI W w s r mb (.slice asv vs.length csv) pv vs pt R wr n) (fun wr=>zES (NxI W w s r mb (.slice asv vs.length csv) pv vs pt R wr))
 case atStart=>exact HI.out
 case round =>
  have hsp:=zHR hrel;obtain⟨N,hN⟩:∃N,zES (NxI W w s r mb (.slice asv vs.length csv) pv vs pt R wr)=N:=⟨_,rfl⟩;have HN:Hid (zES (NxI W w s r mb (.slice asv vs.length csv) pv vs pt R wr)=N):=hN;rw[hN] at hsp;clear hrel HI hN;obtain⟨S',cv',prv',pav',L',hop,hnx,hok,hd,htf⟩:=hsp;have HOP:Hid (zDF vs S'=N):=hop;have HNX:Hid (zAa vs pt S'=R):=hnx;have HOK:Hid (SkO vs S'):=hok;have HD:Hid (SkD W wr s r mb (.slice asv vs.length csv) pv cv' prv' pav' L' (S'.proof.map fun x=>zAH vs x.cla) S'):=hd
  have HTF:Hid (TFr w wr):=htf;obtain⟨apa,cpa,rfl⟩:=zAB hd.path;obtain⟨s0,s1,s2,s3,s4,s5,s6⟩:=hd.cells;have hp36:=zNm vs _ hok.path;obtain⟨l,hl⟩:∃l,zAt vs pt S'=l:=⟨_,rfl⟩;have HL:Hid (zAt vs pt S'=l):=hl;have HLE:Hid (∀Z,Below wr.heap.size wr Z→Calls Tryz.prog 132 #[.pointer (some ⟨r,0,none⟩),.slice apa S'.path.length cpa] Z fun e w'=>e=.returned (.int .u64 (l:Int))∧Below Z.heap.size Z w'):=fun Z hZ=>by
   rw[←hl];exact zLT vs HVO.out hn1 S'.cs pt S'.path r _ pv cv' _ Z ((hd.below hZ).rules HSB.out) (LOwn.arg (hd.below hZ).path)
  have hst:=zGV vs HVO.out.1 pt S';rw[hnx,hl] at hst;have hwl:∀i,l.testBit i=true→(zAD vs).testBit i=true:=fun i hi=>by rw[←hl] at hi;exact (zEf vs HVO.out.1 _ _ _ i hi).1
  have HWL:Hid (∀i,l.testBit i=true→(zAD vs).testBit i=true):=hwl;have HST:=(show Hid _ from hst)
  clear hop hnx hok hd htf hl hst hwl;go_wp2_with fail
  go_region_law
   (first
     | (rw[if_pos (by rfl)];go_simp;go_at_call 132;refine (HLE.out _ (Below.refl _ _).drew).mono ?_;rintro e w2 ⟨rfl,hb2⟩;have hB2:Below wr.heap.size wr w2:=(Below.refl _ _).drew.trans hb2;dsimp only))
  all_goals
   have HD2:=(show Hid _ from HD.out.below hB2)
   have HT2:Hid (TFr w w2):=HTF.out.trans (TFr.below hB2);clear hb2 hB2 s0 s1 s2 s3 s4 s5 s6 HD HTF;obtain⟨s0,s1,s2,s3,s4,s5,s6⟩:=HD2.out.cells;by_cases hl0:l=0
   ·have hst:=HST.out
    rw[if_pos hl0] at hst;subst hl0;go_wp2_with fail
    refine (zSR vs HVO.out hn1 pt W s r mb _ pv _ _ _ HSB.out L' S' HOK.out.prf HOK.out.cs hp36 HL.out w2 HD2.out).mono ?_;rintro e w3 ⟨rfl,ht3,cv3,prv3,pav3,L3,hd3⟩;have HT3:Hid (TFr w w3):=HT2.out.trans ht3;clear ht3;by_cases hv:(zBV vs pt S').1=0
    ·rw[if_pos hv] at hst
     have HNI:Hid (NxI W w s r mb (.slice asv vs.length csv) pv vs pt R w3 (zDF vs (zBV vs pt S').2)):=⟨_,cv3,prv3,pav3,L3,rfl,hst.symm,zM0 vs pt S' HOK.out hv,hd3,HT3.out⟩;have HLT:Hid (zDF vs (zBV vs pt S').2<N):=by rw[←HOP.out];exact zEg vs pt S' hv
     rw[hv];clear hst hv hd3 HST HLE;go_wp2
     go_roundw
     case rel=>exact⟨_,HNI.out⟩
     case measure=>exact Nat.lt_of_le_of_lt (zGz HNI.out) (by rw[HN.out];exact HLT.out)
    ·rw[if_neg hv] at hst
     have HST2:Hid (R=((zBV vs pt S').1,[],(zBV vs pt S').2)):=hst;have HD3:=(show Hid _ from hd3)
     obtain⟨vd,hvd⟩:∃vd,(zBV vs pt S').1=vd:=⟨_,rfl⟩;have HVD:Hid ((zBV vs pt S').1=vd):=hvd;rw[hvd] at hv ⊢;have hv':(vd != 0)=true:=by simpa using hv
     clear hst hd3 hvd HST HLE;go_wp2
     go_ret2
     rw[HST2.out,HVD.out];exact⟨_,rfl,World.ownsRow_nil _ _ _ _,HT3.out,_,_,_,_,HD3.out⟩
   ·have hst:=HST.out
    rw[if_neg hl0] at hst;have hl0':((l:Int)==0)=false:=by simpa using hl0
    obtain⟨st,hstp⟩:∃st,zAh vs l=st:=⟨_,rfl⟩;have HSTP:Hid (zAh vs l=st):=hstp;rw[hstp] at hst;have hstl:st.length≤6:=by rw[←hstp,zFf];exact HVO.out.1.1
    have HSR:Hid (∀r∈st,r.length≤100):=fun r hr=>by
     obtain⟨i,hi⟩:=List.mem_iff_getElem?.1 hr;have h1:=zFP (zBj vs l) (List.replicate vs.length []) i;have h2:(zB7 (zBj vs l) (List.replicate vs.length [])).getD i []=r:=by
      have:zB7 (zBj vs l) (List.replicate vs.length [])=st:=hstp;rw[this,List.getD_eq_getElem?_getD,hi];rfl
     rw[h2] at h1;have h3:=zEr vs l;have h4:((List.replicate vs.length ([]:List Int)).getD i []).length=0:=by
      rw[List.getD_eq_getElem?_getD,List.getElem?_replicate]
      split <;> rfl
     omega
    clear hstp;go_wp2_with fail
    refine (zOt vs HVO.out l HWL.out _ w2 (HSB.out.keep _ HD2.out.fr).1 (HSB.out.keep _ HD2.out.fr).2.2).mono ?_;rintro e w3 ⟨B,cells,rfl,hg3,hBs,hb3⟩;rw[HSTP.out] at hg3;have HG3:Hid (zFn w3 B vs.length cells st):=hg3;have HD3:=(show Hid _ from HD2.out.below hb3)
    have HT3:Hid (TFr w w3):=HT2.out.trans (TFr.below hb3);clear hb3 s0 s1 s2 s3 s4 s5 s6 HD2 HT2 HLE;obtain⟨s0,s1,s2,s3,s4,s5,s6⟩:=HD3.out.cells;go_wp2_with fail
    refine (zOv st hstl _ w3 HG3.out.rarg).mono ?_;rintro e w4 ⟨rfl,rfl⟩;obtain⟨ff,hff⟩:∃ff,zBf st=ff:=⟨_,rfl⟩;have HFF:Hid (zBf st=ff):=hff;rw[hff] at hst ⊢;by_cases hf0:ff<0
    ·rw[if_pos hf0] at hst
     have HST2:Hid (R=(1,st.flatten,S')):=hst;clear hst hff hg3;go_wp2_with fail
     refine (zOx st hstl HSR.out _ w4 HG3.out.rarg).mono ?_;rintro e w5 ⟨x,rfl,hox,hb5⟩;have HO5:Hid (w5.ownsRow w4.heap.size 3 1 x st.flatten.length (st.flatten.map (Value.int .i64))):=hox;have HD5:=(show Hid _ from HD3.out.below hb5)
     have HT5:Hid (TFr w w5):=HT3.out.trans (TFr.below hb5);have HLE4:Hid (w.heap.size≤w4.heap.size):=HT3.out.size;clear hox hb5;go_wp2
     go_ret2
     rw[HST2.out];exact⟨_,rfl,World.ownsRow.mono HO5.out HLE4.out,HT5.out,_,_,_,_,HD5.out⟩
    ·rw[if_neg hf0] at hst
     obtain⟨hfs,hfl⟩:=zF8 st (by rw[hff];exact hf0)
     rw[hff] at hfs hfl;obtain⟨v,rfl⟩:∃v:Nat,ff=(v:Int):=⟨ff.toNat,by omega⟩
     rw[Int.toNat_natCast] at hfl;have hvl:v<st.length:=by omega
     obtain⟨row,hrow⟩:∃row,st[v]? = some row:=⟨st[v],by rw[List.getElem?_eq_getElem hvl]⟩
     rw[List.getD_eq_getElem?_getD,hrow] at hfl;simp only[Option.getD_some] at hfl;obtain⟨htop,hlen,hrws,_⟩:=hg3;obtain⟨xr,hxr,hoxr⟩:=hrws v row hrow;obtain⟨axr,cxr,rfl⟩:=zAB hoxr;obtain⟨gx,hgx⟩:∃gx,axr=some ⟨gx,0,none⟩:=by
      rcases hoxr.2 with ⟨_,hn⟩ | ⟨g,cap,cur,he,_⟩
      ·omega
      ·cases he;exact⟨g,rfl⟩
     subst hgx;obtain⟨x0,hx0⟩:∃x0,row[0]? = some x0:=⟨row[0],by rw[List.getElem?_eq_getElem (by omega)]⟩
     have cB:w4.cell? ⟨B,v,none⟩=some (.slice (some ⟨gx,0,none⟩) row.length cxr):=by rw[htop.cellAt v (by omega)];exact hxr
     have lB:B<w4.heap.size:=(htop.lt B rfl).2;have cX:w4.cell? ⟨gx,0,none⟩=some (.int .i64 x0):=by rw[hoxr.cellAt 0 (by omega),List.getElem?_map,hx0];rfl
     have lX:gx<w4.heap.size:=(hoxr.lt gx rfl).2;have HPK:Hid (zP1 st=⟨(v:Int),4,x0⟩):=by
      show _=_;unfold zP1;have hgd:st.getD v []=row:=by rw[List.getD_eq_getElem?_getD,hrow];rfl
      rw[hff,Int.toNat_natCast,hgd,List.getD_eq_getElem?_getD,hx0];rfl
     have HST2:Hid (R=zAa vs pt (zFH st S')):=hst;have HOK2:Hid (SkO vs (zFH st S')):=by rw[←HSTP.out,←HL.out];exact zQa vs HVO.out.1 pt S' HOK.out (by rw[HL.out,HSTP.out,hff];exact hf0)
     have HOP2:Hid (zDF vs (zFH st S')<N):=by rw[←HOP.out,←HSTP.out,←HL.out];exact zFh vs HVO.out.1 pt S' (by rw[HL.out,HSTP.out,hff];exact hf0)
     have hvn:v<vs.length:=by omega
     have hvn':(v:Int)<(vs.length:Int):=by omega
     have hr1:0<row.length:=by omega
     have hr2:(0:Int)<(row.length:Int):=by omega
     have hr3:¬row=[]:=fun h=>by rw[h] at hr1;cases hr1
     have hWs:W.heap.size≤w4.heap.size:=HD3.out.fr.size;have hopa:w4.ownsRow W.heap.size 88 3 (.slice apa S'.path.length cpa) S'.path.length (zBx S'.path):=HD3.out.path;have hf1:¬((v:Int)<0):=by omega
     clear hst hff hrow hxr hx0 hoxr htop hrws hlen hfs hfl hvl HST hstl;go_wp2_with fail
     go_region_law
      (first
        | (rw[if_pos (by rfl)];refine zDn _ _ _ 38 rfl W.heap.size 88 i0 _ 3 24 Tryz.underClauseE hi0 hz0 hz1 hz2 rfl (by decide) _ _ _ rfl (hopa.drew.alloc _) ⟨w4.heap.size,0,none⟩ 1 1 (zEF ⟨(v:Int),4,x0⟩) rfl rfl (zNv w4.drew ⟨(v:Int),4,x0⟩) (by intro u hu;simp[zEF] at hu;rcases hu with rfl | rfl | rfl <;> rfl) ?_ ?_ ?_ ?_;(unfold maxLen;omega);omega;(simp;omega);intro v7 w7 hown7 hg7 hat7;obtain⟨a7,c7,hv7⟩:=zAB hown7;subst hv7
           have hbl7:=zA6 (HD3.out.below ((Below.refl _ _).drew.alloc (Nat.le_refl _) _)).blkS hg7 (hopa.drew.alloc _) (by decide)
           have t5:w7.cell? ⟨s,5,none⟩=some (.slice apa S'.path.length cpa):=blk9 hbl7 5 _ rfl;have z5:w7.frozen? ⟨s,5,none⟩=false:=frz9 hbl7 5;have l5:s<w7.heap.size:=(Array.getElem?_eq_some_iff.1 hbl7).1))
     all_goals
      have HNI:Hid (NxI W w s r mb (.slice asv vs.length csv) pv vs pt R (w7.setCell ⟨s,5,none⟩ (.slice a7 (S'.path.length+1) c7)) (zDF vs (zFH st S'))):=by
       have hb5:Below w4.heap.size w4 (w4.drew.alloc (.cells #[.int .i64 (v:Int),.int .i64 4,.int .i64 x0] 88)):=(Below.refl _ _).drew.alloc (Nat.le_refl _) _;have hpush:=HD3.out.pushp (l:=⟨(v:Int),4,x0⟩) hb5 hg7 hat7 rfl hown7;have hsk:SkD W (w7.setCell ⟨s,5,none⟩ (.slice a7 (S'.path.length+1) c7)) s r mb (.slice asv vs.length csv) pv cv' prv' (.slice a7 (S'.path.length+1) c7) L' ((zFH st S').proof.map fun x=>zAH vs x.cla) (zFH st S'):=by
        unfold zFH;rw[HPK.out];exact hpush
       exact⟨zFH st S',_,_,_,L',rfl,HST2.out.symm,HOK2.out,hsk,((HT3.out.trans (TFr.below hb5)).trans (TFr.grown (hopa.drew.alloc _) hg7 zTa)).trans (TFr.set hbl7 zKU 5 _)⟩
      go_wp2
      go_roundw
      case rel=>exact⟨_,HNI.out⟩
      case measure=>exact Nat.lt_of_le_of_lt (zGz HNI.out) (by rw[HN.out];exact HOP2.out)
structure PrEnd (m:Mod) (G:List Nat) (P:List MStep):Prop where
 stp:zBZ m G P=true
 cla:∀s∈P,claE m.vars s.cla=0
 thr:∀s∈P,zCG m.cons.length s=true
 lst:zIK P=true
theorem zJu (P:List MStep) (t:MStep):zIK (P++[t])=decide (t.cla.length=0):=by unfold zIK;simp
theorem zOy (vs:List MVar) (A:List Nat) (h:Nat) (h0:0∈A):zDf vs A h=true:=by
 unfold zDf zAf
 split
 ·rfl
 ·have:∀(f l:Nat),0<f→zBQ A f l=0:=by
   intro f l hf;cases f with
   | zero=>omega
   | succ f =>
     unfold zBQ;have hr:∀(cs:List Nat) (l:Nat),0∈cs→zAp cs l=none:=by
      intro cs
      induction cs with
      | nil=>intro l h;cases h
      | cons c t ih =>
        intro l hm;unfold zAp;by_cases hz:l &&& c=0
        ·rw[if_pos hz]
        ·rw[if_neg hz]
         rcases List.mem_cons.1 hm with he | hm
         ·rw[←he] at hz;simp at hz
         ·split <;> exact ih _ hm
     rw[hr A l h0]
  rw[this _ _ (Nat.succ_pos _)];rfl
theorem zOz (m:Mod) (hm:zAF m=0) (G:List Nat) (S:Sk) (hp:PrOk m G S) (hl:S.path.length≤36) (hz:zAt m.vars (ptsM m) S=0) :
 ((zBV m.vars (ptsM m) S).1=0→PrOk m G (zBV m.vars (ptsM m) S).2)∧((zBV m.vars (ptsM m) S).1=2→PrEnd m G (zBV m.vars (ptsM m) S).2.proof∧(zBV m.vars (ptsM m) S).2.proof.length≤6000):=by
 have hv:=zAg m hm;have hn:zBM m.vars S.cs (ptsM m) (zCX m.vars S.cs (ptsM m) S.path)=true:=zGW _ _ _ _ (by unfold zBM;unfold zAt at hz;rw[hz];rfl)
 obtain⟨c,hc⟩:∃c,zCX m.vars S.cs (ptsM m) S.path=c:=⟨_,rfl⟩;have hcm:∀x∈c,x∈S.path:=fun x hx=>zJY m.vars S.cs (ptsM m) S.path x (by rw[hc];exact hx)
 have hcl:c.length≤S.path.length:=by rw[←hc];exact zJZ m.vars S.cs (ptsM m) S.path
 rw[hc] at hn;have hnz:zBe m.vars S.cs (ptsM m) (zAH m.vars c)=0:=by unfold zBM at hn;simpa using hn
 have hen:=zFF (zCU m.vars S.cs (zAH m.vars c)) (zAz m.vars S.cs (ptsM m) (zAH m.vars c)).length _ (zJB m.vars hv S.cs (ptsM m) (zAH m.vars c) hnz);have hal:=fun x hx hq=>zMn (zCU m.vars S.cs (zAH m.vars c)) (fun x:MStep×Nat=>x.2=0) (fun l x hx hp=>by unfold zCU;exact zOy _ _ _ (List.mem_append_right _ (List.mem_map.2 ⟨x,hx,hp⟩))) (zAz m.vars S.cs (ptsM m) (zAH m.vars c)) x hx hq
 have hmem:∀x∈zA4 (zCU m.vars S.cs (zAH m.vars c)) (zAz m.vars S.cs (ptsM m) (zAH m.vars c)).length (zAz m.vars S.cs (ptsM m) (zAH m.vars c)),x∈zAz m.vars S.cs (ptsM m) (zAH m.vars c):=fun x hx=>zGS _ x _ _ hx
 obtain⟨R,hR⟩:∃R,zA4 (zCU m.vars S.cs (zAH m.vars c)) (zAz m.vars S.cs (ptsM m) (zAH m.vars c)).length (zAz m.vars S.cs (ptsM m) (zAH m.vars c))=R:=⟨_,rfl⟩;rw[hR] at hen hal hmem;have hsteps:zFG m.vars S.cs (ptsM m) c=R.map (·.1)++[⟨2,0,c⟩]:=by unfold zFG;rw[hR]
 have hrr:∀t∈R.map (·.1),∀A,zDg m A t=true:=fun t ht A=>by
  obtain⟨x,hx,rfl⟩:=List.mem_map.1 ht;obtain⟨k,cc,h1,h2,h3,h4,h5⟩:=zBa m hm S.cs _ x (hmem x hx);unfold zDg;rw[if_pos h2,h3,Int.toNat_natCast,List.getD_eq_getElem?_getD,h1,←h4];exact h5
 obtain⟨b1,b2,b3,b4⟩:=zJm m G (R.map (·.1)) S.proof hrr hp.stp
 obtain⟨P1,hP1⟩:∃P1,zAe m.vars (R.map (·.1)) S.proof=P1:=⟨_,rfl⟩
 rw[hP1] at b1 b2 b3 b4;have hfin:zDg m (G++P1.map fun t=>zAH m.vars t.cla) ⟨2,0,c⟩=true:=by
  unfold zDg;rw[if_neg (show ¬((2:Int)=1) by decide),if_pos ⟨rfl,rfl⟩]
  unfold zCU at hen;refine zJi m.vars hv _ _ _ (fun d hd=>?_) hen
  rcases List.mem_append.1 hd with hd | hd
  ·refine zGc (hp.imp d hd) fun e he=>?_
   rcases List.mem_append.1 he with he | he
   ·exact List.mem_append_left _ he
   ·obtain⟨s,hs,rfl⟩:=List.mem_map.1 he
    exact List.mem_append_right _ (List.mem_map.2 ⟨s,b3 s hs,rfl⟩)
  ·obtain⟨x,hx,rfl⟩:=List.mem_map.1 hd
   obtain⟨_,_,_,_,_,h4,_⟩:=zBa m hm S.cs _ x (hmem x hx);refine zGb (List.mem_append_right _ ?_);show x.2∈_;rw[h4];exact b2 x.1 (List.mem_map.2 ⟨x,hx,rfl⟩)
 obtain⟨d1,d2,d3,d4⟩:=zLI m G P1 ⟨2,0,c⟩ b1 hfin;have hprf:zAe m.vars (zFG m.vars S.cs (ptsM m) c) S.proof=zAe m.vars [⟨2,0,c⟩] P1:=by rw[hsteps,zJl,hP1]
 have hcE:claE m.vars c=0:=by
  unfold claE;rw[if_neg (by omega)]
  refine zDN _ fun e he=>?_
  obtain⟨x,hx,rfl⟩:=List.mem_map.1 he;exact (hp.pth x (hcm x hx)).1
 have hall:∀s∈zAe m.vars [⟨2,0,c⟩] P1,claE m.vars s.cla=0∧zCG m.cons.length s=true:=fun s hs=>by
  rcases d4 s hs with h | h
  ·rcases b4 s h with h | h
   ·exact⟨hp.cla s h,hp.thr s h⟩
   ·obtain⟨x,hx,rfl⟩:=List.mem_map.1 h
    obtain⟨k,cc,h1,h2,h3,_,_⟩:=zBa m hm S.cs _ x (hmem x hx);refine⟨(zEu m hm S.cs _ x (hmem x hx)).1,?_⟩;have hk:=(List.getElem?_eq_some_iff.1 h1).1;unfold zCG;rw[h2,h3];simp;omega
  ·rw[h]
   exact⟨hcE,by unfold zCG;simp⟩
 unfold zBV;rw[hc,hprf]
 split
 ·exact⟨fun h=>(by cases h),fun h=>(by cases h)⟩
 ·split
  ·exact⟨fun h=>(by cases h),fun h=>(by cases h)⟩
  ·rename_i h6
   split
   ·rename_i hc0
    have hcn:c=[]:=List.length_eq_zero_iff.1 hc0;refine⟨fun h=>(by cases h),fun _=>⟨⟨d1,fun s hs=>(hall s hs).1,fun s hs=>(hall s hs).2,?_⟩,by simp only;omega⟩⟩
    show zIK (zAe m.vars [⟨2,0,c⟩] P1)=true;subst hcn;unfold zAe zAe
    split
    ·rename_i hin
     have hin0:zAH m.vars ([]:Cla)∈P1.map fun x=>zAH m.vars x.cla:=by simpa using hin
     rw[zGY m.vars hv] at hin0;obtain⟨s,hs,hs0⟩:=List.mem_map.1 hin0;rcases b4 s hs with h | h
     ·exact absurd hs0 (hp.non s h)
     ·obtain⟨x,hx,rfl⟩:=List.mem_map.1 h
      obtain⟨_,_,_,_,_,h4,_⟩:=zBa m hm S.cs _ x (hmem x hx);have hx0:x.2=0:=by rw[h4];exact hs0
      have hRx:=hal x hx hx0;have hcx:=((zEu m hm S.cs _ x (hmem x hx)).2 hx0).1;rw[←hP1,hRx];show zIK (zAe m.vars [x.1] S.proof)=true;unfold zAe zAe
      split
      ·rename_i hin2
       have:zAH m.vars x.1.cla∈S.proof.map fun x=>zAH m.vars x.cla:=by simpa using hin2
       obtain⟨s2,hs2,he2⟩:=List.mem_map.1 this;exact absurd (he2.trans hs0) (hp.non s2 hs2)
      ·rw[zJu,hcx];rfl
    ·rw[zJu];rfl
   ·rename_i hc0
    refine⟨fun _=>⟨d1,fun e he=>?_,fun s hs=>(hall s hs).1,fun s hs=>(hall s hs).2,fun s hs h0=>?_,fun l hl=>hp.pth l (List.mem_of_mem_take hl)⟩,fun h=>(by cases h)⟩
    ·rcases List.mem_append.1 he with he | he
     ·refine zGc (hp.imp e he) fun q hq=>?_
      rcases List.mem_append.1 hq with hq | hq
      ·exact List.mem_append_left _ hq
      ·obtain⟨s,hs,rfl⟩:=List.mem_map.1 hq
       exact List.mem_append_right _ (List.mem_map.2 ⟨s,d3 s (b3 s hs),rfl⟩)
     ·rw[List.mem_singleton.1 he]
      exact zGb (List.mem_append_right _ d2)
    ·have hcne:zAH m.vars c≠0:=by
      have hx:=zK5 c hc0;exact (hp.pth _ (hcm _ hx)).2 c hx
     rcases d4 s hs with h | h
     ·rcases b4 s h with h | h
      ·exact hp.non s h h0
      ·obtain⟨x,hx,rfl⟩:=List.mem_map.1 h
       obtain⟨_,_,_,_,_,h4,_⟩:=zBa m hm S.cs _ x (hmem x hx);have hpm:=((zEu m hm S.cs _ x (hmem x hx)).2 (by rw[h4];exact h0)).2
       have:zCX m.vars S.cs (ptsM m) S.path=[]:=zIL _ (fun l=>by unfold zBM;rw[zMo m.vars hv S.cs (ptsM m) hpm];rfl) _ _ rfl
       rw[hc] at this;rw[this] at hc0;exact hc0 rfl
     ·rw[h] at h0
      exact hcne h0
theorem zQb (m:Mod) (hm:zAF m=0) (G:List Nat) (S:Sk) (hp:PrOk m G S) (hf:¬zBf (zAh m.vars (zAt m.vars (ptsM m) S))<0):PrOk m G (zFH (zAh m.vars (zAt m.vars (ptsM m) S)) S):=by
 have hv:=zAg m hm;refine⟨hp.stp,hp.imp,hp.cla,hp.thr,hp.non,fun l hl=>?_⟩
 rcases List.mem_append.1 hl with hl | hl
 ·exact hp.pth l hl
 ·rw[List.mem_singleton.1 hl]
  obtain⟨h1,h2⟩:=zF8 _ hf;unfold zP1;obtain⟨f,hff⟩:∃f,zBf (zAh m.vars (zAt m.vars (ptsM m) S))=f:=⟨_,rfl⟩;rw[hff] at hf h1 h2 ⊢;rw[zFf] at h1;obtain⟨v,rfl⟩:∃v:Nat,f=(v:Int):=⟨f.toNat,by omega⟩
  rw[Int.toNat_natCast] at h2 ⊢;have hvl:v<m.vars.length:=by omega
  have hnd:=zHJ m.vars (zAt m.vars (ptsM m) S) v hvl;obtain⟨x,y,t,ht⟩:∃x y t,(zAh m.vars (zAt m.vars (ptsM m) S)).getD v []=x :: y :: t:=by
   match hr:(zAh m.vars (zAt m.vars (ptsM m) S)).getD v [] with
   | []=>rw[hr] at h2;simp at h2
   | [x]=>rw[hr] at h2;simp at h2
   | x :: y :: t=>exact⟨x,y,t,rfl⟩
  have hxm:x∈(zAh m.vars (zAt m.vars (ptsM m) S)).getD v []:=by rw[ht];simp
  have hym:y∈(zAh m.vars (zAt m.vars (ptsM m) S)).getD v []:=by rw[ht];simp
  have hxy:x≠y:=by rw[ht] at hnd;simp at hnd;exact hnd.1.1
  have rng:∀z,z∈(zAh m.vars (zAt m.vars (ptsM m) S)).getD v []→∃i,(zAD m.vars).testBit i=true∧i / 6=v∧z=(zAK m.vars v).lo+((i % 6:Nat):Int):=fun z hz=>by
   obtain⟨i,_,hb,hi6,he⟩:=(zFg m.vars _ v hvl z).1 hz;exact⟨i,(zEf m.vars hv _ _ _ i hb).1,hi6,he⟩
  obtain⟨ix,wx,x6,ex⟩:=rng x hxm;obtain⟨iy,wy,y6,ey⟩:=rng y hym;have hb:=zCg m hm v hvl;have hsz:=wx;unfold zAD ofP at hsz;rw[zAc m.vars hv] at hsz;simp only[Bool.and_eq_true,decide_eq_true_eq] at hsz;have h6:=hsz.2.1;rw[x6] at h6;unfold zB8 at h6;rw[ht];refine⟨?_,fun c hc h0=>?_⟩
  ·show litE m.vars ⟨(v:Int),4,x⟩=0
   unfold litE;rw[if_neg (by simp only;omega),if_neg (by simp only;omega),if_neg (by simp only;omega)]
  ·have hbit:(zAH m.vars c).testBit iy=true:=by
    unfold zAH ofP;unfold zAD ofP at wy;rw[zAc m.vars hv] at wy ⊢;simp only[Bool.and_eq_true,decide_eq_true_eq] at wy ⊢;refine⟨wy.1,wy.2.1,?_⟩;unfold oneB;refine List.any_eq_true.2 ⟨_,hc,?_⟩;simp only[Bool.and_eq_true,decide_eq_true_eq];refine⟨by omega,?_⟩
    rw[y6];unfold litV;simp;omega
   rw[h0] at hbit;simp at hbit
theorem zFi (m:Mod) (hm:zAF m=0) (G:List Nat):∀(N:Nat) (S:Sk),zDF m.vars S<N→PrOk m G S→SkO m.vars S→((zAa m.vars (ptsM m) S).1=1→PrOk m G (zAa m.vars (ptsM m) S).2.2)∧((zAa m.vars (ptsM m) S).1=2→PrEnd m G (zAa m.vars (ptsM m) S).2.2.proof∧(zAa m.vars (ptsM m) S).2.2.proof.length≤6000)
 | 0,S,h,_,_=>by omega
 | N+1,S,h,hp,ho=>by
   rw[zGV m.vars (zAg m hm)]
   split
   ·rename_i hz
    obtain⟨t1,t2⟩:=zOz m hm G S hp (zNm m.vars _ ho.path) hz
    split
    ·rename_i h0
     exact zFi m hm G N _ (by have:=zEg m.vars (ptsM m) S h0;omega) (t1 h0) (zM0 m.vars (ptsM m) S ho h0)
    ·rename_i h0
     refine⟨fun h1=>?_,t2⟩
     exfalso
     simp only at h1;unfold zBV at h1
     split at h1
     ·cases h1
     ·split at h1
      ·cases h1
      ·split at h1 <;> cases h1
   ·split
    ·exact⟨fun _=>hp,fun h=>(by cases h)⟩
    ·rename_i hf
     exact zFi m hm G N _ (by have:=zFh m.vars (zAg m hm) (ptsM m) S hf;omega) (zQb m hm G S hp hf) (zQa m.vars (zAg m hm) (ptsM m) S ho hf)
open Go.RowKit
theorem zQc (m:Mod) (hm:zAF m=0):∀pts∈ptsM m,∀z∈pts,z<2 ^ 36:=by
 intro pts hp;obtain⟨c,hcm,rfl⟩:=List.mem_map.1 hp;obtain⟨j,hj⟩:=List.mem_iff_getElem?.1 hcm;exact zJh m hm j c hj
theorem zUA {w W:World} {r:Nat} {sv pv:Value} {vs:List MVar} {pt:List (List Nat)} (hr:w.heap.size≤r) (hrW:r<W.heap.size) (hb:Below w.heap.size w W) (hv:VArg w sv vs) (hT:TabT w) (hp:PRow (r+1) W pv pt) (hl:∀pts∈pt,∀z∈pts,z<2 ^ 36):Rul W r sv pv vs pt:=by
 refine⟨hrW,fun w' hf=>?_⟩
 have hb2:Below w.heap.size w w':=⟨hf.os.trans hb.os,hf.tape.trans hb.tape,hf.output.trans hb.output,Nat.le_trans hb.size hf.size,fun k hk=>(hf.block k (Nat.lt_of_lt_of_le hk hb.size) (by omega)).trans (hb.block k hk)⟩
 exact⟨VArg.below hb2 hv,(hp.fr hf (fun g hg=>by omega)).arg hl,hT.below hb2⟩
theorem zQd (m:Mod) (hm:zAF m=0) (vs cs:Value) (w:World) (hma:MArg w vs cs m) (hT:TabT w) :
 Calls Tryz.prog 87 #[modV vs cs m] w fun e w'=>∃r pv,e=.returned (.pointer (some ⟨r,0,none⟩))∧Rul w' r vs pv m.vars (ptsM m)∧RulD w' w' r vs pv (.slice none 0 0) []∧w.heap.size≤r∧Below w.heap.size w w'∧PRow (r+1) w' pv (ptsM m):=by
 obtain⟨i0,hi0,hz0,hz1,hz2⟩:=info_parts Tryz.infoPts;have HMA:Hid (∀w',Below w.heap.size w w'→MArg w' vs cs m):=fun w' h=>MArg.below h hma
 have HVW:Hid (VArg w vs m.vars):=hma.1;have HT:Hid (TabT w):=hT;have HM:Hid (zAF m=0):=hm;have h8:m.cons.length≤8:=(zA9 m hm).2.2.1;obtain⟨⟨a1,c1,rfl,_,_⟩,⟨a2,c2,rfl,_,_⟩⟩:=hma;unfold modV;obtain⟨L,hL⟩:∃L,ptsM m=L:=⟨_,rfl⟩;have HL:Hid (ptsM m=L):=hL;have HLL:Hid (L.length=m.cons.length):=by show _=_;rw[←hL];unfold ptsM;rw[List.length_map]
 rw[hL];clear hL;clear hm hT;go_enter Tryz.func87,Tryz.ntmps87
 go_wp2_with fail
 have HB0:Hid (Below w.heap.size w ((w.alloc (.cells #[.slice a1 m.vars.length c1,.slice a2 m.cons.length c2,.int .i64 m.goal,.int .i64 m.var] 25)).alloc (.cells #[.slice a1 m.vars.length c1,.slice none 0 0,.slice none 0 0] 204))):=(zAA _ _).alloc (by simp) _
 have HQ:Hid (((w.alloc (.cells #[.slice a1 m.vars.length c1,.slice a2 m.cons.length c2,.int .i64 m.goal,.int .i64 m.var] 25)).alloc (.cells #[.slice a1 m.vars.length c1,.slice none 0 0,.slice none 0 0] 204)).heap[w.heap.size]? = some (.cells #[.slice a1 m.vars.length c1,.slice a2 m.cons.length c2,.int .i64 m.goal,.int .i64 m.var] 25)):=((zAA (w.alloc (.cells #[.slice a1 m.vars.length c1,.slice a2 m.cons.length c2,.int .i64 m.goal,.int .i64 m.var] 25)) (.cells #[.slice a1 m.vars.length c1,.slice none 0 0,.slice none 0 0] 204)).block w.heap.size (by simp)).trans (heap_alloc_new w _)
 have HBK:Hid (((w.alloc (.cells #[.slice a1 m.vars.length c1,.slice a2 m.cons.length c2,.int .i64 m.goal,.int .i64 m.var] 25)).alloc (.cells #[.slice a1 m.vars.length c1,.slice none 0 0,.slice none 0 0] 204)).heap[w.heap.size+1]? = some (.cells #[.slice a1 m.vars.length c1,.slice none 0 0,.slice none 0 0] 204)):=by
  have h:=heap_alloc_new (w.alloc (.cells #[.slice a1 m.vars.length c1,.slice a2 m.cons.length c2,.int .i64 m.goal,.int .i64 m.var] 25)) (.cells #[.slice a1 m.vars.length c1,.slice none 0 0,.slice none 0 0] 204);rw[World.size_alloc] at h;exact h
 have HS0:Hid (((w.alloc (.cells #[.slice a1 m.vars.length c1,.slice a2 m.cons.length c2,.int .i64 m.goal,.int .i64 m.var] 25)).alloc (.cells #[.slice a1 m.vars.length c1,.slice none 0 0,.slice none 0 0] 204)).heap.size=w.heap.size+2):=by show _=_;simp
 obtain⟨W,hW⟩:∃W,((w.alloc (.cells #[.slice a1 m.vars.length c1,.slice a2 m.cons.length c2,.int .i64 m.goal,.int .i64 m.var] 25)).alloc (.cells #[.slice a1 m.vars.length c1,.slice none 0 0,.slice none 0 0] 204))=W:=⟨_,rfl⟩;rw[hW] at HB0 HQ HBK HS0 ⊢;clear hW;go_loopw [12] (fun i wr=>∃(k:Nat) (pv:Value),k≤m.cons.length∧i=.int .i64 k∧Hid (PRow (w.heap.size+2) wr pv (L.take k))∧Hid (wr.heap[w.heap.size+1]? = some (.cells #[.slice a1 m.vars.length c1,pv,.slice none 0 0] 204))∧Hid (Below (w.heap.size+1) W wr)) (fun i _=>m.cons.length - (intOf i).toNat)
 case atStart=>exact⟨0,.slice none 0 0,by omega,rfl,⟨[],World.ownsRow_nil _ _ _ _,fun i pts h=>by simp at h⟩,HBK,Below.refl _ _⟩
 case round =>
  obtain⟨k,pv,hk,rfl,HROW,HBLK,HBW⟩:=hrel;have HBN:Hid (Below w.heap.size w wr):=HB0.out.trans (HBW.out.mono (by omega))
  have HSZ:Hid (w.heap.size+2≤wr.heap.size):=by have:=HBW.out.size;have:=HS0.out;show _≤_;omega
  have HMB:Hid (wr.heap[w.heap.size]? = some (.cells #[.slice a1 m.vars.length c1,.slice a2 m.cons.length c2,.int .i64 m.goal,.int .i64 m.var] 25)):=(HBW.out.block w.heap.size (by omega)).trans HQ.out
  have k0:wr.cell? ⟨w.heap.size,0,none⟩=some (.slice a1 m.vars.length c1):=blk9 HMB.out 0 _ rfl;have k1:wr.cell? ⟨w.heap.size,1,none⟩=some (.slice a2 m.cons.length c2):=blk9 HMB.out 1 _ rfl;have k2:wr.cell? ⟨w.heap.size,2,none⟩=some (.int .i64 m.goal):=blk9 HMB.out 2 _ rfl;have k3:wr.cell? ⟨w.heap.size,3,none⟩=some (.int .i64 m.var):=blk9 HMB.out 3 _ rfl;obtain⟨cells,hcw,hrows⟩:=HROW.out;have HCW:Hid (wr.ownsRow (w.heap.size+2) 180 1 pv (L.take k).length cells):=hcw;have HRW:Hid (∀(i:Nat) (p:List Nat),(L.take k)[i]? = some p→∃x,cells[i]? = some x∧wr.ownsRow (w.heap.size+2) 183 1 x p.length (u64s p)):=hrows;obtain⟨ap,cp,hpv⟩:=zAB hcw;have HTL:Hid ((L.take k).length=k):=by show _=_;rw[List.length_take,HLL.out];omega
  rw[HTL.out] at hpv HCW;subst hpv;have g1:wr.cell? ⟨w.heap.size+1,1,none⟩=some (.slice ap k cp):=blk9 HBLK.out 1 _ rfl;have lr:w.heap.size<wr.heap.size:=by have:=HSZ.out;omega
  have lr1:w.heap.size+1<wr.heap.size:=by have:=HSZ.out;omega
  clear hcw hrows;by_cases hlt:k<m.cons.length
  ·obtain⟨c,hc⟩:∃c,m.cons[k]? = some c:=⟨m.cons[k],by simp[hlt]⟩
   have HLK:Hid (L[k]? = some (zAM m.vars c)):=by show _=_;rw[←HL.out];unfold ptsM;rw[List.getElem?_map,hc];rfl
   have HPT:Hid (∀Y,Below wr.heap.size wr Y→Calls Tryz.prog 127 #[.agg #[.slice a1 m.vars.length c1,.slice a2 m.cons.length c2,.int .i64 m.goal,.int .i64 m.var],.int .i64 (k:Int)] Y fun e w'=>∃x,e=.returned x∧w'.ownsRow Y.heap.size 183 1 x (zAM m.vars c).length (u64s (zAM m.vars c))∧Below Y.heap.size Y w'):=fun Y hY =>
    zJg m k c _ _ Y HM.out hc (HMA.out _ (HBN.out.trans (hY.mono HBN.out.size)))
   have HTN:Hid (L.take (k+1)=L.take k++[zAM m.vars c]):=by show _=_;rw[List.take_add_one,HLK.out];rfl
   obtain⟨pts,hpts⟩:∃pts,zAM m.vars c=pts:=⟨_,rfl⟩;rw[hpts] at HPT HTN;clear hc hpts;go_wp2_with fail
   go_region_law
    (first
      | (rw[if_pos (by rfl)];refine wp_append_own _ _ _ 198 rfl (w.heap.size+2) 180 i0 _ 1 24 Tryz.underPts hi0 hz0 hz1 hz2 rfl (by decide) _ _ _ rfl (hw3.alloc _) ⟨w3.heap.size,0,none⟩ 1 1 [.slice ax pts.length cx] rfl rfl (zSI w3 (.slice ax pts.length cx)) (by intro u hu;simp at hu;subst hu;rfl) ?_ ?_ ?_ ?_;(unfold maxLen;omega);omega;(have:=hB3.size;have:=HSZ.out;simp;omega);intro v4 w4 hown4 hg4 _;have hP:PRow (w.heap.size+2) w4 v4 (L.take k++[pts]):=PRow.push (by rw[HTL.out];exact hw3.alloc _) (fun i p hi=>(hr3 i p hi).imp fun y hy=>⟨hy.1,hy.2.alloc _⟩) (hx3.alloc _) hg4 (by rw[HTL.out]) hown4;obtain⟨a9,b9,hv9⟩:=zAB hown4;subst hv9;have hk4:=zA6 (((zAA w3 _).block (w.heap.size+1) l3).trans hbk3) hg4 (hw3.alloc _) (by decide);have d2:w4.cell? ⟨w.heap.size+1,1,none⟩=some (.slice ap k cp):=blk9 hk4 1 _ rfl;have z2:w4.frozen? ⟨w.heap.size+1,1,none⟩=false:=frz9 hk4 1)
      | (rw[if_pos (by rfl)];go_simp;go_at_call 127;refine (HPT.out _ (Below.refl _ _).drew).mono ?_;rintro e w3 ⟨x,rfl,hx,hb3⟩;obtain⟨ax,cx,rfl⟩:=zAB hx;have hB3:Below wr.heap.size wr w3:=(Below.refl _ _).drew.trans hb3;have c3:w3.cell? ⟨w.heap.size+1,1,none⟩=some (.slice ap k cp):=(hB3.cell (p:=⟨w.heap.size+1,1,none⟩) lr1).trans g1;have hw3:w3.ownsRow (w.heap.size+2) 180 1 (.slice ap k cp) k cells:=zAG HCW.out hB3;have hr3:∀(i:Nat) (p:List Nat),(L.take k)[i]? = some p→∃x,cells[i]? = some x∧w3.ownsRow (w.heap.size+2) 183 1 x p.length (u64s p):=fun i p hi=>(HRW.out i p hi).imp fun y hy=>⟨hy.1,zAG hy.2 hB3⟩;have hx3:w3.ownsRow (w.heap.size+2) 183 1 (.slice ax pts.length cx) pts.length (u64s pts):=World.ownsRow.mono hx HSZ.out;have l3:w.heap.size+1<w3.heap.size:=Nat.lt_of_lt_of_le lr1 hB3.size;have hbk3:=(hB3.block (w.heap.size+1) lr1).trans HBLK.out;dsimp only))
   all_goals
    have HR4:Hid (PRow (w.heap.size+2) (w4.setCell ⟨w.heap.size+1,1,none⟩ (.slice a9 (k+1) b9)) (.slice a9 (k+1) b9) (L.take (k+1))):=by
     rw[HTN.out];exact hP.fr (X:=fun g=>g=w.heap.size+1) (Fr.setX (X:=fun g=>g=w.heap.size+1) (Fr.refl _ _) (p:=⟨w.heap.size+1,1,none⟩) rfl _) (fun g hg=>by omega)
    have HK4:Hid ((w4.setCell ⟨w.heap.size+1,1,none⟩ (.slice a9 (k+1) b9)).heap[w.heap.size+1]? = some (.cells #[.slice a1 m.vars.length c1,.slice a9 (k+1) b9,.slice none 0 0] 204)):=by show _=_;rw[heap_setCell_same w4 (w.heap.size+1) 1 _ _ _ hk4];rfl
    have HB4:Hid (Below (w.heap.size+1) W (w4.setCell ⟨w.heap.size+1,1,none⟩ (.slice a9 (k+1) b9))):=((((HBW.out.trans (hB3.mono (by have:=HSZ.out;omega))).alloc (by have:=hB3.size;have:=HSZ.out;omega) _).grown hg4 (by have:=hB3.size;have:=HSZ.out;simp;omega) (fun g hg=>by have:=((hw3.alloc (.cells #[.slice ax pts.length cx] 180)).lt g hg).1;omega))).setCell (show w.heap.size+1≤w.heap.size+1 from Nat.le_refl _) _
    clear hP hx hb3 hB3 c3 hw3 hr3 hx3 l3 hbk3 hown4 hg4 hk4 k0 k1 k2 k3 g1 HROW HBLK HBW;go_wp2
    go_roundw
    case rel=>exact⟨k+1,_,by omega,by go_num,HR4,HK4,HB4⟩
    case measure=>simp[intOf];omega
  ·have hke:k=m.cons.length:=by omega
   have HFIN:Hid (PRow (w.heap.size+2) wr (.slice ap k cp) L):=by have:=HROW.out;rw[List.take_of_length_le (by rw[HLL.out];omega)] at this;exact this
   have HRU:Hid (Rul wr (w.heap.size+1) (.slice a1 m.vars.length c1) (.slice ap k cp) m.vars L):=zUA (by omega) lr1 HBN.out HVW.out HT.out HFIN.out (by rw[←HL.out];exact zQc m HM.out)
   have HRD:Hid (RulD wr wr (w.heap.size+1) (.slice a1 m.vars.length c1) (.slice ap k cp) (.slice none 0 0) []):=⟨HBLK.out,World.ownsRow_nil _ _ _ _,(fun z hz=>by cases hz),Fr.refl _ _⟩
   have hle:¬((k:Int)<(m.cons.length:Int)):=by omega
   clear hke k0 k1 k2 k3 g1;go_wp2
   go_ret
   exact⟨w.heap.size+1,rfl,_,HRU.out,HRD.out,by omega,HBN.out,HFIN.out⟩
end Go.Proofs.YtdjbejlbmaiocagGreatDoor
