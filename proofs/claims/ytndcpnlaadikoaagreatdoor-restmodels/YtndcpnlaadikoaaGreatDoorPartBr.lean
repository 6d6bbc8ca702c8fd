/- What the proof leans on, part 44. -/
import Derived.Test.YtndcpnlaadikoaaGreatDoorPartBq
import Derived.Test.YtndcpnlaadikoaaGreatDoorPartBk
import Derived.Test.YtndcpnlaadikoaaGreatDoorPartBd
import Derived.Test.YtndcpnlaadikoaaGreatDoorPartBh
import Derived.Test.YtndcpnlaadikoaaGreatDoorPartAb
import Derived.Test.YtndcpnlaadikoaaGreatDoorPartAs
import Derived.Test.YtndcpnlaadikoaaGreatDoorPartBg
import Derived.Test.YtndcpnlaadikoaaGreatDoorPartBi
import Derived.Test.YtndcpnlaadikoaaGreatDoorPartBp
import Derived.Deep.DeepCutAuto
import Derived.Deep.RegionLaw
namespace Go.Proofs.YtndcpnlaadikoaaGreatDoor
theorem zFV {α:Type} (e:List α→Bool) (P:α→Prop) (hP:∀l x,x∈l→P x→e l=true):∀(k:Nat) (out:List α),k≤out.length→∃F,zAx e k out=F++out.drop k∧(∀x∈F,x∈out.take k)∧((∃x∈out.drop k,P x)→F=[])∧((∃x∈F,P x)→F.length=1)
 | 0,out,_=>⟨[],by simp[zAx],fun x hx=>(by cases hx),fun _=>rfl,fun⟨x,hx,_⟩=>(by cases hx)⟩
 | k+1,out,hk=>by
   unfold zAx;have hkl:k<out.length:=by omega
   by_cases he:e (out.eraseIdx k)=true
   ·rw[if_pos he]
    have hlen:(out.eraseIdx k).length=out.length - 1:=by rw[List.length_eraseIdx];simp[hkl]
    obtain⟨F,f1,f2,f3,f4⟩:=zFV e P hP k (out.eraseIdx k) (by omega)
    have hd:(out.eraseIdx k).drop k=out.drop (k+1):=by
     rw[List.eraseIdx_eq_take_drop_succ,List.drop_append_of_le_length (by rw[List.length_take];omega),List.drop_of_length_le (by rw[List.length_take];omega),List.nil_append]
    have ht:(out.eraseIdx k).take k=out.take k:=by
     rw[List.eraseIdx_eq_take_drop_succ,List.take_append_of_le_length (by rw[List.length_take];omega),List.take_take,Nat.min_self]
    rw[hd] at f1 f3;rw[ht] at f2;exact⟨F,f1,fun x hx=>by rw[List.take_add_one];exact List.mem_append_left _ (f2 x hx),f3,f4⟩
   ·rw[if_neg he]
    obtain⟨F,f1,f2,f3,f4⟩:=zFV e P hP k out (by omega)
    have hd:out.drop k=out[k] :: out.drop (k+1):=List.drop_eq_getElem_cons hkl;have hno:∀x∈out.eraseIdx k,¬P x:=fun x hx hp=>he (hP _ x hx hp)
    have her:∀x,x∈out.take k∨x∈out.drop (k+1)→x∈out.eraseIdx k:=fun x hx=>by
     rw[List.eraseIdx_eq_take_drop_succ];exact List.mem_append.2 hx
    refine⟨F++[out[k]],by rw[f1,hd];simp,fun x hx=>?_,fun⟨x,hx,hp⟩=>absurd hp (hno x (her x (Or.inr hx))),fun⟨x,hx,hp⟩=>?_⟩
    ·rcases List.mem_append.1 hx with hx | hx
     ·rw[List.take_add_one];exact List.mem_append_left _ (f2 x hx)
     ·rw[List.mem_singleton.1 hx,List.take_add_one,List.getElem?_eq_getElem hkl]
      exact List.mem_append_right _ (by simp)
    ·rcases List.mem_append.1 hx with hx | hx
     ·exact absurd hp (hno x (her x (Or.inl (f2 x hx))))
     ·rw[List.mem_singleton.1 hx] at hp
      have:=f3 ⟨out[k],by rw[hd];exact List.mem_cons_self ..,hp⟩
      rw[this];rfl
theorem zMP {α:Type} (e:List α→Bool) (P:α→Prop) (hP:∀l x,x∈l→P x→e l=true) (out:List α) (x:α) (hx:x∈zAx e out.length out) (hp:P x):zAx e out.length out=[x]:=by
 obtain⟨F,f1,_,_,f4⟩:=zFV e P hP out.length out (Nat.le_refl _);rw[List.drop_length,List.append_nil] at f1;rw[f1] at hx ⊢;have hl:=f4 ⟨x,hx,hp⟩
 match F,hl,hx with
 | [y],_,hx=>rw[List.mem_singleton.1 hx]
theorem zIC {α:Type} (e:List α→Bool) (h:∀l,e l=true):∀(k:Nat) (out:List α),k=out.length→zAx e k out=[]
 | 0,out,hk=>by
   unfold zAx;exact List.length_eq_zero_iff.1 hk.symm
 | k+1,out,hk=>by
   unfold zAx;rw[if_pos (h _)];exact zIC e h k _ (by rw[List.length_eraseIdx];split <;> omega)
theorem zOW (m:Mod) (hm:zAG m=0):zBt m.vars.length (zAE m.vars)=false:=by
 refine zG5 _ _ fun v hv=>⟨0,by omega,?_⟩
 have h1:=(zBg m hm).2 v hv;have h6:=(zAy m hm).2 v;unfold zAE ofP;rw[zAd m.vars (zAy m hm)];simp only[Bool.and_eq_true,decide_eq_true_eq];have e:(6 * v+0) / 6=v:=by omega
 rw[e];refine⟨hv,?_,trivial⟩;unfold zBj;omega
theorem zQL (p:Nat):zAL p 0=p:=by
 apply Nat.eq_of_testBit_eq;intro i;rw[zAO,Nat.zero_testBit];simp
theorem zID (m:Mod) (hm:zAG m=0) (pts:List Nat) (h:zBv m.vars pts 0=true):pts=[]:=by
 unfold zBv at h;rw[zQL,zOW m hm,Bool.false_or,Bool.not_eq_true',List.any_eq_false] at h;cases pts with
 | nil=>rfl
 | cons q r =>
   exfalso
   exact h q (List.mem_cons_self ..) (by unfold zEL;simp)
theorem zLG (l:Nat):zBT [] l=0:=by unfold zBT zCB;simp
theorem zMQ (vs:List MVar) (hv:zAc vs) (cs:List Nat) (pt:List (List Nat)) (hp:[]∈pt) (h:Nat):zBU vs cs pt h=0:=by
 have hcons:∀(ptl:List (List Nat)) (l:Nat),[]∈ptl→zA2 ptl l=0:=by
  intro ptl
  induction ptl with
  | nil=>intro l h;cases h
  | cons pts r ih =>
    intro l hm;unfold zA2;by_cases h0:l=0
    ·rw[if_pos h0];exact h0
    ·rw[if_neg h0]
     rcases List.mem_cons.1 hm with he | hm
     ·rw[←he,zLG]
      cases r with
      | nil=>rfl
      | cons a b=>unfold zA2;rw[if_pos rfl]
     ·exact ih _ hm
 apply Classical.byContradiction;intro hn;have:=zI1 vs hv cs pt h hn;rw[hcons pt _ hp] at this;exact hn this.symm
theorem zLH (m:Mod) (hm:zAG m=0) (pts:List Nat) (any:Cla) (gone:Nat) (hg:SubP gone (zAE m.vars)) (ha:any.length≤1) (hr:∀l∈any,litE m.vars l=0):claE m.vars (whyP m.vars pts any gone)=0:=by
 unfold claE;have hl:(whyP m.vars pts any gone).length≤37:=by
  unfold whyP;rw[List.length_append];have:=zD7 m.vars (zCF (fun g=>zBv m.vars pts (zAH m.vars any ||| g)) (gone+1) gone gone)
  omega
 rw[if_neg (by omega)]
 refine zFJ _ fun e he=>?_
 obtain⟨x,hx,rfl⟩:=List.mem_map.1 he;unfold whyP at hx;rcases List.mem_append.1 hx with hx | hx
 ·exact hr x hx
 ·exact zIq m.vars (zAy m hm) (fun v hv=>zCe m hm v hv) _ (fun i hi=>hg i (zHe _ _ _ _ i hi)) x hx
theorem zQM (vs:List MVar):zBY vs 0=[]:=by unfold zBY;rw[zIn];rfl
theorem zEH (m:Mod) (hm:zAG m=0) (cs:List Nat) (h:Nat):∀x∈zAu m.vars cs (ptsM m) h,claE m.vars x.1.cla=0∧(x.2=0→x.1.cla=[]∧[]∈ptsM m):=by
 intro x hx;have hv:=zAy m hm;obtain⟨k,c,hc,_,_,hx2,hsay⟩:=zBR m hm cs h x hx;have hpm:zAK m.vars c∈ptsM m:=List.mem_map.2 ⟨c,List.mem_of_getElem? hc,rfl⟩;obtain⟨t,ht,hx⟩:=List.mem_flatMap.1 hx;obtain⟨⟨pts,hp,ha⟩,hsub,hne,hdif⟩:=zNP m.vars hv cs (ptsM m) h t ht;have hgd:(ptsM m).getD t.1 []=pts:=by rw[List.getD_eq_getElem?_getD,hp];rfl
 have hgw:SubP (zAL (zAE m.vars) t.2.1) (zAE m.vars):=fun i hi=>((zBK _ _ _).1 hi).1
 unfold zA3 at hx;rw[hgd] at hx;by_cases h0:t.2.2=0
 ·rw[if_pos h0] at hx
  have hxe:=List.mem_singleton.1 hx;refine⟨by rw[hxe];exact zLH m hm pts [] _ hgw (by simp) (fun l hl=>by cases hl),fun hz=>⟨?_,?_⟩⟩
  ·rw[hxe] at hz ⊢
   have hz2:zAH m.vars (whyP m.vars pts [] (zAL (zAE m.vars) t.2.1))=0:=hz;rw[(zHA m.vars hv pts [] _ hgw).1,zF9 m.vars hv,Nat.zero_or] at hz2;show whyP m.vars pts [] (zAL (zAE m.vars) t.2.1)=[];unfold whyP;unfold zLD at hz2;rw[hz2,zQM];rfl
  ·rw[hz] at hsay
   rw[zID m hm _ hsay] at hpm;exact hpm
 ·rw[if_neg h0] at hx
  obtain⟨lt,hlt,hxe⟩:=List.mem_map.1 hx;have hlr:=zIq m.vars hv (fun v hv=>zCe m hm v hv) (zAL t.2.1 t.2.2) (fun i hi=>hsub i ((zBK _ _ _).1 hi).1) lt hlt
  have hl4:litE m.vars ⟨lt.var,4,lt.n⟩=0:=by
   unfold litE at hlr ⊢
   split at hlr
   ·cases hlr
   ·rename_i h1
    rw[if_neg h1,if_neg (by simp only;omega)]
    split at hlr
    ·cases hlr
    ·split at hlr
     ·cases hlr
     ·rename_i h3
      rw[if_neg h3]
  refine⟨by rw[←hxe];exact zLH m hm pts _ _ hgw (by simp) (fun l hl=>by rw[List.mem_singleton.1 hl];exact hl4),fun hz=>?_⟩
  exfalso
  rw[hz] at hsay;have hnone:=zID m hm _ hsay;rw[hnone] at hpm;have h3:x.2=zAH m.vars (whyP m.vars pts [⟨lt.var,4,lt.n⟩] (zAL (zAE m.vars) t.2.1)):=by rw[←hxe];rfl
  obtain⟨k',c',hc',hk1,hk2,_,_⟩:=zBR m hm cs h x (List.mem_flatMap.2 ⟨t,ht,by unfold zA3;rw[hgd,if_neg h0];exact hx⟩)
  have hcon:x.1.con=(t.1:Int):=by rw[←hxe];rfl
  obtain⟨k2,c2,hc2,_,hk3,_,hs2⟩:=zBR m hm cs h x (List.mem_flatMap.2 ⟨t,ht,by unfold zA3;rw[hgd,if_neg h0];exact hx⟩)
  have hkk:k2=t.1:=by omega
  subst hkk;have hpc:pts=zAK m.vars c2:=by
   unfold ptsM at hp;rw[List.getElem?_map,hc2] at hp;exact (Option.some.inj hp).symm
  rw[hz] at hs2;rw[hpc,zID m hm _ hs2,zLG] at ha;exact h0 ha
structure PrEnd (m:Mod) (G:List Nat) (P:List MStep):Prop where
 stp:zBf m G P=true
 cla:∀s∈P,claE m.vars s.cla=0
 thr:∀s∈P,zBo m.cons.length s=true
 lst:zJt P=true
theorem zJN (P:List MStep) (t:MStep):zJt (P++[t])=decide (t.cla.length=0):=by unfold zJt;simp
theorem zOX (vs:List MVar) (A:List Nat) (h:Nat) (h0:0∈A):zCE vs A h=true:=by
 unfold zCE zAa
 split
 ·rfl
 ·have:∀(f l:Nat),0<f→zBH A f l=0:=by
   intro f l hf;cases f with
   | zero=>omega
   | succ f =>
     unfold zBH;have hr:∀(cs:List Nat) (l:Nat),0∈cs→zAl cs l=none:=by
      intro cs
      induction cs with
      | nil=>intro l h;cases h
      | cons c t ih =>
        intro l hm;unfold zAl;by_cases hz:l &&& c=0
        ·rw[if_pos hz]
        ·rw[if_neg hz]
         rcases List.mem_cons.1 hm with he | hm
         ·rw[←he] at hz;simp at hz
         ·split <;> exact ih _ hm
     rw[hr A l h0]
  rw[this _ _ (Nat.succ_pos _)];rfl
theorem zOY (m:Mod) (hm:zAG m=0) (G:List Nat) (S:Sk) (hp:PrOk m G S) (hl:S.path.length≤36) (hz:zAo m.vars (ptsM m) S=0) :
 ((zBL m.vars (ptsM m) S).1=0→PrOk m G (zBL m.vars (ptsM m) S).2)∧((zBL m.vars (ptsM m) S).1=2→PrEnd m G (zBL m.vars (ptsM m) S).2.proof∧(zBL m.vars (ptsM m) S).2.proof.length≤6000):=by
 have hv:=zAy m hm;have hn:zBB m.vars S.cs (ptsM m) (zBz m.vars S.cs (ptsM m) S.path)=true:=zFu _ _ _ _ (by unfold zBB;unfold zAo at hz;rw[hz];rfl)
 obtain⟨c,hc⟩:∃c,zBz m.vars S.cs (ptsM m) S.path=c:=⟨_,rfl⟩;have hcm:∀x∈c,x∈S.path:=fun x hx=>zIz m.vars S.cs (ptsM m) S.path x (by rw[hc];exact hx)
 have hcl:c.length≤S.path.length:=by rw[←hc];exact zI0 m.vars S.cs (ptsM m) S.path
 rw[hc] at hn;have hnz:zBU m.vars S.cs (ptsM m) (zAH m.vars c)=0:=by unfold zBB at hn;simpa using hn
 have hen:=zEd (zBw m.vars S.cs (zAH m.vars c)) (zAu m.vars S.cs (ptsM m) (zAH m.vars c)).length _ (zIV m.vars hv S.cs (ptsM m) (zAH m.vars c) hnz);have hal:=fun x hx hq=>zMP (zBw m.vars S.cs (zAH m.vars c)) (fun x:MStep×Nat=>x.2=0) (fun l x hx hp=>by unfold zBw;exact zOX _ _ _ (List.mem_append_right _ (List.mem_map.2 ⟨x,hx,hp⟩))) (zAu m.vars S.cs (ptsM m) (zAH m.vars c)) x hx hq
 have hmem:∀x∈zAx (zBw m.vars S.cs (zAH m.vars c)) (zAu m.vars S.cs (ptsM m) (zAH m.vars c)).length (zAu m.vars S.cs (ptsM m) (zAH m.vars c)),x∈zAu m.vars S.cs (ptsM m) (zAH m.vars c):=fun x hx=>zFq _ x _ _ hx
 obtain⟨R,hR⟩:∃R,zAx (zBw m.vars S.cs (zAH m.vars c)) (zAu m.vars S.cs (ptsM m) (zAH m.vars c)).length (zAu m.vars S.cs (ptsM m) (zAH m.vars c))=R:=⟨_,rfl⟩;rw[hR] at hen hal hmem;have hsteps:zEe m.vars S.cs (ptsM m) c=R.map (·.1)++[⟨2,0,c⟩]:=by unfold zEe;rw[hR]
 have hrr:∀t∈R.map (·.1),∀A,zDK m A t=true:=fun t ht A=>by
  obtain⟨x,hx,rfl⟩:=List.mem_map.1 ht;obtain⟨k,cc,h1,h2,h3,h4,h5⟩:=zBR m hm S.cs _ x (hmem x hx);unfold zDK;rw[if_pos h2,h3,Int.toNat_natCast,List.getD_eq_getElem?_getD,h1,←h4];exact h5
 obtain⟨b1,b2,b3,b4⟩:=zJM m G (R.map (·.1)) S.proof hrr hp.stp
 obtain⟨P1,hP1⟩:∃P1,zAZ m.vars (R.map (·.1)) S.proof=P1:=⟨_,rfl⟩
 rw[hP1] at b1 b2 b3 b4;have hfin:zDK m (G++P1.map fun t=>zAH m.vars t.cla) ⟨2,0,c⟩=true:=by
  unfold zDK;rw[if_neg (show ¬((2:Int)=1) by decide),if_pos ⟨rfl,rfl⟩]
  unfold zBw at hen;refine zOV m.vars hv _ _ _ (fun d hd=>?_) hen
  rcases List.mem_append.1 hd with hd | hd
  ·refine zLE (hp.imp d hd) fun e he=>?_
   rcases List.mem_append.1 he with he | he
   ·exact List.mem_append_left _ he
   ·obtain⟨s,hs,rfl⟩:=List.mem_map.1 he
    exact List.mem_append_right _ (List.mem_map.2 ⟨s,b3 s hs,rfl⟩)
  ·obtain⟨x,hx,rfl⟩:=List.mem_map.1 hd
   obtain⟨_,_,_,_,_,h4,_⟩:=zBR m hm S.cs _ x (hmem x hx);refine zNQ (List.mem_append_right _ ?_);show x.2∈_;rw[h4];exact b2 x.1 (List.mem_map.2 ⟨x,hx,rfl⟩)
 obtain⟨d1,d2,d3,d4⟩:=zLF m G P1 ⟨2,0,c⟩ b1 hfin;have hprf:zAZ m.vars (zEe m.vars S.cs (ptsM m) c) S.proof=zAZ m.vars [⟨2,0,c⟩] P1:=by rw[hsteps,zJL,hP1]
 have hcE:claE m.vars c=0:=by
  unfold claE;rw[if_neg (by omega)]
  refine zFJ _ fun e he=>?_
  obtain⟨x,hx,rfl⟩:=List.mem_map.1 he;exact (hp.pth x (hcm x hx)).1
 have hall:∀s∈zAZ m.vars [⟨2,0,c⟩] P1,claE m.vars s.cla=0∧zBo m.cons.length s=true:=fun s hs=>by
  rcases d4 s hs with h | h
  ·rcases b4 s h with h | h
   ·exact⟨hp.cla s h,hp.thr s h⟩
   ·obtain⟨x,hx,rfl⟩:=List.mem_map.1 h
    obtain⟨k,cc,h1,h2,h3,_,_⟩:=zBR m hm S.cs _ x (hmem x hx);refine⟨(zEH m hm S.cs _ x (hmem x hx)).1,?_⟩;have hk:=(List.getElem?_eq_some_iff.1 h1).1;unfold zBo;rw[h2,h3];simp;omega
  ·rw[h]
   exact⟨hcE,by unfold zBo;simp⟩
 unfold zBL;rw[hc,hprf]
 split
 ·exact⟨fun h=>(by cases h),fun h=>(by cases h)⟩
 ·split
  ·exact⟨fun h=>(by cases h),fun h=>(by cases h)⟩
  ·rename_i h6
   split
   ·rename_i hc0
    have hcn:c=[]:=List.length_eq_zero_iff.1 hc0;refine⟨fun h=>(by cases h),fun _=>⟨⟨d1,fun s hs=>(hall s hs).1,fun s hs=>(hall s hs).2,?_⟩,by simp only;omega⟩⟩
    show zJt (zAZ m.vars [⟨2,0,c⟩] P1)=true;subst hcn;unfold zAZ zAZ
    split
    ·rename_i hin
     have hin0:zAH m.vars ([]:Cla)∈P1.map fun x=>zAH m.vars x.cla:=by simpa using hin
     rw[zF9 m.vars hv] at hin0;obtain⟨s,hs,hs0⟩:=List.mem_map.1 hin0;rcases b4 s hs with h | h
     ·exact absurd hs0 (hp.non s h)
     ·obtain⟨x,hx,rfl⟩:=List.mem_map.1 h
      obtain⟨_,_,_,_,_,h4,_⟩:=zBR m hm S.cs _ x (hmem x hx);have hx0:x.2=0:=by rw[h4];exact hs0
      have hRx:=hal x hx hx0;have hcx:=((zEH m hm S.cs _ x (hmem x hx)).2 hx0).1;rw[←hP1,hRx];show zJt (zAZ m.vars [x.1] S.proof)=true;unfold zAZ zAZ
      split
      ·rename_i hin2
       have:zAH m.vars x.1.cla∈S.proof.map fun x=>zAH m.vars x.cla:=by simpa using hin2
       obtain⟨s2,hs2,he2⟩:=List.mem_map.1 this;exact absurd (he2.trans hs0) (hp.non s2 hs2)
      ·rw[zJN,hcx];rfl
    ·rw[zJN];rfl
   ·rename_i hc0
    refine⟨fun _=>⟨d1,fun e he=>?_,fun s hs=>(hall s hs).1,fun s hs=>(hall s hs).2,fun s hs h0=>?_,fun l hl=>hp.pth l (List.mem_of_mem_take hl)⟩,fun h=>(by cases h)⟩
    ·rcases List.mem_append.1 he with he | he
     ·refine zLE (hp.imp e he) fun q hq=>?_
      rcases List.mem_append.1 hq with hq | hq
      ·exact List.mem_append_left _ hq
      ·obtain⟨s,hs,rfl⟩:=List.mem_map.1 hq
       exact List.mem_append_right _ (List.mem_map.2 ⟨s,d3 s (b3 s hs),rfl⟩)
     ·rw[List.mem_singleton.1 he]
      exact zNQ (List.mem_append_right _ d2)
    ·have hcne:zAH m.vars c≠0:=by
      have hx:=zKc c hc0;exact (hp.pth _ (hcm _ hx)).2 c hx
     rcases d4 s hs with h | h
     ·rcases b4 s h with h | h
      ·exact hp.non s h h0
      ·obtain⟨x,hx,rfl⟩:=List.mem_map.1 h
       obtain⟨_,_,_,_,_,h4,_⟩:=zBR m hm S.cs _ x (hmem x hx);have hpm:=((zEH m hm S.cs _ x (hmem x hx)).2 (by rw[h4];exact h0)).2
       have:zBz m.vars S.cs (ptsM m) S.path=[]:=zIC _ (fun l=>by unfold zBB;rw[zMQ m.vars hv S.cs (ptsM m) hpm];rfl) _ _ rfl
       rw[hc] at this;rw[this] at hc0;exact hc0 rfl
     ·rw[h] at h0
      exact hcne h0
theorem zQN (m:Mod) (hm:zAG m=0) (G:List Nat) (S:Sk) (hp:PrOk m G S) (hf:¬zBV (zAb m.vars (zAo m.vars (ptsM m) S))<0):PrOk m G (zEf (zAb m.vars (zAo m.vars (ptsM m) S)) S):=by
 have hv:=zAy m hm;refine⟨hp.stp,hp.imp,hp.cla,hp.thr,hp.non,fun l hl=>?_⟩
 rcases List.mem_append.1 hl with hl | hl
 ·exact hp.pth l hl
 ·rw[List.mem_singleton.1 hl]
  obtain⟨h1,h2⟩:=zFP _ hf;unfold zPR;obtain⟨f,hff⟩:∃f,zBV (zAb m.vars (zAo m.vars (ptsM m) S))=f:=⟨_,rfl⟩;rw[hff] at hf h1 h2 ⊢;rw[zEv] at h1;obtain⟨v,rfl⟩:∃v:Nat,f=(v:Int):=⟨f.toNat,by omega⟩
  rw[Int.toNat_natCast] at h2 ⊢;have hvl:v<m.vars.length:=by omega
  have hnd:=zGj m.vars (zAo m.vars (ptsM m) S) v hvl;obtain⟨x,y,t,ht⟩:∃x y t,(zAb m.vars (zAo m.vars (ptsM m) S)).getD v []=x :: y :: t:=by
   match hr:(zAb m.vars (zAo m.vars (ptsM m) S)).getD v [] with
   | []=>rw[hr] at h2;simp at h2
   | [x]=>rw[hr] at h2;simp at h2
   | x :: y :: t=>exact⟨x,y,t,rfl⟩
  have hxm:x∈(zAb m.vars (zAo m.vars (ptsM m) S)).getD v []:=by rw[ht];simp
  have hym:y∈(zAb m.vars (zAo m.vars (ptsM m) S)).getD v []:=by rw[ht];simp
  have hxy:x≠y:=by rw[ht] at hnd;simp at hnd;exact hnd.1.1
  have rng:∀z,z∈(zAb m.vars (zAo m.vars (ptsM m) S)).getD v []→∃i,(zAE m.vars).testBit i=true∧i / 6=v∧z=(zAJ m.vars v).lo+((i % 6:Nat):Int):=fun z hz=>by
   obtain⟨i,_,hb,hi6,he⟩:=(zEw m.vars _ v hvl z).1 hz;exact⟨i,(zDs m.vars hv _ _ _ i hb).1,hi6,he⟩
  obtain⟨ix,wx,x6,ex⟩:=rng x hxm;obtain⟨iy,wy,y6,ey⟩:=rng y hym;have hb:=zCe m hm v hvl;have hsz:=wx;unfold zAE ofP at hsz;rw[zAd m.vars hv] at hsz;simp only[Bool.and_eq_true,decide_eq_true_eq] at hsz;have h6:=hsz.2.1;rw[x6] at h6;unfold zBj at h6;rw[ht];refine⟨?_,fun c hc h0=>?_⟩
  ·show litE m.vars ⟨(v:Int),4,x⟩=0
   unfold litE;rw[if_neg (by simp only;omega),if_neg (by simp only;omega),if_neg (by simp only;omega)]
  ·have hbit:(zAH m.vars c).testBit iy=true:=by
    unfold zAH ofP;unfold zAE ofP at wy;rw[zAd m.vars hv] at wy ⊢;simp only[Bool.and_eq_true,decide_eq_true_eq] at wy ⊢;refine⟨wy.1,wy.2.1,?_⟩;unfold oneB;refine List.any_eq_true.2 ⟨_,hc,?_⟩;simp only[Bool.and_eq_true,decide_eq_true_eq];refine⟨by omega,?_⟩
    rw[y6];unfold litV;simp;omega
   rw[h0] at hbit;simp at hbit
theorem zGZ (m:Mod) (hm:zAG m=0) (G:List Nat):∀(N:Nat) (S:Sk),zCY m.vars S<N→PrOk m G S→SkO m.vars S→((zAt m.vars (ptsM m) S).1=1→PrOk m G (zAt m.vars (ptsM m) S).2.2)∧((zAt m.vars (ptsM m) S).1=2→PrEnd m G (zAt m.vars (ptsM m) S).2.2.proof∧(zAt m.vars (ptsM m) S).2.2.proof.length≤6000)
 | 0,S,h,_,_=>by omega
 | N+1,S,h,hp,ho=>by
   rw[zFt m.vars (zAy m hm)]
   split
   ·rename_i hz
    obtain⟨t1,t2⟩:=zOY m hm G S hp (zM3 m.vars _ ho.path) hz
    split
    ·rename_i h0
     exact zGZ m hm G N _ (by have:=zDt m.vars (ptsM m) S h0;omega) (t1 h0) (zL2 m.vars (ptsM m) S ho h0)
    ·rename_i h0
     refine⟨fun h1=>?_,t2⟩
     exfalso
     simp only at h1;unfold zBL at h1
     split at h1
     ·cases h1
     ·split at h1
      ·cases h1
      ·split at h1 <;> cases h1
   ·split
    ·exact⟨fun _=>hp,fun h=>(by cases h)⟩
    ·rename_i hf
     exact zGZ m hm G N _ (by have:=zEx m.vars (zAy m hm) (ptsM m) S hf;omega) (zQN m hm G S hp hf) (zPo m.vars (zAy m hm) (ptsM m) S ho hf)
theorem zMR (m:Mod) (fuel:Int):PrOk m [] (zED fuel):=⟨rfl,(fun c hc=>by cases hc),(fun s hs=>by cases hs),(fun s hs=>by cases hs),(fun s hs=>by cases hs),(fun l hl=>by cases hl)⟩
theorem zOZ (m:Mod) (hm:zAG m=0) (given:List Cla) (hg:zEK m.vars given=0) (P:List MStep) (hp:PrEnd m (given.map (zAH m.vars)) P) (hl:P.length≤6000):zBc m given P=(true,0):=by
 have he:zCU m given P=0:=by
  unfold zCU;rw[if_pos hm,if_neg (by omega),if_pos hg]
  have h1:zAj (P.map fun s=>claE m.vars s.cla)=0:=zFJ _ fun e he=>by
   obtain⟨s,hs,rfl⟩:=List.mem_map.1 he;exact hp.cla s hs
  rw[if_pos h1,if_pos (List.all_eq_true.2 hp.thr)]
 unfold zBc;rw[if_pos he,if_pos hp.lst,hp.stp]
open Go.RowKit
theorem zMS (m:Mod) (fuel:Int) (he:(zC2 m fuel).2=0):(zBc m [] (zC2 m fuel).1.proof).2=0:=by
 unfold zC2 at he ⊢;by_cases hm:zAG m=0
 ·rw[if_pos hm] at he ⊢
  by_cases hf:fuel<0∨300<fuel
  ·rw[if_pos hf] at he;cases he
  ·rw[if_neg hf]
   by_cases h2:(zCT m fuel).1=2
   ·rw[if_pos h2]
    obtain⟨p1,p2⟩:=(zGZ m hm [] _ (zED fuel) (Nat.lt_succ_self _) (zMR m fuel) (zG9 m.vars fuel (by omega))).2 h2
    show (zBc m [] (zCT m fuel).2.2.proof).2=0;have:=zOZ m hm [] rfl (zCT m fuel).2.2.proof p1 p2;rw[this]
   ·rw[if_neg h2]
    unfold zBc zCU;rw[if_pos hm];rfl
 ·rw[if_neg hm] at he
  exact absurd he hm
theorem zIE (vs:List MVar) (pt:List (List Nat)):∀(n:Nat) (S:Sk),(zIL vs pt n S).1≠1→(zIL vs pt n S).2.1=[]
 | 0,_,_=>rfl
 | n+1,S,h=>by
   unfold zIL at h ⊢
   split at h
   ·rename_i h1
    rw[if_pos h1]
    split at h
    ·rename_i h2
     rw[if_pos h2];exact zIE vs pt n _ h
    ·rename_i h2
     rw[if_neg h2]
   ·rename_i h1
    rw[if_neg h1]
    split at h
    ·exact absurd rfl h
    ·rename_i h2
     rw[if_neg h2];exact zIE vs pt n _ h
theorem zOa (m:Mod) (fuel:Int):(zC2 m fuel).1.values.length≤6:=by
 unfold zC2;by_cases hm:zAG m=0
 ·rw[if_pos hm]
  by_cases hf:fuel<0∨300<fuel
  ·rw[if_pos hf];exact Nat.zero_le _
  ·rw[if_neg hf]
   by_cases h2:(zCT m fuel).1=2
   ·rw[if_pos h2];exact Nat.zero_le _
   ·rw[if_neg h2]
    show (zCT m fuel).2.1.length≤6;by_cases h1:(zCT m fuel).1=1
    ·have:=(zCI m hm (zED fuel) h1).1.1.1
     have h6:=(zAe m hm).2.1;unfold zCT;omega
    ·have:(zCT m fuel).2.1=[]:=zIE m.vars (ptsM m) _ _ h1
     rw[this];exact Nat.zero_le _
 ·rw[if_neg hm];exact Nat.zero_le _
section
variable {X:Nat→Prop} {w:World} {B:Nat}
theorem zMT {v:Value} {n:Nat} {l:List Int} (h:w.ownsRow B 3 1 v n (l.map (Value.int .i64))) (hX:∀k,B≤k→X k):WR X w 1 v:=by
 refine zMg h (fun k hk=>hX k (h.lt k hk).1) (by decide) fun i hi=>?_
 have hl:=h.1;rw[List.length_map,Nat.mul_one] at hl;refine⟨.int .i64 (l[i]'(by omega)),?_,fun a m c he=>by cases he⟩
 rw[Nat.mul_one,List.getElem?_map,List.getElem?_eq_getElem (by omega)];rfl
theorem zSz {v:Value} {l:Cla} (h:LOwn B w v l) (hX:∀k,B≤k→X k):WR X w 3 v:=by
 have h':w.ownsRow B 76 3 v l.length (zBI l):=h;refine zMg h' (fun k hk=>hX k (h'.lt k hk).1) (by decide) fun i hi=>?_
 obtain⟨g0,_,_⟩:=zGH l i l[i] (by simp[hi])
 exact⟨_,g0,fun a m c he=>by cases he⟩
theorem zSD {vv pp:Value} {A:Ans} (h:AnsQ B w vv pp A) (hX:∀k,B≤k→X k):WR X w 1 vv∧NRw X w 3 2 3 pp:=by
 refine⟨zMT h.val hX,?_⟩;obtain⟨L,⟨h1,h2⟩,_⟩:=h.prf;refine zOg h1 (fun k hk=>hX k (h1.lt k hk).1) (by decide) fun i hi=>?_
 have hg:=zDI zBM 3 (fun _=>rfl) L i
 rw[List.flatMap_def] at hg;have hx:L[i]? = some L[i]:=by simp[hi]
 have ho:=h2 L[i] (List.getElem_mem hi);obtain⟨ax,cx,hf⟩:=zAC (show w.ownsRow _ _ _ _ _ _ from ho)
 refine⟨ax,_,cx,?_,hf▸zSz ho hX,fun _=>⟨_,hg 0 _ hx (by decide),fun a m c he=>by cases he⟩⟩
 rw[←hf];exact hg 2 _ hx (by decide)
theorem zS0 {v:Value} {acc:List (List Int)} (h:LLr B w v acc) (hX:∀k,B≤k→X k):NRw X w 1 0 1 v:=by
 obtain⟨cells,h1,h2⟩:=h;refine zOg h1 (fun k hk=>hX k (h1.lt k hk).1) (by decide) fun i hi=>?_
 obtain⟨x,k1,k2⟩:=h2 i acc[i] (by simp[hi])
 obtain⟨ax,cx,hf⟩:=zAC k2;exact⟨ax,_,cx,by rw[Nat.mul_one,Nat.add_zero,k1,hf],hf▸zMT k2 hX,fun h0=>by omega⟩
theorem zTO {vs cs:Value} {m:Mod} (h:ModR B w vs cs m) (hX:∀k,B≤k→X k):WR X w 3 vs∧NRw X w 6 1 1 cs:=by
 obtain⟨h1,⟨cells,h2,h3⟩,_⟩:=h;refine⟨zMg h1 (fun k hk=>hX k (h1.lt k hk).1) (by decide) fun i hi=>?_,zOg h2 (fun k hk=>hX k (h2.lt k hk).1) (by decide) fun i hi=>?_⟩
 ·exact⟨.string (m.vars[i]).name,zDI varC 3 (fun _=>rfl) m.vars i 0 m.vars[i] (by simp[hi]) (by decide),fun a m c he=>by cases he⟩
 ·obtain⟨vv,vc,vr,vl,hcl,hco⟩:=h3 i m.cons[i] (by simp[hi])
  obtain⟨ax,cx,hf⟩:=zAC hco.1;refine⟨ax,_,cx,by rw[hcl 1 (by decide)];show some vv=_;rw[hf],hf▸zMT hco.1 hX,fun _=>⟨_,by rw[←Nat.add_zero (i * 6),hcl 0 (by decide)];rfl,fun a m c he=>by cases he⟩⟩
theorem zRx {x:Value} {l:List Int} (hx:IArg w x l) (h:x=.slice none 0 0∨∃g cap,x=.slice (some ⟨g,0,none⟩) l.length cap∧B≤g∧IRow w g l) (hX:∀k,B≤k→X k):WR X w 1 x:=by
 rcases h with rfl | ⟨g,cap,rfl,hg,hr⟩
 ·exact⟨none,0,0,rfl,Nat.le_refl _,Nat.zero_le _,fun i hi=>by omega⟩
 ·obtain⟨_,_,he,hm,_⟩:=hx
  cases he
  refine⟨_,_,_,rfl,hm.1,hm.2,fun i hi=>⟨g,rfl,hX g hg,?_⟩⟩
  have:=hr.1 i (by simpa using hi)
  rw[Nat.zero_add] at this;rw[Nat.mul_one];exact⟨this.2,_,this.1,fun a m c he=>by cases he⟩
end
structure SpV (X:Nat→Prop) (Ba Bb Bp:Nat) (av ap bv bp lv sv pv pc:Value) (Y:World):Prop where
 fa:WR X Y 1 av
 fap:NRw X Y 3 2 3 ap
 fb:WR X Y 1 bv
 fbp:NRw X Y 3 2 3 bp
 fl:NRw X Y 1 0 1 lv
 fs:WR X Y 1 sv
 fpv:WR X Y 3 pv
 fpc:NRw X Y 6 1 1 pc
 a1:Y.cell? ⟨Ba,1,none⟩=some av
 a2:Y.cell? ⟨Ba,2,none⟩=some ap
 b1:Y.cell? ⟨Bb,1,none⟩=some bv
 b2:Y.cell? ⟨Bb,2,none⟩=some bp
 p0:Y.cell? ⟨Bp,0,none⟩=some pv
 p1:Y.cell? ⟨Bp,1,none⟩=some pc
theorem SpV.sp {X Z:Nat→Prop} {Ba Bb Bp:Nat} {av ap bv bp lv sv pv pc:Value} {Y Y':World} (h:SpV X Ba Bb Bp av ap bv bp lv sv pv pc Y) (hs:Sp Z Y Y'):SpV X Ba Bb Bp av ap bv bp lv sv pv pc Y':=by
 have wf:∀{v:Value} {g i sz:Nat},WR X Y sz v→Y.cell? ⟨g,i,none⟩=some v→Y'.cell? ⟨g,i,none⟩=some v:=fun hw hc=>by
  obtain⟨a,n,c,rfl,_⟩:=hw;exact hs.slice hc
 have nf:∀{v:Value} {g i sz off sz2:Nat},NRw X Y sz off sz2 v→Y.cell? ⟨g,i,none⟩=some v→Y'.cell? ⟨g,i,none⟩=some v:=fun hw hc=>by
  obtain⟨a,n,c,rfl,_⟩:=hw;exact hs.slice hc
 exact⟨h.fa.sp hs,h.fap.sp hs,h.fb.sp hs,h.fbp.sp hs,h.fl.sp hs,h.fs.sp hs,h.fpv.sp hs,h.fpc.sp hs,wf h.fa h.a1,nf h.fap h.a2,wf h.fb h.b1,nf h.fbp h.b2,wf h.fpv h.p0,nf h.fpc h.p1⟩
theorem zS1 (w:World):zDV w (.slice none 0 0) []:=⟨none,0,rfl,⟨Nat.le_refl _,Nat.zero_le _⟩,fun i z hz=>by simp at hz⟩
theorem zLI {w w':World} (h:∃n,w'=w.drewN n):Below w.heap.size w w':=by
 obtain⟨n,rfl⟩:=h;exact⟨rfl,rfl,rfl,Nat.le_refl _,fun _ _=>rfl⟩
theorem zQO {B:Nat} {w w':World} {v:Value} {acc:List (List Int)} (h:LLr B w v acc) (hb:Below w.heap.size w w'):LLr B w' v acc:=h.at fun g _ hg=>hb.block g hg
theorem zTP {B:Nat} {w:World} {vv pp:Value} {A:Ans} (h:AnsQ B w vv pp A):zIP w pp A.proof:=by
 obtain⟨L,⟨h1,h2⟩,h3⟩:=h.prf;rw[←h3];have hg:=fun i=>zDI zBM 3 (fun _=>rfl) L i
 simp only[List.flatMap_def] at hg;obtain⟨a,c,hv,hm,hr⟩:=zDZ h1;refine⟨a,c,by rw[List.length_map];exact hv,by rw[List.length_map];exact hm,fun i t ht=>?_⟩
 rw[List.getElem?_map] at ht;obtain⟨x,hx,rfl⟩:=Option.map_eq_some_iff.1 ht;have hi:=(List.getElem?_eq_some_iff.1 hx).1;obtain⟨g,ha,hgl,hc⟩:=hr i hi;exact⟨g,0,x.2,ha,hgl,by rw[Nat.zero_add,←Nat.add_zero (i * 3),hc _ (by omega)];exact hg i 0 x hx (by decide),by rw[Nat.zero_add,hc _ (by omega)];exact hg i 1 x hx (by decide),by rw[Nat.zero_add,hc _ (by omega)];exact hg i 2 x hx (by decide),(h2 x (List.mem_of_getElem? hx)).arg⟩
theorem zRy {w w':World} {B:Nat} {e:TypeId} {sz n:Nat} {v:Value} {xs:List Value} (h:w.ownsRow B e sz v n xs) (hs:∀k,v.ownBlock=some k→w'.heap[k]? = w.heap[k]?):w'.ownsRow B e sz v n xs:=by
 refine⟨h.1,?_⟩;rcases h.2 with hn | ⟨g,cap,cur,hv,hg,hh,r⟩
 ·exact .inl hn
 ·exact .inr ⟨g,cap,cur,hv,hg,(hs g (by rw[hv];rfl)).trans hh,r⟩
structure RmS (w W2 D:World) (X:Nat→Prop) (m:Mod) (A:Ans) (N F:Nat) (vs cs us ts fv vv:Value) (Y:World):Prop where
 bel:Below w.heap.size w Y
 two:Below W2.heap.size W2 Y
 ma:MArg Y vs cs m
 na:MArg Y us ts m
 mb:Y.heap[w.heap.size]? = some (.cells #[vs,cs,.int .i64 m.goal,.int .i64 m.var] 25)
 nb:Y.heap[N]? = some (.cells #[us,ts,.int .i64 m.goal,.int .i64 m.var] 25)
 fb:Y.cell? ⟨F,1,none⟩=some fv
 fw:WR X Y 1 fv
 va:IArg Y vv A.values
 sp:Sp X D Y
 sz:D.heap.size≤Y.heap.size
theorem RmS.go {w W2 D:World} {m:Mod} {A:Ans} {N F gb:Nat} {vs cs us ts vv:Value} {af:Option Addr} {nf cf:Nat} {Y:World} (hbw:Below w.heap.size w W2) (hbd:Below W2.heap.size W2 D) (hma:MArg W2 vs cs m) (hna:MArg W2 us ts m) (hmb:W2.heap[w.heap.size]? = some (.cells #[vs,cs,.int .i64 m.goal,.int .i64 m.var] 25))
 (hnb:W2.heap[N]? = some (.cells #[us,ts,.int .i64 m.goal,.int .i64 m.var] 25)) (hfb:D.cell? ⟨F,1,none⟩=some (.slice af nf cf)) (hf:∀k,(Value.slice af nf cf).ownBlock=some k→W2.heap.size≤k∧k<gb) (hfw:WR (fun k=>D.heap.size≤k∨(Value.slice af nf cf).ownBlock=some k) D 1 (.slice af nf cf))
 (hva:D.ownsRow gb 3 1 vv A.values.length (A.values.map (Value.int .i64))) (hs:Sp (fun k=>D.heap.size≤k∨(Value.slice af nf cf).ownBlock=some k) D Y):RmS w W2 D (fun k=>D.heap.size≤k∨(Value.slice af nf cf).ownBlock=some k) m A N F vs cs us ts (.slice af nf cf) vv Y:=by
 have hX:∀k,(D.heap.size≤k∨(Value.slice af nf cf).ownBlock=some k)→W2.heap.size≤k:=fun k hk=>hk.elim (fun h=>Nat.le_trans hbd.size h) fun h=>(hf k h).1
 have h2:Below W2.heap.size W2 Y:=hbd.trans (hs.toBelow _ hbd.size hX);have h1:Below w.heap.size w Y:=hbw.trans (h2.mono hbw.size);refine⟨h1,h2,MArg.below h2 hma,MArg.below h2 hna,(h2.block _ (Array.getElem?_eq_some_iff.1 hmb).1).trans hmb,(h2.block _ (Array.getElem?_eq_some_iff.1 hnb).1).trans hnb,hs.slice hfb,hfw.sp hs,zDa (zRy hva fun k hk=>?_),hs,hs.size⟩
 obtain⟨k1,k2⟩:=hva.lt k hk;exact hs.same k k2 fun hx=>hx.elim (fun h=>by omega) fun h=>by have:=(hf k h).2;omega
end Go.Proofs.YtndcpnlaadikoaaGreatDoor
