/- What the proof leans on, part 14. -/
import Derived.Test.YtdjbejlbmaiocagGreatDoorPartAm
import Derived.Deep.OwnRows
import Derived.Deep.Onto
import Derived.Laws.EntriesVeiled
import Derived.Test.YtdjbejlbmaiocagGreatDoorPartAl
import Derived.Deep.RegionLaw
import Derived.Test.YtdjbejlbmaiocagGreatDoorPartAi
import Derived.Test.YtdjbejlbmaiocagGreatDoorPartAa
import Derived.Shelf.Spec.TrailingZeros
namespace Go.Proofs.YtdjbejlbmaiocagGreatDoor
open Go.RowKit
theorem zPz {w:World} {b off c n:Nat} {l:List MVar} (h:VArg w (.slice (some ⟨b,off,none⟩) n c) l) (j:Nat) (hj:j<l.length) :
 b<w.heap.size∧w.cell? ⟨b,off+j * 3+1,none⟩=some (.int .i64 (zAL l j).lo)∧w.cell? ⟨b,off+j * 3+2,none⟩=some (.int .i64 (zAL l j).hi):=by
 obtain⟨a,c',hv,_,hr⟩:=h
 obtain⟨_,b',off',ha,hb,_,c1,c2⟩:=hr j _ (zI8 hj)
 injection hv with e1 _ _
 rw[ha] at e1
 cases e1
 exact⟨hb,c1,c2⟩
set_option maxHeartbeats 3200000 in
set_option maxRecDepth 100000 in
theorem zS7 (N bs bm bc:Nat) (m:Mod) (con:Nat) (c:MCon) (vs cs sv:Value) (scope:List Int) (hm:zAE m=0) (hc:m.cons[con]? = some c) (hsc:∀v∈scope,0≤v∧v<(m.vars.length:Int)) (hs8:scope.length≤8) :
 ∀(rest:List Int) (k:Nat) (vals:List Int) (a:Nat) (out:List Nat) (w:World),scope.drop k=rest→k≤scope.length→vals.length=m.vars.length→(∀x∈vals,-50≤x∧x≤50)→a<2 ^ 36→out.length+6 ^ rest.length≤10000000 →
  PtsS N bs bm bc m con vs cs sv scope vals out w →
  Calls Tryz.prog 185 #[.int .i64 k,.int .u64 a,.pointer (some ⟨bs,0,none⟩),.pointer (some ⟨bm,0,none⟩),.pointer (some ⟨bc,0,none⟩),.pointer (some ⟨N+1,0,none⟩),.pointer (some ⟨N+2,0,none⟩),.pointer (some ⟨N+3,0,none⟩)] w fun e w'=>e=.returned (.tuple #[]) ∧
   ∃vals',PtsS N bs bm bc m con vs cs sv scope vals' (out++zAk m.vars c rest vals a) w'∧vals'.length=m.vars.length∧(∀x∈vals',-50≤x∧x≤50)∧zCn rest vals vals'∧Below N w w':=by
 have HSC:Hid (∀v∈scope,0≤v∧v<(m.vars.length:Int)):=hsc
 have HVA:Hid (zAR m.vars):=zCy m hm
 have HCE:Hid (conE m.vars.length c=0):=zHS m hm con c hc
 have HC:Hid (m.cons[con]? = some c):=hc
 clear hsc hm hc
 intro rest
 induction rest with
 | nil =>
   intro k vals a out w hdr hk hvl hvb ha hbud hT
   have hks:k=scope.length:=by
    have:=congrArg List.length hdr
    simp at this
    omega
   subst hks
   refine (zS6 N bs bm bc m con c vs cs sv scope vals a out w HC.out (by rw[hvl];exact HCE.out) hvb (by simp at hbud;omega) hT).mono ?_
   rintro e w' ⟨rfl,h1,h2⟩
   exact⟨rfl,vals,h1,hvl,hvb,zCn.refl _ _,h2⟩
 | cons v rest ih =>
   intro k vals a out w hdr hk hvl hvb ha hbud hT
   have hkl:k<scope.length:=by
    have:=congrArg List.length hdr
    simp at this
    omega
   have hkv:scope[k]? = some v:=by
    have h:=congrArg (fun q:List Int=>q[0]?) hdr
    simpa using h
   have hdr2:scope.drop (k+1)=rest:=by
    have h:=congrArg List.tail hdr
    simpa using h
   obtain⟨hv0,hv1⟩:=HSC.out v (List.mem_of_getElem? hkv)
   obtain⟨j,rfl⟩:∃j:Nat,v=(j:Int):=⟨v.toNat,by omega⟩
   have hjs:j<m.vars.length:=by omega
   obtain⟨hma,hia,d0,d1,_,_,_,_,_⟩:=hT.old
   obtain⟨⟨av,cv,hvs,hmv,hrv⟩,_⟩:=hma
   obtain⟨_,b,off,hav,hbv,_,f1,f2⟩:=hrv j _ (zI8 hjs)
   subst hav
   subst hvs
   obtain⟨asv,csv,hsv,hms,hscell⟩:=hia
   obtain⟨b2,o2,has,hb2,e0⟩:=hscell k _ hkv
   subst has
   subst hsv
   unfold maxLen at hms hmv
   obtain⟨hms1,hms⟩:=hms
   obtain⟨hmv1,hmv⟩:=hmv
   obtain⟨lo,hlo⟩:∃lo,(zAL m.vars j).lo=lo:=⟨_,rfl⟩
   obtain⟨hi,hhi⟩:∃hi,(zAL m.vars j).hi=hi:=⟨_,rfl⟩
   obtain⟨n,hn⟩:∃n,zBz (zAL m.vars j)=n:=⟨_,rfl⟩
   have HLO:Hid ((zAL m.vars j).lo=lo):=hlo
   have HHI:Hid ((zAL m.vars j).hi=hi):=hhi
   have hbn:=HVA.out.2 j hjs
   have hn6:n≤6:=by rw[←hn];exact HVA.out.1.2 j
   have hnn:(n:Int)=hi+1 - lo:=by rw[←hn,←hlo,←hhi];unfold zBz;omega
   rw[hlo] at f1 hbn
   rw[hhi] at f2 hbn
   have H6:Hid (m.vars.length≤6):=HVA.out.1.1
   have HT:Hid (PtsS N bs bm bc m con (.slice (some ⟨b,off,none⟩) m.vars.length cv) cs (.slice (some ⟨b2,o2,none⟩) scope.length csv) scope vals out w):=hT
   have HVB:Hid (∀x∈vals,-50≤x∧x≤50):=hvb
   have HVL:Hid (vals.length=m.vars.length):=hvl
   have HA:Hid (a<2 ^ 36):=ha
   have HALL:Hid (ptsN m.vars c j rest vals a lo n=zAk m.vars c ((j:Int) :: rest) vals a):=by show _=_;rw[←hlo,←hn];exact zRo m.vars c j rest vals a
   obtain⟨X,hX⟩:∃X,6 ^ rest.length=X:=⟨_,rfl⟩
   have hbud2:out.length+6 * X≤10000000:=by
    rw[List.length_cons,Nat.pow_succ] at hbud
    omega
   have HCNT:Hid (∀jj,(ptsN m.vars c j rest vals a lo jj).length≤jj * X):=fun jj=>by rw[←hX];exact zI9 m.vars HVA.out.1 c j rest vals a lo jj
   have HIH:Hid (∀(vals:List Int) (a:Nat) (out:List Nat) (w:World),vals.length=m.vars.length→(∀x∈vals,-50≤x∧x≤50)→a<2 ^ 36→out.length+X≤10000000 →
    PtsS N bs bm bc m con (.slice (some ⟨b,off,none⟩) m.vars.length cv) cs (.slice (some ⟨b2,o2,none⟩) scope.length csv) scope vals out w →
    Calls Tryz.prog 185 #[.int .i64 ((k:Int)+1),.int .u64 a,.pointer (some ⟨bs,0,none⟩),.pointer (some ⟨bm,0,none⟩),.pointer (some ⟨bc,0,none⟩),.pointer (some ⟨N+1,0,none⟩),.pointer (some ⟨N+2,0,none⟩),.pointer (some ⟨N+3,0,none⟩)] w fun e w'=>e=.returned (.tuple #[]) ∧
     ∃vals',PtsS N bs bm bc m con (.slice (some ⟨b,off,none⟩) m.vars.length cv) cs (.slice (some ⟨b2,o2,none⟩) scope.length csv) scope vals' (out++zAk m.vars c rest vals a) w'∧vals'.length=m.vars.length∧(∀x∈vals',-50≤x∧x≤50)∧zCn rest vals vals'∧Below N w w'):=by
    intro vals1 a1 out1 w1 q1 q2 q3 q4 q5
    exact ih (k+1) vals1 a1 out1 w1 hdr2 (by omega) q1 q2 q3 (by rw[hX];exact q4) q5
   have HONE:Hid (∀(jj:Nat) (w':World),jj<n→VArg w' (.slice (some ⟨b,off,none⟩) m.vars.length cv) m.vars→Calls Tryz.prog 186 #[.slice (some ⟨b,off,none⟩) m.vars.length cv,.int .i64 j,.int .i64 (lo+(jj:Int))] w' fun e w''=>e=.returned (.int .u64 ((2 ^ (6 * j+jj):Nat):Int))∧w''=w'):=by
    intro jj w' hjj hva'
    have h1:=zPw m.vars HVA.out.1 j (lo+(jj:Int)) _ w' hva' hjs (by rw[HLO.out];omega) (by rw[HHI.out];omega) (by rw[HLO.out,HHI.out];omega)
    rw[HLO.out,show (lo+(jj:Int) - lo).toNat=jj by omega] at h1
    exact h1
   have HPOW:Hid (∀jj,jj<n→2 ^ (6 * j+jj)<2 ^ 36):=fun jj hjj=>zJ5 m.vars HVA.out j jj hjs (by omega)
   have g0:((k:Int)==(scope.length:Int))=false:=by simp;omega
   have hlt8:k<8:=by omega
   clear hT hvb hdr hvl hbud hrv hscell ih hX hdr2 hkv hv0 hv1 hlo hhi hn ha
   go_enter Tryz.func185,Tryz.ntmps185
   go_wp2_with fail
   clear d0 d1 e0 f1 f2
   go_loopw [11] (fun i wr=>∃(jj:Nat) (vals':List Int),jj≤n∧i=.int .i64 (lo+(jj:Int))∧PtsS N bs bm bc m con (.slice (some ⟨b,off,none⟩) m.vars.length cv) cs (.slice (some ⟨b2,o2,none⟩) scope.length csv) scope vals' (out++ptsN m.vars c j rest vals a lo jj) wr∧Hid (vals'.length=m.vars.length∧(∀x∈vals',-50≤x∧x≤50)∧zCn ((j:Int) :: rest) vals vals')∧Below N w wr) (fun i _=>(hi+1 - intOf i).toNat)
   case atStart=>exact⟨0,vals,by omega,by simp,by simpa[ptsN] using HT.out,⟨HVL.out,HVB.out,zCn.refl _ _⟩,Below.refl _ _⟩
   case round =>
    obtain⟨jj,vals',hjj,rfl,hTr,hH,hbw⟩:=hrel
    have HTR:Hid (PtsS N bs bm bc m con (.slice (some ⟨b,off,none⟩) m.vars.length cv) cs (.slice (some ⟨b2,o2,none⟩) scope.length csv) scope vals' (out++ptsN m.vars c j rest vals a lo jj) wr):=hTr
    have HBW:Hid (Below N w wr):=hbw
    clear hTr hbw
    obtain⟨hma,_,_,d1,_,_,_,lm,_⟩:=HTR.out.old
    obtain⟨lb,f1,f2⟩:=zPz hma.1 j hjs
    rw[HLO.out] at f1
    rw[HHI.out] at f2
    clear hma
    by_cases hlt:jj<n
    ·have hle:lo+(jj:Int)≤hi:=by omega
     have hjv:j<vals'.length:=by rw[hH.out.1];exact hjs
     have d4:=HTR.out.2.2.2.1
     have HOW:=HTR.out.2.2.1
     have hNl:N+4≤wr.heap.size:=HTR.out.1
     obtain⟨y,hy⟩:∃y,vals'[j]? = some y:=⟨vals'[j],by simp[hjv]⟩
     have cN:wr.cell? ⟨N,j,none⟩=some (.int .i64 y):=by rw[HOW.cellAt j (by omega),List.getElem?_map,hy];rfl
     have zN:=HOW.frozenAt j
     have HSET:=HTR.out.set j (lo+(jj:Int))
     have hxb:-50≤lo+(jj:Int)∧lo+(jj:Int)≤50:=by omega
     have HST:Hid (PtsS N bs bm bc m con (.slice (some ⟨b,off,none⟩) m.vars.length cv) cs (.slice (some ⟨b2,o2,none⟩) scope.length csv) scope (vals'.set j (lo+(jj:Int))) (out++ptsN m.vars c j rest vals a lo jj) (wr.setCell ⟨N,j,none⟩ (.int .i64 (lo+(jj:Int))))):=HSET.1
     have HSB:Hid (Below N w (wr.setCell ⟨N,j,none⟩ (.int .i64 (lo+(jj:Int))))):=HBW.out.trans HSET.2
     have HV1:Hid ((vals'.set j (lo+(jj:Int))).length=m.vars.length):=by show _=_;rw[List.length_set];exact hH.out.1
     have HV2:Hid (∀y∈vals'.set j (lo+(jj:Int)),-50≤y∧y≤50):=zON _ _ _ hH.out.2.1 hxb
     have HBU:Hid ((out++ptsN m.vars c j rest vals a lo jj).length+X≤10000000):=by
      have h1:=HCNT.out jj
      have h2:jj * X≤5 * X:=Nat.mul_le_mul_right _ (by omega)
      show _≤_
      rw[List.length_append]
      omega
     have HNX:Hid (ptsN m.vars c j rest vals a lo (jj+1)=ptsN m.vars c j rest vals a lo jj++zAk m.vars c rest (vals'.set j (lo+(jj:Int))) (a ||| 2 ^ (6 * j+jj))):=by
      show _=_
      rw[zKo]
      congr 1
      have h:=(hH.out.2.2).set (lo+(jj:Int))
      exact zHx m.vars c rest _ _ _ h
     have HAG:Hid (zCn ((j:Int) :: rest) vals (vals'.set j (lo+(jj:Int)))):=(hH.out.2.2).trans (zCn.of_set rest vals' (j:Int) (lo+(jj:Int)))
     have hp36:=HPOW.out jj hlt
     obtain⟨t,ht⟩:∃t,2 ^ (6 * j+jj)=t:=⟨_,rfl⟩
     have HO1:=HONE.out jj
     rw[ht] at hp36 HNX HO1
     have HON:Hid (∀(w':World),VArg w' (.slice (some ⟨b,off,none⟩) m.vars.length cv) m.vars→Calls Tryz.prog 186 #[.slice (some ⟨b,off,none⟩) m.vars.length cv,.int .i64 j,.int .i64 (lo+(jj:Int))] w' fun e w''=>e=.returned (.int .u64 (t:Int))∧w''=w'):=fun w' h=>HO1 w' hlt h
     have hor:=bits_or_u64_nat a t (by have:=HA.out;omega) (by omega)
     obtain⟨a2,ha2⟩:∃a2,a ||| t=a2:=⟨_,rfl⟩
     have HA2:Hid (a2<2 ^ 36):=by rw[←ha2];exact zHu HA.out hp36
     rw[ha2] at hor HNX
     clear hy HOW HSET hH hxb ht HO1 hp36 ha2
     go_wp2_with fail
     obtain⟨W2,hW2⟩:∃W2,wr.setCell ⟨N,j,none⟩ (.int .i64 (lo+(jj:Int)))=W2:=⟨_,rfl⟩
     rw[hW2] at HST HSB ⊢
     clear hW2 d1 f1 f2 d4 cN zN lm lb hNl
     obtain⟨hma,_,_,d1,_,_,_,lm,_⟩:=HST.out.old
     have d5:=HST.out.2.2.2.2.1
     unfold zJ6 at d5
     have HMV:Hid (VArg W2.drew (.slice (some ⟨b,off,none⟩) m.vars.length cv) m.vars):=VArg.below (Below.refl _ _).drew hma.1
     have HSTD:Hid (PtsS N bs bm bc m con (.slice (some ⟨b,off,none⟩) m.vars.length cv) cs (.slice (some ⟨b2,o2,none⟩) scope.length csv) scope (vals'.set j (lo+(jj:Int))) (out++ptsN m.vars c j rest vals a lo jj) W2.drew):=HST.out.below (Below.refl _ _).drew
     clear hma
     have hwk:IntKind.i64.wrap ((k:Int)+1)=(k:Int)+1:=by simp[IntKind.wrap,IntKind.signed,IntKind.bits];omega
     go_region_held3 (fun w'=>w'.cell? ⟨N+3,0,none⟩=some (.func (.func 185) #[] #[.pointer (some ⟨bs,0,none⟩),.pointer (some ⟨bm,0,none⟩),.pointer (some ⟨bc,0,none⟩),.pointer (some ⟨N+1,0,none⟩),.pointer (some ⟨N+2,0,none⟩),.pointer (some ⟨N+3,0,none⟩)])∧w'.cell? ⟨bm,0,none⟩=some (.slice (some ⟨b,off,none⟩) m.vars.length cv))
      (first | exact⟨d5,d1⟩ | assumption | exact⟨hd5,hd1⟩)
      (first
       | (go_at_call 186;refine (HON.out _ HMV.out).mono ?_;rintro e w2 ⟨rfl,rfl⟩)
       | (go_at_call 185;refine (HIH.out _ _ _ _ HV1.out HV2.out HA2.out HBU.out HSTD.out).mono ?_;rintro e w2 ⟨rfl,v2,hT2,hl2,hb2',hag2,hbN2⟩;have hd5:=hT2.2.2.2.2.1;unfold zJ6 at hd5;have hd1:=hT2.old.2.2.2.1))
     ·have HT2:Hid (PtsS N bs bm bc m con (.slice (some ⟨b,off,none⟩) m.vars.length cv) cs (.slice (some ⟨b2,o2,none⟩) scope.length csv) scope v2 (out++ptsN m.vars c j rest vals a lo (jj+1)) w2):=by
       rw[HNX.out,←List.append_assoc];exact hT2
      have HH2:Hid (v2.length=m.vars.length∧(∀x∈v2,-50≤x∧x≤50)∧zCn ((j:Int) :: rest) vals v2):=⟨hl2,hb2',HAG.out.trans (zCn.cons _ hag2)⟩
      have HB2:Hid (Below N w w2):=HSB.out.trans ((Below.refl _ _).drew.trans hbN2)
      clear hT2 hl2 hb2' hag2 hbN2 hd5 hd1
      go_wp2
      go_roundw
      case rel=>exact⟨jj+1,v2,by omega,by go_num,HT2.out,HH2,HB2.out⟩
      case measure=>simp[intOf];omega
    ·have hle:¬(lo+(jj:Int)≤hi):=by omega
     have hje:jj=n:=by omega
     have HF:Hid (PtsS N bs bm bc m con (.slice (some ⟨b,off,none⟩) m.vars.length cv) cs (.slice (some ⟨b2,o2,none⟩) scope.length csv) scope vals' (out++zAk m.vars c ((j:Int) :: rest) vals a) wr):=by
      have h:=HTR.out
      rw[hje,HALL.out] at h
      exact h
     clear hje
     go_wp2
     go_end0
     exact⟨rfl,vals',HF.out,hH.out.1,hH.out.2.1,hH.out.2.2,HBW.out⟩
theorem zEB {w:World} {base:Nat} {v:Value} {l:List Nat} (h:w.ownsRow base 183 1 v l.length (u64s l)) (hl:∀z∈l,z<2 ^ 36):PArg w v l:=by
 rcases h.2 with ⟨rfl,hn⟩ | ⟨g,cap,cur,rfl,hg,hh,hc1,hc2,_,_⟩
 ·have:l=[]:=List.eq_nil_of_length_eq_zero hn
  subst this
  exact⟨none,0,rfl,⟨Nat.le_refl _,Nat.zero_le _⟩,fun i z hz=>by simp at hz⟩
 ·refine⟨_,cap,rfl,⟨hc1,hc2⟩,fun i z hz=>⟨hl z (List.mem_of_getElem? hz),g,0,rfl,(Array.getElem?_eq_some_iff.1 hh).1,?_⟩⟩
  have hi:i<l.length:=(List.getElem?_eq_some_iff.1 hz).1
  rw[Nat.zero_add,h.cellAt i (by omega)]
  unfold u64s
  rw[List.getElem?_map,hz];rfl
theorem zML (m:Mod) (hm:zAE m=0) (j:Nat) (c:MCon) (hc:m.cons[j]? = some c):(zBA c).length≤8:=by
 obtain⟨hn4,hl4,_,_⟩:=zJ0 c (zF4 _ _ (zHS m hm j c hc)).2.1
 have h1:=zHW (zEn (zCG c))
 rw[zEo] at h1
 show (zHH (zEn (zCG c))).length≤8
 have h2:(zCG c).length=c.vars.length+c.lits.length:=by simp[zCG]
 omega
theorem Tryz.infoIntF:(Tryz.prog.info? 3).map (fun i=>(i.zero,i.size,i.bytes))=some (some (.int .i64 0),1,8):=by kernel_rfl
theorem Tryz.underIntsF:Tryz.prog.underlying 26=some (.slice 3):=by kernel_rfl
theorem zP0 (w:World) (n base:Nat) (hn:n≤6) (hb:base≤w.heap.size):(w.alloc (.cells (madeCells #[.int .i64 0] n) 3)).ownsRow base 3 1 (.slice (some ⟨w.heap.size,0,none⟩) n n) n ((zBm n).map (Value.int .i64)):=by
 refine⟨by simp[zBm],Or.inr ⟨w.heap.size,n,_,rfl,hb,heap_alloc_new w _,Nat.le_refl _,by unfold maxLen;omega,?_,?_⟩⟩
 ·have h:=congrArg List.length (toList_madeCells_one (.int .i64 0) n)
  simp at h
  simpa using h
 ·rw[toList_madeCells_one]
  simp[zBm]
def zDx (N bs bm bc n:Nat) (W:World):World:=(((W.alloc (.cells (madeCells #[.int .i64 0] n) 3)).alloc (.cells #[.slice (some ⟨N,0,none⟩) n n] 26)).alloc (.cells #[.slice none 0 0] 180)).alloc (.cells #[.func (.func 185) #[] (zJ6 N bs bm bc)] 231)
theorem zS8 {W:World} {N bs bm bc con n:Nat} {m:Mod} {vs cs sv:Value} {scope:List Int} (hN:W.heap.size=N) (hn:n≤6)
 (hW:MArg W vs cs m∧IArg W sv scope∧W.cell? ⟨bs,0,none⟩=some sv∧W.cell? ⟨bm,0,none⟩=some vs∧W.cell? ⟨bm,1,none⟩=some cs∧W.cell? ⟨bc,0,none⟩=some (.int .i64 con)) :
 PtsS N bs bm bc m con vs cs sv scope (zBm n) [] (zDx N bs bm bc n W)∧Below N W (zDx N bs bm bc n W):=by
 subst hN
 have hzl:(zBm n).length=n:=by simp[zBm]
 have r1:=zP0 W n W.heap.size hn (Nat.le_refl _)
 have r3:=World.ownsRow_lit (base:=W.heap.size) (e:=180) (size:=1) ((W.alloc (.cells (madeCells #[.int .i64 0] n) 3)).alloc (.cells #[.slice (some ⟨W.heap.size,0,none⟩) n n] 26)) #[.slice none 0 0] 1 (by simp;omega) (by unfold maxLen;omega) rfl
 have e3:((W.alloc (.cells (madeCells #[.int .i64 0] n) 3)).alloc (.cells #[.slice (some ⟨W.heap.size,0,none⟩) n n] 26)).heap.size=W.heap.size+2:=by simp
 rw[e3] at r3
 have hsz:(zDx W.heap.size bs bm bc n W).heap.size=W.heap.size+4:=by unfold zDx;simp
 have hb:Below W.heap.size W (zDx W.heap.size bs bm bc n W):=(((zAA _ _).alloc (by simp) _).alloc (by simp;omega) _).alloc (by simp;omega) _
 have q1:(zDx W.heap.size bs bm bc n W).ownsRow W.heap.size 3 1 (.slice (some ⟨W.heap.size,0,none⟩) n n) n ((zBm n).map (Value.int .i64)):=((r1.alloc _).alloc _).alloc _
 refine⟨⟨by omega,⟨W,Nat.le_refl _,hW,hb⟩,by rw[hzl];exact q1,?_,?_,.slice none 0 0,r3.alloc _,World.ownsRow_nil _ _ _ _⟩,hb⟩
 ·rw[hzl]
  unfold zDx
  rw[World.cell?_alloc_past _ _ _ (by simp),World.cell?_alloc_past _ _ _ (by simp)]
  exact World.cell?_alloc_at _ _ _ 0 (by simp)
 ·unfold zDx
  exact World.cell?_alloc_at _ _ _ 0 (by simp)
set_option maxHeartbeats 1600000 in
set_option maxRecDepth 100000 in
theorem zJA (m:Mod) (con:Nat) (c:MCon) (vs cs:Value) (w:World) (hm:zAE m=0) (hc:m.cons[con]? = some c) (hma:MArg w vs cs m) :
 Calls Tryz.prog 127 #[modV vs cs m,.int .i64 con] w fun e w'=>∃x,e=.returned x∧w'.ownsRow w.heap.size 183 1 x (zAM m.vars c).length (u64s (zAM m.vars c))∧Below w.heap.size w w':=by
 have HMA:Hid (∀w',Below w.heap.size w w'→MArg w' vs cs m):=fun w' h=>MArg.below h hma
 have HM:Hid (zAE m=0):=hm
 have HC:Hid (m.cons[con]? = some c):=hc
 have H6:m.vars.length≤6:=(zAx m hm).2.1
 have hcon:con<m.cons.length:=(List.getElem?_eq_some_iff.1 hc).1
 have HSC:Hid (zHX m (con:Int)=(zBA c,0)):=by
  show _=_
  have h1:zBl m (con:Int)=0:=by unfold zBl;rw[if_pos hm,if_neg (by omega)]
  unfold zHX
  rw[if_pos h1,Int.toNat_natCast,List.getD_eq_getElem?_getD,hc];rfl
 have hmk:=run_make_row' (P:=Tryz.prog) 26 3 (.int .i64 0) 8 Tryz.underIntsF Tryz.infoIntF rfl .i64 .i64 m.vars.length (by omega) (by omega)
 obtain⟨⟨a1,c1,rfl,hm1,_⟩,⟨a2,c2,rfl,_,_⟩⟩:=hma
 unfold maxLen at hm1
 obtain⟨hm11,hm1⟩:=hm1
 unfold modV
 clear hm hc
 go_enter Tryz.func127,Tryz.ntmps127
 go_wp2_with fail
 refine (zIp m (con:Int) _ _ _ (HMA.out _ ((zAA _ _).alloc (by simp) _))).mono ?_
 rw[HSC.out]
 rintro e w1 ⟨x,rfl,hx,hb1⟩
 have hbw:Below w.heap.size w w1:=((zAA _ _).alloc (by simp) _).trans (hb1.mono (by simp;omega))
 have hq0:w1.cell? ⟨w.heap.size,0,none⟩=some (.slice a1 m.vars.length c1):=(hb1.cell (by simp;omega)).trans ((World.cell?_alloc_past _ _ _ (by simp)).trans (World.cell?_alloc_at _ _ _ 0 (by simp)))
 have hq1:w1.cell? ⟨w.heap.size,1,none⟩=some (.slice a2 m.cons.length c2):=(hb1.cell (by simp;omega)).trans ((World.cell?_alloc_past _ _ _ (by simp)).trans (World.cell?_alloc_at _ _ _ 1 (by simp)))
 have hq2:w1.cell? ⟨w.heap.size+1,0,none⟩=some (.int .i64 con):=(hb1.cell (by simp)).trans (World.cell?_alloc_at _ _ _ 0 (by simp))
 have hl0:w.heap.size+1<w1.heap.size:=by have:=hb1.size;simp at this;omega
 have hl1:w.heap.size<w1.heap.size:=by omega
 have HX:Hid (IArg w1 x (zBA c)):=hx
 obtain⟨ax,cx,rfl,_,_⟩:=hx
 have HBW:Hid (Below w.heap.size w w1):=hbw
 have HSCI:Hid (∀v∈zBA c,0≤v∧v<(m.vars.length:Int)):=(zFE m HM.out con c HC.out).1
 have HS8:Hid ((zBA c).length≤8):=zML m HM.out con c HC.out
 have HPN:Hid (_):=zS8 (W:=w1.alloc (.cells #[.slice ax (zBA c).length cx] 26)) (N:=w1.heap.size+1) (bs:=w1.heap.size) (bm:=w.heap.size) (bc:=w.heap.size+1) (con:=con) (n:=m.vars.length) (m:=m) (scope:=zBA c) (by simp) H6
  ⟨HMA.out _ (HBW.out.alloc HBW.out.size _),IArg.below (zAA _ _) HX.out,World.cell?_alloc_at _ _ _ 0 (by simp),(World.cell?_alloc_past _ _ _ hl1).trans hq0,(World.cell?_alloc_past _ _ _ hl1).trans hq1,(World.cell?_alloc_past _ _ _ hl0).trans hq2⟩
 clear hb1 hbw
 go_wp2_with fail
 have HB5:Hid (Below w.heap.size w (zDx (w1.heap.size+1) w1.heap.size w.heap.size (w.heap.size+1) m.vars.length (w1.alloc (.cells #[.slice ax (zBA c).length cx] 26)))):=(HBW.out.alloc HBW.out.size _).trans (HPN.out.2.mono (by have:=HBW.out.size;omega))
 have HZL:Hid ((zBm m.vars.length).length=m.vars.length):=by show _=_;simp[zBm]
 refine (zS7 (w1.heap.size+1) w1.heap.size w.heap.size (w.heap.size+1) m con c _ _ _ (zBA c) HM.out HC.out HSCI.out HS8.out (zBA c) 0 (zBm m.vars.length) 0 [] (zDx (w1.heap.size+1) w1.heap.size w.heap.size (w.heap.size+1) m.vars.length (w1.alloc (.cells #[.slice ax (zBA c).length cx] 26))) rfl (Nat.zero_le _) HZL.out (fun x hx=>by have:=List.eq_of_mem_replicate hx;omega) (by omega) ?_ HPN.out.1).mono ?_
 ·have h2:6 ^ (zBA c).length≤6 ^ 8:=Nat.pow_le_pow_right (by omega) HS8.out
  simp only[List.length_nil]
  omega
 rintro e w2 ⟨rfl,vals',hT2,_,_,_,hb2⟩
 have HB6:Hid (Below w.heap.size w w2):=HB5.out.trans (hb2.mono (by have:=HBW.out.size;omega))
 obtain⟨hsz,_,_,_,_,ov,ho,hr⟩:=hT2
 have HPA:Hid (w2.ownsRow w.heap.size 183 1 ov (zAM m.vars c).length (u64s (zAM m.vars c))):=World.ownsRow.mono hr (by have:=HBW.out.size;omega)
 obtain⟨ao,co,rfl⟩:=zAB hr
 have hco:w2.cell? ⟨w1.heap.size+1+1+1,0,none⟩=some (.slice ao ([]++zAk m.vars c (zBA c) (zBm m.vars.length) 0).length co):=ho.cellAt 0 (by omega)
 have hlo:w1.heap.size+1+1+1<w2.heap.size:=by omega
 clear hr ho hb2 HPN
 go_wp2
 go_ret
 exact⟨_,rfl,HPA.out,HB6.out⟩
theorem zJB (m:Mod) (hm:zAE m=0) (j:Nat) (c:MCon) (hc:m.cons[j]? = some c):∀z∈zAM m.vars c,z<2 ^ 36:=zKp m.vars (zCy m hm) c _ _ _ (zFE m hm j c hc).1 (by omega)
theorem zCJ {w2 Y w3:World} {A:Prop} (h:Below w2.heap.size w2 Y∧A) (hb:Below Y.heap.size Y w3):Below w2.heap.size w2 w3:=h.1.trans (hb.mono h.1.size)
set_option maxHeartbeats 1600000 in
set_option maxRecDepth 100000 in
theorem zNZ (vs:List MVar) (hva:zAR vs) (pts:List Nat) (h:Nat) (hh:h<2 ^ 36) (sv pv:Value) (w:World) (hv:VArg w sv vs) (hp:PArg w pv pts) :
 Calls Tryz.prog 126 #[sv,pv,.int .u64 h] w fun e w'=>e=.returned (.bool (zCa vs pts h))∧Below w.heap.size w w':=by
 have HV:Hid (∀w',Below w.heap.size w w'→VArg w' sv vs):=fun w' h=>VArg.below h hv
 have HP:Hid (∀w',Below w.heap.size w w'→PArg w' pv pts):=fun w' h=>PArg.below h hp
 have HVO:Hid (zAR vs):=hva
 have HH:Hid (h<2 ^ 36):=hh
 have H6:Hid (vs.length≤6):=hva.1.1
 have HW36:Hid (zAC vs<2 ^ 36):=zF6 vs hva.1 _
 obtain⟨q,hq⟩:∃q,zAC vs=q:=⟨_,rfl⟩
 obtain⟨r,hr⟩:∃r,zAK (zAC vs) h=r:=⟨_,rfl⟩
 have HR36:Hid (r<2 ^ 36):=by rw[←hr];exact zCO 36 _ _ HW36.out
 have hbits:=zAg (zAC vs) h (by have:=HW36.out;omega) (by omega)
 rw[hr,hq] at hbits
 have HQ:Hid (zAC vs=q):=hq
 have HS:Hid (zCa vs pts h=(zCA vs.length r || !pts.any (zD6 h))):=by show _=_;unfold zCa;rw[hr]
 rw[HS.out]
 have HWH:Hid (∀w',Below w.heap.size w w'→Calls Tryz.prog 183 #[sv] w' fun e w''=>e=.returned (.int .u64 (q:Int))∧Below w'.heap.size w' w''):=fun w' hb=>by
  rw[←HQ.out];exact zGI vs HVO.out sv w' (HV.out w' hb)
 have HLA:Hid (∀w',Below w.heap.size w w'→Calls Tryz.prog 182 #[sv,.int .u64 r] w' fun e w''=>e=.returned (.bool (zCA vs.length r))∧Below w'.heap.size w' w''):=fun w' hb =>
  (zHv vs H6.out r HR36.out sv w' (HV.out w' hb)).mono fun e w'' ⟨h1,h2⟩=>⟨h1,by rw[h2];exact Below.refl _ _⟩
 have HCO:Hid (∀w',Below w.heap.size w w'→∀b1,w'.cell? ⟨b1,0,none⟩=some (.int .u64 h)→Calls Tryz.prog 184 #[pv,.func (.func 181) #[] #[.pointer (some ⟨b1,0,none⟩)]] w' fun e w''=>e=.returned (.bool (pts.any (zD6 h)))∧Below w'.heap.size w' w''):=fun w' hb b1 hc =>
  (zHw h HH.out b1 pts pv w' (HP.out w' hb) hc).mono fun e w'' ⟨h1,h2⟩=>⟨h1,by rw[h2];exact Below.refl _ _⟩
 obtain⟨a,c,rfl,_,_⟩:=hv
 obtain⟨a2,c2,rfl,_,_⟩:=hp
 clear hva hh hq hr
 obtain⟨L,hL⟩:∃L,zCA vs.length r=L:=⟨_,rfl⟩
 obtain⟨S,hS⟩:∃S,pts.any (zD6 h)=S:=⟨_,rfl⟩
 rw[hL] at HLA ⊢
 rw[hS] at HCO ⊢
 clear hL hS HS
 go_enter Tryz.func126,Tryz.ntmps126
 go_wp2_with fail
 have HB0:Hid (Below w.heap.size w (w.alloc (.cells #[.int .u64 h] 183))):=zAA _ _
 have k0:(w.alloc (.cells #[.int .u64 h] 183)).cell? ⟨w.heap.size,0,none⟩=some (.int .u64 h):=World.cell?_alloc_at _ _ _ 0 (by simp)
 have n0:w.heap.size<(w.alloc (.cells #[.int .u64 h] 183)).heap.size:=by simp
 obtain⟨W,hW⟩:∃W,w.alloc (.cells #[.int .u64 h] 183)=W:=⟨_,rfl⟩
 rw[hW] at HB0 k0 n0 ⊢
 clear hW
 have HT:Hid (∀Y,Below W.heap.size W Y→Below w.heap.size w Y):=fun Y hY=>HB0.out.trans (hY.mono HB0.out.size)
 cases L
 ·go_region_held3 (fun w'=>Below W.heap.size W w'∧w'.cell? ⟨w.heap.size,0,none⟩=some (.int .u64 h))
   ((refine (fun (hB:Below W.heap.size W _)=>⟨hB,(hB.cell (p:=⟨w.heap.size,0,none⟩) n0).trans k0⟩:Below W.heap.size W _→_) ?_;first | exact (Below.refl _ _).drew | exact zCJ (by assumption) hbq))
   (first
    | (go_at_call 183;refine (HWH.out _ (HT.out _ (show Below W.heap.size W _∧_ by assumption).1)).mono ?_;rintro e w3 ⟨rfl,hbq⟩;have hB3:=zCJ (by assumption) hbq)
    | (go_at_call 182;refine (HLA.out _ (HT.out _ (show Below W.heap.size W _∧_ by assumption).1)).mono ?_;rintro e w3 ⟨rfl,hbq⟩;have hB3:=zCJ (by assumption) hbq)
    | (go_at_call 184;refine (HCO.out _ (HT.out _ (show Below W.heap.size W _∧_ by assumption).1) _ (show Below W.heap.size W _∧_ by assumption).2).mono ?_;rintro e w3 ⟨rfl,hbq⟩;have hB3:=zCJ (by assumption) hbq))
  have HB3:Hid (Below w.heap.size w w3):=HT.out _ hB3
  go_wp2
  go_ret
  exact⟨zAG (by simp),HB3.out⟩
 ·have HS:Hid (∀Y,Below W.heap.size W Y→Below W.heap.size W Y∧Y.cell? ⟨w.heap.size,0,none⟩=some (.int .u64 h)):=fun Y hY=>⟨hY,(hY.cell (p:=⟨w.heap.size,0,none⟩) n0).trans k0⟩
  have hHeld:=HS.out W.drew (Below.refl _ _).drew
  refine wp_region_held_drew (S:=fun Y=>Below W.heap.size W Y∧Y.cell? ⟨w.heap.size,0,none⟩=some (.int .u64 h)) (by kernel_rfl) hHeld (fun _=>?_)
  refine wpAnyH_take (i:=0) (v:=?v0) rfl (by kernel_rfl) (by kernel_rfl) (by kernel_rfl) (fun _ _ _ h=>h) (Or.inl ⟨by rfl,?y0⟩) hHeld ?r0
  case y0=>intro wq hSw;obtain⟨q0,q1⟩:=hSw;go_simp;with_reducible rfl
  refine wpAnyH_take (i:=1) (v:=?v1) rfl (by kernel_rfl) (by kernel_rfl) (by kernel_rfl) (fun _ _ _ h=>h) (Or.inl ⟨by rfl,?y1⟩) hHeld ?r1
  case y1=>intro wq hSw;obtain⟨q0,q1⟩:=hSw;go_simp;with_reducible rfl
  refine wpAnyH_take (i:=3) (v:=?v3) rfl (by kernel_rfl) (by kernel_rfl) (by kernel_rfl) (fun _ _ _ h=>h) (Or.inl ⟨by rfl,?y3⟩) hHeld ?r3
  case y3=>intro wq hSw;obtain⟨q0,q1⟩:=hSw;go_simp;with_reducible rfl
  refine wpAnyH_ready (rs:=[2]) (by kernel_rfl) (by simp) ?_
  refine AllReadyH.cons rfl (fun K hK=>?_) AllReadyH.nil
  go_simp
  refine (HWH.out _ (HT.out _ hHeld.1)).mono ?_
  rintro e w2 ⟨rfl,hb2⟩
  have hB2:Below W.heap.size W w2:=hHeld.1.trans hb2
  dsimp only
  have hHeld2:=HS.out w2 hB2
  refine hK.out _ _ hHeld2 (fun _=>?_)
  clear hK
  refine wpAnyH_take (i:=4) (v:=?v4) rfl (by kernel_rfl) (by kernel_rfl) (by kernel_rfl) (fun _ _ _ h=>h) (Or.inl ⟨by rfl,?y4⟩) hHeld2 ?r4
  case y4=>intro wq hSw;obtain⟨q0,q1⟩:=hSw;go_simp;with_reducible rfl
  refine wpAnyH_ready (rs:=[5]) (by kernel_rfl) (by simp) ?_
  refine AllReadyH.cons rfl (fun K hK=>?_) AllReadyH.nil
  go_simp
  refine (HLA.out _ (HT.out _ hHeld2.1)).mono ?_
  rintro e w3 ⟨rfl,hb3⟩
  have hB3:Below W.heap.size W w3:=hB2.trans (hb3.mono hB2.size)
  dsimp only
  have hHeld3:=HS.out w3 hB3
  refine hK.out _ _ hHeld3 (fun _=>?_)
  clear hK
  refine wpAnyH_take (i:=6) (v:=?v6) rfl (by kernel_rfl) (by kernel_rfl) (by kernel_rfl) (fun _ _ _ h=>h) (Or.inl ⟨by rfl,?y6⟩) hHeld3 ?r6
  case y6=>intro wq hSw;obtain⟨q0,q1⟩:=hSw;go_simp;with_reducible rfl
  refine wpAnyH_take (i:=7) rfl (by kernel_rfl) (by kernel_rfl) (by kernel_rfl) (fun _ _ _ h=>h) (Or.inr ⟨by rfl,rfl⟩) hHeld3 ?_
  refine wpAnyH_take (i:=8) rfl (by kernel_rfl) (by kernel_rfl) (by kernel_rfl) (fun _ _ _ h=>h) (Or.inr ⟨by rfl,rfl⟩) hHeld3 ?_
  refine wpAnyH_take (i:=9) rfl (by kernel_rfl) (by kernel_rfl) (by kernel_rfl) (fun _ _ _ h=>h) (Or.inr ⟨by rfl,rfl⟩) hHeld3 ?_
  refine wpAnyH_take (i:=10) rfl (by kernel_rfl) (by kernel_rfl) (by kernel_rfl) (fun _ _ _ h=>h) (Or.inr ⟨by rfl,rfl⟩) hHeld3 ?_
  refine wpAnyH_take (i:=11) (v:=?v11) rfl (by kernel_rfl) (by kernel_rfl) (by kernel_rfl) (fun _ _ _ h=>h) (Or.inl ⟨by rfl,?y11⟩) hHeld3 ?r11
  case y11=>intro wq hSw;obtain⟨q0,q1⟩:=hSw;go_simp;with_reducible rfl
  refine wpAnyH_take (i:=12) (v:=?v12) rfl (by kernel_rfl) (by kernel_rfl) (by kernel_rfl) (fun _ _ _ h=>h) (Or.inl ⟨by rfl,?y12⟩) hHeld3 ?r12
  case y12=>intro wq hSw;obtain⟨q0,q1⟩:=hSw;go_simp;with_reducible rfl
  refine wpAnyH_done (by kernel_rfl) ?_ _
  have HB3:Hid (Below w.heap.size w w3):=HT.out _ hB3
  go_wp2
  go_ret
  exact⟨zAG (by simp),HB3.out⟩
def TabT (w:World):Prop:=TabAt 1 Lib.deBruijn64tab w
theorem TabT.below {w w':World} (h:TabT w) (hb:Below w.heap.size w w'):TabT w':=fun j hj=>by
 have:=h j hj
 exact (hb.cell (World.block_lt_of_cell? w _ this)).trans this
set_option maxHeartbeats 1000000 in
theorem zP1 (x k idx:Nat) (w:World) (hx0:((x:Int)==0)=false)
 (key:IntKind.u64.wrap (bits BinOp.and IntKind.u64 (x:Int) (IntKind.u64.wrap (-(x:Int))) * 285870213051353865) / 288230376151711744=(idx:Int))
 (hi:idx<64) (hk:k<64) (hcell:w.cell? ⟨1,idx,none⟩=some (.int .u8 k)) :
 Calls Tryz.prog 258 #[.int .u64 x] w fun e w'=>e=.returned (.int .i64 k)∧w'=w:=by
 go_enter Tryz.func258,Tryz.ntmps258
 go_wp2_with (simp only[key])
 go_ret
 exact⟨rfl,rfl⟩
theorem zP2 (w:World):Calls Tryz.prog 258 #[.int .u64 0] w fun e w'=>e=.returned (.int .i64 64)∧w'=w:=by
 go_enter Tryz.func258,Tryz.ntmps258
 go_wp2
 go_ret
 exact⟨rfl,rfl⟩
theorem zNa (x:Nat) (hx:x<18446744073709551616) (w:World) (hT:TabT w) :
 Calls Tryz.prog 258 #[.int .u64 x] w fun e w'=>e=.returned (.int .i64 (Lib.ctz 64 x))∧w'=w:=by
 by_cases hx0:x=0
 ·subst hx0
  exact zP2 w
 ·obtain⟨hlow,hk⟩:=Lib.lowest_bit 64 x hx0 hx
  obtain⟨hi,htab⟩:=Lib.deBruijn64_at _ hk
  have hcell:=hT _ hi
  rw[htab] at hcell
  exact zP1 x _ _ w (by simp;omega) (tz64_key x _ hx hx0 hlow) hi hk hcell
theorem zTc (k:Nat) (hk:k<8):IntKind.u64.wrap (63 * 2 ^ (k * 6))=((63 * 2 ^ (6 * k):Nat):Int):=by
 rw[IntKind.wrap_u64,Nat.mul_comm k 6]
 have:(2:Nat) ^ (6 * k)≤2 ^ 42:=Nat.pow_le_pow_right (by omega) (by omega)
 have e:(63:Int) * ((2:Int) ^ (6 * k))=((63 * 2 ^ (6 * k):Nat):Int):=by simp
 rw[e]
 exact Int.emod_eq_of_lt (by omega) (by omega)
set_option maxHeartbeats 400000 in
theorem zGJ (p:Nat) (h0:p≠0) (hp:p<2 ^ 36) (w:World) (hT:TabT w) :
 Calls Tryz.prog 249 #[.int .u64 p] w fun e w'=>e=.returned (.int .u64 ((zAf p:Nat):Int))∧w'=w:=by
 have HT:Hid (TabT w):=hT
 have hc:=(zFF p h0 hp).2
 obtain⟨t,ht⟩:∃t,Lib.ctz 64 p=t:=⟨_,rfl⟩
 have HC:Hid (Lib.ctz 64 p=t):=ht
 rw[ht] at hc
 have HF:Hid (zAf p=63 * 2 ^ (6 * (t / 6))):=by show _=_;unfold zAf;rw[ht]
 have hs:=zTc (t / 6) (by omega)
 rw[HF.out]
 obtain⟨q,hq⟩:∃q,63 * 2 ^ (6 * (t / 6))=q:=⟨_,rfl⟩
 rw[hq] at hs ⊢
 have HP:Hid (p<2 ^ 36):=hp
 clear hT ht hq hp h0
 go_enter Tryz.func249,Tryz.ntmps249
 go_wp2_with fail
 refine (zNa p (by have:=HP.out;omega) _ HT.out).mono ?_
 rintro e w ⟨rfl,rfl⟩
 rw[HC.out]
 go_wp2
 go_ret
 exact⟨zAH hs,rfl⟩
end Go.Proofs.YtdjbejlbmaiocagGreatDoor
