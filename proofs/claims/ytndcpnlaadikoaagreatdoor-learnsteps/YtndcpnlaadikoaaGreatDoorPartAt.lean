/- What the proof leans on, part 20. -/
import Derived.Test.YtndcpnlaadikoaaGreatDoorPartAs
import Derived.Deep.OwnRows
import Derived.Deep.Onto
import Derived.Laws.EntriesVeiled
import Derived.Test.YtndcpnlaadikoaaGreatDoorPartAc
namespace Go.Proofs.YtndcpnlaadikoaaGreatDoor
open Go.RowKit
theorem zLX {w:World} {b off c n:Nat} {l:List MVar} (h:VArg w (.slice (some ⟨b,off,none⟩) n c) l) (j:Nat) (hj:j<l.length) :
 b<w.heap.size∧w.cell? ⟨b,off+j * 3+1,none⟩=some (.int .i64 (zAH l j).lo)∧w.cell? ⟨b,off+j * 3+2,none⟩=some (.int .i64 (zAH l j).hi):=by
 obtain⟨a,c',hv,_,hr⟩:=h
 obtain⟨_,b',off',ha,hb,_,c1,c2⟩:=hr j _ (zGA hj)
 injection hv with e1 _ _
 rw[ha] at e1
 cases e1
 exact⟨hb,c1,c2⟩
set_option maxHeartbeats 3200000 in
set_option maxRecDepth 100000 in
theorem zNc (N bs bm bc:Nat) (m:Mod) (con:Nat) (c:MCon) (vs cs sv:Value) (scope:List Int) (hm:zAP m=0) (hc:m.cons[con]? = some c) (hsc:∀v∈scope,0≤v∧v<(m.vars.length:Int)) (hs8:scope.length≤8) :
 ∀(rest:List Int) (k:Nat) (vals:List Int) (a:Nat) (out:List Nat) (w:World),scope.drop k=rest→k≤scope.length→vals.length=m.vars.length→(∀x∈vals,-50≤x∧x≤50)→a<2 ^ 36→out.length+6 ^ rest.length≤10000000 →
  PtsS N bs bm bc m con vs cs sv scope vals out w →
  Calls Tryz.prog 196 #[.int .i64 k,.int .u64 a,.pointer (some ⟨bs,0,none⟩),.pointer (some ⟨bm,0,none⟩),.pointer (some ⟨bc,0,none⟩),.pointer (some ⟨N+1,0,none⟩),.pointer (some ⟨N+2,0,none⟩),.pointer (some ⟨N+3,0,none⟩)] w fun e w'=>e=.returned (.tuple #[]) ∧
   ∃vals',PtsS N bs bm bc m con vs cs sv scope vals' (out++zAa m.vars c rest vals a) w'∧vals'.length=m.vars.length∧(∀x∈vals',-50≤x∧x≤50)∧zBq rest vals vals'∧Below N w w':=by
 have HSC:Hid (∀v∈scope,0≤v∧v<(m.vars.length:Int)):=hsc
 have HVA:Hid (zAU m.vars):=zCx m hm
 have HCE:Hid (conE m.vars.length c=0):=zHL m hm con c hc
 have HC:Hid (m.cons[con]? = some c):=hc
 clear hsc hm hc
 intro rest
 induction rest with
 | nil =>
   intro k vals a out w hdr hk hvl hvb ha hbud hT
   have hks:k=scope.length:=by
    have:=congrArg List.length hdr
    simp at this
    omega
   subst hks
   refine (zNb N bs bm bc m con c vs cs sv scope vals a out w HC.out (by rw[hvl];exact HCE.out) hvb (by simp at hbud;omega) hT).mono ?_
   rintro e w' ⟨rfl,h1,h2⟩
   exact⟨rfl,vals,h1,hvl,hvb,zBq.refl _ _,h2⟩
 | cons v rest ih =>
   intro k vals a out w hdr hk hvl hvb ha hbud hT
   have hkl:k<scope.length:=by
    have:=congrArg List.length hdr
    simp at this
    omega
   have hkv:scope[k]? = some v:=by
    have h:=congrArg (fun q:List Int=>q[0]?) hdr
    simpa using h
   have hdr2:scope.drop (k+1)=rest:=by
    have h:=congrArg List.tail hdr
    simpa using h
   obtain⟨hv0,hv1⟩:=HSC.out v (List.mem_of_getElem? hkv)
   obtain⟨j,rfl⟩:∃j:Nat,v=(j:Int):=⟨v.toNat,by omega⟩
   have hjs:j<m.vars.length:=by omega
   obtain⟨hma,hia,d0,d1,_,_,_,_,_⟩:=hT.old
   obtain⟨⟨av,cv,hvs,hmv,hrv⟩,_⟩:=hma
   obtain⟨_,b,off,hav,hbv,_,f1,f2⟩:=hrv j _ (zGA hjs)
   subst hav
   subst hvs
   obtain⟨asv,csv,hsv,hms,hscell⟩:=hia
   obtain⟨b2,o2,has,hb2,e0⟩:=hscell k _ hkv
   subst has
   subst hsv
   unfold maxLen at hms hmv
   obtain⟨hms1,hms⟩:=hms
   obtain⟨hmv1,hmv⟩:=hmv
   obtain⟨lo,hlo⟩:∃lo,(zAH m.vars j).lo=lo:=⟨_,rfl⟩
   obtain⟨hi,hhi⟩:∃hi,(zAH m.vars j).hi=hi:=⟨_,rfl⟩
   obtain⟨n,hn⟩:∃n,zAu (zAH m.vars j)=n:=⟨_,rfl⟩
   have HLO:Hid ((zAH m.vars j).lo=lo):=hlo
   have HHI:Hid ((zAH m.vars j).hi=hi):=hhi
   have hbn:=HVA.out.2 j hjs
   have hn6:n≤6:=by rw[←hn];exact HVA.out.1.2 j
   have hnn:(n:Int)=hi+1 - lo:=by rw[←hn,←hlo,←hhi];unfold zAu;omega
   rw[hlo] at f1 hbn
   rw[hhi] at f2 hbn
   have H6:Hid (m.vars.length≤6):=HVA.out.1.1
   have HT:Hid (PtsS N bs bm bc m con (.slice (some ⟨b,off,none⟩) m.vars.length cv) cs (.slice (some ⟨b2,o2,none⟩) scope.length csv) scope vals out w):=hT
   have HVB:Hid (∀x∈vals,-50≤x∧x≤50):=hvb
   have HVL:Hid (vals.length=m.vars.length):=hvl
   have HA:Hid (a<2 ^ 36):=ha
   have HALL:Hid (ptsN m.vars c j rest vals a lo n=zAa m.vars c ((j:Int) :: rest) vals a):=by show _=_;rw[←hlo,←hn];exact zMj m.vars c j rest vals a
   obtain⟨X,hX⟩:∃X,6 ^ rest.length=X:=⟨_,rfl⟩
   have hbud2:out.length+6 * X≤10000000:=by
    rw[List.length_cons,Nat.pow_succ] at hbud
    omega
   have HCNT:Hid (∀jj,(ptsN m.vars c j rest vals a lo jj).length≤jj * X):=fun jj=>by rw[←hX];exact zGI m.vars HVA.out.1 c j rest vals a lo jj
   have HIH:Hid (∀(vals:List Int) (a:Nat) (out:List Nat) (w:World),vals.length=m.vars.length→(∀x∈vals,-50≤x∧x≤50)→a<2 ^ 36→out.length+X≤10000000 →
    PtsS N bs bm bc m con (.slice (some ⟨b,off,none⟩) m.vars.length cv) cs (.slice (some ⟨b2,o2,none⟩) scope.length csv) scope vals out w →
    Calls Tryz.prog 196 #[.int .i64 ((k:Int)+1),.int .u64 a,.pointer (some ⟨bs,0,none⟩),.pointer (some ⟨bm,0,none⟩),.pointer (some ⟨bc,0,none⟩),.pointer (some ⟨N+1,0,none⟩),.pointer (some ⟨N+2,0,none⟩),.pointer (some ⟨N+3,0,none⟩)] w fun e w'=>e=.returned (.tuple #[]) ∧
     ∃vals',PtsS N bs bm bc m con (.slice (some ⟨b,off,none⟩) m.vars.length cv) cs (.slice (some ⟨b2,o2,none⟩) scope.length csv) scope vals' (out++zAa m.vars c rest vals a) w'∧vals'.length=m.vars.length∧(∀x∈vals',-50≤x∧x≤50)∧zBq rest vals vals'∧Below N w w'):=by
    intro vals1 a1 out1 w1 q1 q2 q3 q4 q5
    exact ih (k+1) vals1 a1 out1 w1 hdr2 (by omega) q1 q2 q3 (by rw[hX];exact q4) q5
   have HONE:Hid (∀(jj:Nat) (w':World),jj<n→VArg w' (.slice (some ⟨b,off,none⟩) m.vars.length cv) m.vars→Calls Tryz.prog 197 #[.slice (some ⟨b,off,none⟩) m.vars.length cv,.int .i64 j,.int .i64 (lo+(jj:Int))] w' fun e w''=>e=.returned (.int .u64 ((2 ^ (6 * j+jj):Nat):Int))∧w''=w'):=by
    intro jj w' hjj hva'
    have h1:=zLL m.vars HVA.out.1 j (lo+(jj:Int)) _ w' hva' hjs (by rw[HLO.out];omega) (by rw[HHI.out];omega) (by rw[HLO.out,HHI.out];omega)
    rw[HLO.out,show (lo+(jj:Int) - lo).toNat=jj by omega] at h1
    exact h1
   have HPOW:Hid (∀jj,jj<n→2 ^ (6 * j+jj)<2 ^ 36):=fun jj hjj=>zGs m.vars HVA.out j jj hjs (by omega)
   have g0:((k:Int)==(scope.length:Int))=false:=by simp;omega
   have hlt8:k<8:=by omega
   clear hT hvb hdr hvl hbud hrv hscell ih hX hdr2 hkv hv0 hv1 hlo hhi hn ha
   go_enter Tryz.func196,Tryz.ntmps196
   go_wp2_with fail
   clear d0 d1 e0 f1 f2
   go_loopw [11] (fun i wr=>∃(jj:Nat) (vals':List Int),jj≤n∧i=.int .i64 (lo+(jj:Int))∧PtsS N bs bm bc m con (.slice (some ⟨b,off,none⟩) m.vars.length cv) cs (.slice (some ⟨b2,o2,none⟩) scope.length csv) scope vals' (out++ptsN m.vars c j rest vals a lo jj) wr∧Hid (vals'.length=m.vars.length∧(∀x∈vals',-50≤x∧x≤50)∧zBq ((j:Int) :: rest) vals vals')∧Below N w wr) (fun i _=>(hi+1 - intOf i).toNat)
   case atStart=>exact⟨0,vals,by omega,by simp,by simpa[ptsN] using HT.out,⟨HVL.out,HVB.out,zBq.refl _ _⟩,Below.refl _ _⟩
   case round =>
    obtain⟨jj,vals',hjj,rfl,hTr,hH,hbw⟩:=hrel
    have HTR:Hid (PtsS N bs bm bc m con (.slice (some ⟨b,off,none⟩) m.vars.length cv) cs (.slice (some ⟨b2,o2,none⟩) scope.length csv) scope vals' (out++ptsN m.vars c j rest vals a lo jj) wr):=hTr
    have HBW:Hid (Below N w wr):=hbw
    clear hTr hbw
    obtain⟨hma,_,_,d1,_,_,_,lm,_⟩:=HTR.out.old
    obtain⟨lb,f1,f2⟩:=zLX hma.1 j hjs
    rw[HLO.out] at f1
    rw[HHI.out] at f2
    clear hma
    by_cases hlt:jj<n
    ·have hle:lo+(jj:Int)≤hi:=by omega
     have hjv:j<vals'.length:=by rw[hH.out.1];exact hjs
     have d4:=HTR.out.2.2.2.1
     have HOW:=HTR.out.2.2.1
     have hNl:N+4≤wr.heap.size:=HTR.out.1
     obtain⟨y,hy⟩:∃y,vals'[j]? = some y:=⟨vals'[j],by simp[hjv]⟩
     have cN:wr.cell? ⟨N,j,none⟩=some (.int .i64 y):=by rw[HOW.cellAt j (by omega),List.getElem?_map,hy];rfl
     have zN:=HOW.frozenAt j
     have HSET:=HTR.out.set j (lo+(jj:Int))
     have hxb:-50≤lo+(jj:Int)∧lo+(jj:Int)≤50:=by omega
     have HST:Hid (PtsS N bs bm bc m con (.slice (some ⟨b,off,none⟩) m.vars.length cv) cs (.slice (some ⟨b2,o2,none⟩) scope.length csv) scope (vals'.set j (lo+(jj:Int))) (out++ptsN m.vars c j rest vals a lo jj) (wr.setCell ⟨N,j,none⟩ (.int .i64 (lo+(jj:Int))))):=HSET.1
     have HSB:Hid (Below N w (wr.setCell ⟨N,j,none⟩ (.int .i64 (lo+(jj:Int))))):=HBW.out.trans HSET.2
     have HV1:Hid ((vals'.set j (lo+(jj:Int))).length=m.vars.length):=by show _=_;rw[List.length_set];exact hH.out.1
     have HV2:Hid (∀y∈vals'.set j (lo+(jj:Int)),-50≤y∧y≤50):=zKM _ _ _ hH.out.2.1 hxb
     have HBU:Hid ((out++ptsN m.vars c j rest vals a lo jj).length+X≤10000000):=by
      have h1:=HCNT.out jj
      have h2:jj * X≤5 * X:=Nat.mul_le_mul_right _ (by omega)
      show _≤_
      rw[List.length_append]
      omega
     have HNX:Hid (ptsN m.vars c j rest vals a lo (jj+1)=ptsN m.vars c j rest vals a lo jj++zAa m.vars c rest (vals'.set j (lo+(jj:Int))) (a ||| 2 ^ (6 * j+jj))):=by
      show _=_
      rw[zHk]
      congr 1
      have h:=(hH.out.2.2).set (lo+(jj:Int))
      exact zFT m.vars c rest _ _ _ h
     have HAG:Hid (zBq ((j:Int) :: rest) vals (vals'.set j (lo+(jj:Int)))):=(hH.out.2.2).trans (zBq.of_set rest vals' (j:Int) (lo+(jj:Int)))
     have hp36:=HPOW.out jj hlt
     obtain⟨t,ht⟩:∃t,2 ^ (6 * j+jj)=t:=⟨_,rfl⟩
     have HO1:=HONE.out jj
     rw[ht] at hp36 HNX HO1
     have HON:Hid (∀(w':World),VArg w' (.slice (some ⟨b,off,none⟩) m.vars.length cv) m.vars→Calls Tryz.prog 197 #[.slice (some ⟨b,off,none⟩) m.vars.length cv,.int .i64 j,.int .i64 (lo+(jj:Int))] w' fun e w''=>e=.returned (.int .u64 (t:Int))∧w''=w'):=fun w' h=>HO1 w' hlt h
     have hor:=bits_or_u64_nat a t (by have:=HA.out;omega) (by omega)
     obtain⟨a2,ha2⟩:∃a2,a ||| t=a2:=⟨_,rfl⟩
     have HA2:Hid (a2<2 ^ 36):=by rw[←ha2];exact zFK HA.out hp36
     rw[ha2] at hor HNX
     clear hy HOW HSET hH hxb ht HO1 hp36 ha2
     go_wp2_with fail
     obtain⟨W2,hW2⟩:∃W2,wr.setCell ⟨N,j,none⟩ (.int .i64 (lo+(jj:Int)))=W2:=⟨_,rfl⟩
     rw[hW2] at HST HSB ⊢
     clear hW2 d1 f1 f2 d4 cN zN lm lb hNl
     obtain⟨hma,_,_,d1,_,_,_,lm,_⟩:=HST.out.old
     have d5:=HST.out.2.2.2.2.1
     unfold zGy at d5
     have HMV:Hid (VArg W2.drew (.slice (some ⟨b,off,none⟩) m.vars.length cv) m.vars):=VArg.below (Below.refl _ _).drew hma.1
     have HSTD:Hid (PtsS N bs bm bc m con (.slice (some ⟨b,off,none⟩) m.vars.length cv) cs (.slice (some ⟨b2,o2,none⟩) scope.length csv) scope (vals'.set j (lo+(jj:Int))) (out++ptsN m.vars c j rest vals a lo jj) W2.drew):=HST.out.below (Below.refl _ _).drew
     clear hma
     have hwk:IntKind.i64.wrap ((k:Int)+1)=(k:Int)+1:=by simp[IntKind.wrap,IntKind.signed,IntKind.bits];omega
     go_region_held3 (fun w'=>w'.cell? ⟨N+3,0,none⟩=some (.func (.func 196) #[] #[.pointer (some ⟨bs,0,none⟩),.pointer (some ⟨bm,0,none⟩),.pointer (some ⟨bc,0,none⟩),.pointer (some ⟨N+1,0,none⟩),.pointer (some ⟨N+2,0,none⟩),.pointer (some ⟨N+3,0,none⟩)])∧w'.cell? ⟨bm,0,none⟩=some (.slice (some ⟨b,off,none⟩) m.vars.length cv))
      (first | exact⟨d5,d1⟩ | assumption | exact⟨hd5,hd1⟩)
      (first
        | (go_at_call 197;refine (HON.out _ HMV.out).mono ?_;rintro e w2 ⟨rfl,rfl⟩)
        | (go_at_call 196;refine (HIH.out _ _ _ _ HV1.out HV2.out HA2.out HBU.out HSTD.out).mono ?_;rintro e w2 ⟨rfl,v2,hT2,hl2,hb2',hag2,hbN2⟩;have hd5:=hT2.2.2.2.2.1;unfold zGy at hd5;have hd1:=hT2.old.2.2.2.1))
     ·have HT2:Hid (PtsS N bs bm bc m con (.slice (some ⟨b,off,none⟩) m.vars.length cv) cs (.slice (some ⟨b2,o2,none⟩) scope.length csv) scope v2 (out++ptsN m.vars c j rest vals a lo (jj+1)) w2):=by
       rw[HNX.out,←List.append_assoc];exact hT2
      have HH2:Hid (v2.length=m.vars.length∧(∀x∈v2,-50≤x∧x≤50)∧zBq ((j:Int) :: rest) vals v2):=⟨hl2,hb2',HAG.out.trans (zBq.cons _ hag2)⟩
      have HB2:Hid (Below N w w2):=HSB.out.trans ((Below.refl _ _).drew.trans hbN2)
      clear hT2 hl2 hb2' hag2 hbN2 hd5 hd1
      go_wp2
      go_roundw
      case rel=>exact⟨jj+1,v2,by omega,by go_num,HT2.out,HH2,HB2.out⟩
      case measure=>simp[intOf];omega
    ·have hle:¬(lo+(jj:Int)≤hi):=by omega
     have hje:jj=n:=by omega
     have HF:Hid (PtsS N bs bm bc m con (.slice (some ⟨b,off,none⟩) m.vars.length cv) cs (.slice (some ⟨b2,o2,none⟩) scope.length csv) scope vals' (out++zAa m.vars c ((j:Int) :: rest) vals a) wr):=by
      have h:=HTR.out
      rw[hje,HALL.out] at h
      exact h
     clear hje
     go_wp2
     go_end0
     exact⟨rfl,vals',HF.out,hH.out.1,hH.out.2.1,hH.out.2.2,HBW.out⟩
theorem zEE {w:World} {base:Nat} {v:Value} {l:List Nat} (h:w.ownsRow base 136 1 v l.length (u64s l)) (hl:∀z∈l,z<2 ^ 36):PArg w v l:=by
 rcases h.2 with ⟨rfl,hn⟩ | ⟨g,cap,cur,rfl,hg,hh,hc1,hc2,_,_⟩
 ·have:l=[]:=List.eq_nil_of_length_eq_zero hn
  subst this
  exact⟨none,0,rfl,⟨Nat.le_refl _,Nat.zero_le _⟩,fun i z hz=>by simp at hz⟩
 ·refine⟨_,cap,rfl,⟨hc1,hc2⟩,fun i z hz=>⟨hl z (List.mem_of_getElem? hz),g,0,rfl,(Array.getElem?_eq_some_iff.1 hh).1,?_⟩⟩
  have hi:i<l.length:=(List.getElem?_eq_some_iff.1 hz).1
  rw[Nat.zero_add,h.cellAt i (by omega)]
  unfold u64s
  rw[List.getElem?_map,hz];rfl
theorem zIo (m:Mod) (hm:zAP m=0) (j:Nat) (c:MCon) (hc:m.cons[j]? = some c):(zAO c).length≤8:=by
 obtain⟨hn4,hl4,_,_⟩:=zEy c (zDB _ _ (zHL m hm j c hc)).2.1
 have h1:=zFG (zDi (zBH c))
 rw[zDC] at h1
 show (zEt (zDi (zBH c))).length≤8
 have h2:(zBH c).length=c.vars.length+c.lits.length:=by simp[zBH]
 omega
theorem Tryz.infoIntF:(Tryz.prog.info? 3).map (fun i=>(i.zero,i.size,i.bytes))=some (some (.int .i64 0),1,8):=by kernel_rfl
theorem Tryz.underIntsF:Tryz.prog.underlying 42=some (.slice 3):=by kernel_rfl
theorem zLY (w:World) (n base:Nat) (hn:n≤6) (hb:base≤w.heap.size):(w.alloc (.cells (madeCells #[.int .i64 0] n) 3)).ownsRow base 3 1 (.slice (some ⟨w.heap.size,0,none⟩) n n) n ((zAN n).map (Value.int .i64)):=by
 refine⟨by simp[zAN],Or.inr ⟨w.heap.size,n,_,rfl,hb,heap_alloc_new w _,Nat.le_refl _,by unfold maxLen;omega,?_,?_⟩⟩
 ·have h:=congrArg List.length (toList_madeCells_one (.int .i64 0) n)
  simp at h
  simpa using h
 ·rw[toList_madeCells_one]
  simp[zAN]
def zCg (N bs bm bc n:Nat) (W:World):World:=(((W.alloc (.cells (madeCells #[.int .i64 0] n) 3)).alloc (.cells #[.slice (some ⟨N,0,none⟩) n n] 42)).alloc (.cells #[.slice none 0 0] 139)).alloc (.cells #[.func (.func 196) #[] (zGy N bs bm bc)] 252)
theorem zNd {W:World} {N bs bm bc con n:Nat} {m:Mod} {vs cs sv:Value} {scope:List Int} (hN:W.heap.size=N) (hn:n≤6)
 (hW:MArg W vs cs m∧IArg W sv scope∧W.cell? ⟨bs,0,none⟩=some sv∧W.cell? ⟨bm,0,none⟩=some vs∧W.cell? ⟨bm,1,none⟩=some cs∧W.cell? ⟨bc,0,none⟩=some (.int .i64 con)) :
 PtsS N bs bm bc m con vs cs sv scope (zAN n) [] (zCg N bs bm bc n W)∧Below N W (zCg N bs bm bc n W):=by
 subst hN
 have hzl:(zAN n).length=n:=by simp[zAN]
 have r1:=zLY W n W.heap.size hn (Nat.le_refl _)
 have r3:=World.ownsRow_lit (base:=W.heap.size) (e:=139) (size:=1) ((W.alloc (.cells (madeCells #[.int .i64 0] n) 3)).alloc (.cells #[.slice (some ⟨W.heap.size,0,none⟩) n n] 42)) #[.slice none 0 0] 1 (by simp;omega) (by unfold maxLen;omega) rfl
 have e3:((W.alloc (.cells (madeCells #[.int .i64 0] n) 3)).alloc (.cells #[.slice (some ⟨W.heap.size,0,none⟩) n n] 42)).heap.size=W.heap.size+2:=by simp
 rw[e3] at r3
 have hsz:(zCg W.heap.size bs bm bc n W).heap.size=W.heap.size+4:=by unfold zCg;simp
 have hb:Below W.heap.size W (zCg W.heap.size bs bm bc n W):=(((zAA _ _).alloc (by simp) _).alloc (by simp;omega) _).alloc (by simp;omega) _
 have q1:(zCg W.heap.size bs bm bc n W).ownsRow W.heap.size 3 1 (.slice (some ⟨W.heap.size,0,none⟩) n n) n ((zAN n).map (Value.int .i64)):=((r1.alloc _).alloc _).alloc _
 refine⟨⟨by omega,⟨W,Nat.le_refl _,hW,hb⟩,by rw[hzl];exact q1,?_,?_,.slice none 0 0,r3.alloc _,World.ownsRow_nil _ _ _ _⟩,hb⟩
 ·rw[hzl]
  unfold zCg
  rw[World.cell?_alloc_past _ _ _ (by simp),World.cell?_alloc_past _ _ _ (by simp)]
  exact World.cell?_alloc_at _ _ _ 0 (by simp)
 ·unfold zCg
  exact World.cell?_alloc_at _ _ _ 0 (by simp)
set_option maxHeartbeats 1600000 in
set_option maxRecDepth 100000 in
theorem zKN (m:Mod) (con:Nat) (c:MCon) (vs cs:Value) (w:World) (hm:zAP m=0) (hc:m.cons[con]? = some c) (hma:MArg w vs cs m) :
 Calls Tryz.prog 120 #[modV vs cs m,.int .i64 con] w fun e w'=>∃x,e=.returned x∧w'.ownsRow w.heap.size 136 1 x (zAR m.vars c).length (u64s (zAR m.vars c))∧Below w.heap.size w w':=by
 have HMA:Hid (∀w',Below w.heap.size w w'→MArg w' vs cs m):=fun w' h=>MArg.below h hma
 have HM:Hid (zAP m=0):=hm
 have HC:Hid (m.cons[con]? = some c):=hc
 have H6:m.vars.length≤6:=(zAo m hm).2.1
 have hcon:con<m.cons.length:=(List.getElem?_eq_some_iff.1 hc).1
 have HSC:Hid (zHY m (con:Int)=(zAO c,0)):=by
  show _=_
  have h1:zBs m (con:Int)=0:=by unfold zBs;rw[if_pos hm,if_neg (by omega)]
  unfold zHY
  rw[if_pos h1,Int.toNat_natCast,List.getD_eq_getElem?_getD,hc];rfl
 have hmk:=run_make_row' (P:=Tryz.prog) 42 3 (.int .i64 0) 8 Tryz.underIntsF Tryz.infoIntF rfl .i64 .i64 m.vars.length (by omega) (by omega)
 obtain⟨⟨a1,c1,rfl,hm1,_⟩,⟨a2,c2,rfl,_,_⟩⟩:=hma
 unfold maxLen at hm1
 obtain⟨hm11,hm1⟩:=hm1
 unfold modV
 clear hm hc
 go_enter Tryz.func120,Tryz.ntmps120
 go_wp2_with fail
 refine (zKG m (con:Int) _ _ _ (HMA.out _ ((zAA _ _).alloc (by simp) _))).mono ?_
 rw[HSC.out]
 rintro e w1 ⟨x,rfl,hx,hb1⟩
 have hbw:Below w.heap.size w w1:=((zAA _ _).alloc (by simp) _).trans (hb1.mono (by simp;omega))
 have hq0:w1.cell? ⟨w.heap.size,0,none⟩=some (.slice a1 m.vars.length c1):=(hb1.cell (by simp;omega)).trans ((World.cell?_alloc_past _ _ _ (by simp)).trans (World.cell?_alloc_at _ _ _ 0 (by simp)))
 have hq1:w1.cell? ⟨w.heap.size,1,none⟩=some (.slice a2 m.cons.length c2):=(hb1.cell (by simp;omega)).trans ((World.cell?_alloc_past _ _ _ (by simp)).trans (World.cell?_alloc_at _ _ _ 1 (by simp)))
 have hq2:w1.cell? ⟨w.heap.size+1,0,none⟩=some (.int .i64 con):=(hb1.cell (by simp)).trans (World.cell?_alloc_at _ _ _ 0 (by simp))
 have hl0:w.heap.size+1<w1.heap.size:=by have:=hb1.size;simp at this;omega
 have hl1:w.heap.size<w1.heap.size:=by omega
 have HX:Hid (IArg w1 x (zAO c)):=hx
 obtain⟨ax,cx,rfl,_,_⟩:=hx
 have HBW:Hid (Below w.heap.size w w1):=hbw
 have HSCI:Hid (∀v∈zAO c,0≤v∧v<(m.vars.length:Int)):=(zD5 m HM.out con c HC.out).1
 have HS8:Hid ((zAO c).length≤8):=zIo m HM.out con c HC.out
 have HPN:Hid (_):=zNd (W:=w1.alloc (.cells #[.slice ax (zAO c).length cx] 42)) (N:=w1.heap.size+1) (bs:=w1.heap.size) (bm:=w.heap.size) (bc:=w.heap.size+1) (con:=con) (n:=m.vars.length) (m:=m) (scope:=zAO c) (by simp) H6
  ⟨HMA.out _ (HBW.out.alloc HBW.out.size _),IArg.below (zAA _ _) HX.out,World.cell?_alloc_at _ _ _ 0 (by simp),(World.cell?_alloc_past _ _ _ hl1).trans hq0,(World.cell?_alloc_past _ _ _ hl1).trans hq1,(World.cell?_alloc_past _ _ _ hl0).trans hq2⟩
 clear hb1 hbw
 go_wp2_with fail
 have HB5:Hid (Below w.heap.size w (zCg (w1.heap.size+1) w1.heap.size w.heap.size (w.heap.size+1) m.vars.length (w1.alloc (.cells #[.slice ax (zAO c).length cx] 42)))):=(HBW.out.alloc HBW.out.size _).trans (HPN.out.2.mono (by have:=HBW.out.size;omega))
 have HZL:Hid ((zAN m.vars.length).length=m.vars.length):=by show _=_;simp[zAN]
 refine (zNc (w1.heap.size+1) w1.heap.size w.heap.size (w.heap.size+1) m con c _ _ _ (zAO c) HM.out HC.out HSCI.out HS8.out (zAO c) 0 (zAN m.vars.length) 0 [] (zCg (w1.heap.size+1) w1.heap.size w.heap.size (w.heap.size+1) m.vars.length (w1.alloc (.cells #[.slice ax (zAO c).length cx] 42))) rfl (Nat.zero_le _) HZL.out (fun x hx=>by have:=List.eq_of_mem_replicate hx;omega) (by omega) ?_ HPN.out.1).mono ?_
 ·have h2:6 ^ (zAO c).length≤6 ^ 8:=Nat.pow_le_pow_right (by omega) HS8.out
  simp only[List.length_nil]
  omega
 rintro e w2 ⟨rfl,vals',hT2,_,_,_,hb2⟩
 have HB6:Hid (Below w.heap.size w w2):=HB5.out.trans (hb2.mono (by have:=HBW.out.size;omega))
 obtain⟨hsz,_,_,_,_,ov,ho,hr⟩:=hT2
 have HPA:Hid (w2.ownsRow w.heap.size 136 1 ov (zAR m.vars c).length (u64s (zAR m.vars c))):=World.ownsRow.mono hr (by have:=HBW.out.size;omega)
 obtain⟨ao,co,rfl⟩:=zAE hr
 have hco:w2.cell? ⟨w1.heap.size+1+1+1,0,none⟩=some (.slice ao ([]++zAa m.vars c (zAO c) (zAN m.vars.length) 0).length co):=ho.cellAt 0 (by omega)
 have hlo:w1.heap.size+1+1+1<w2.heap.size:=by omega
 clear hr ho hb2 HPN
 go_wp2
 go_ret
 exact⟨_,rfl,HPA.out,HB6.out⟩
theorem zKO (m:Mod) (hm:zAP m=0) (j:Nat) (c:MCon) (hc:m.cons[j]? = some c):∀z∈zAR m.vars c,z<2 ^ 36:=zHl m.vars (zCx m hm) c _ _ _ (zD5 m hm j c hc).1 (by omega)
structure Fr (X:Nat→Prop) (w w':World):Prop where
 os:w'.os=w.os
 tape:w'.tape=w.tape
 output:w'.output=w.output
 size:w.heap.size≤w'.heap.size
 block:∀k,k<w.heap.size→¬X k→w'.heap[k]? = w.heap[k]?
theorem Fr.refl (X:Nat→Prop) (w:World):Fr X w w:=⟨rfl,rfl,rfl,Nat.le_refl _,fun _ _ _=>rfl⟩
theorem Fr.trans {X:Nat→Prop} {a b c:World} (h:Fr X a b) (k:Fr X b c):Fr X a c :=
 ⟨k.os.trans h.os,k.tape.trans h.tape,k.output.trans h.output,Nat.le_trans h.size k.size,fun i hi hx=>(k.block i (Nat.lt_of_lt_of_le hi h.size) hx).trans (h.block i hi hx)⟩
theorem Fr.below {X:Nat→Prop} {w w':World} (h:Below w.heap.size w w'):Fr X w w':=⟨h.os,h.tape,h.output,h.size,fun k hk _=>h.block k hk⟩
theorem Fr.cell {X:Nat→Prop} {w w':World} (h:Fr X w w') {p:Addr} (hp:p.block<w.heap.size) (hx:¬X p.block):w'.cell? p=w.cell? p:=World.cell?_of_block (w:=w) (h.block p.block hp hx)
theorem Fr.setX {X:Nat→Prop} {a w:World} (h:Fr X a w) {p:Addr} (hp:X p.block) (u:Value):Fr X a (w.setCell p u) :=
 ⟨h.os,h.tape,h.output,by simpa using h.size,fun k hk hx=>(Below.heap_setCell _ _ _ _ (fun e=>hx (by rw[e];exact hp))).trans (h.block k hk hx)⟩
theorem Fr.alloc {X:Nat→Prop} {a w:World} (h:Fr X a w) (o:Obj):Fr X a (w.alloc o):=h.trans (Fr.below (zAA _ _))
theorem blk9 {w:World} {b:Nat} {cs:Array Value} {t:TypeId} (h:w.heap[b]? = some (.cells cs t)) (i:Nat) (v:Value) (hv:cs[i]? = some v):w.cell? ⟨b,i,none⟩=some v:=by
 rw[Lib.cell_of_heap h];exact hv
theorem frz9 {w:World} {b:Nat} {cs:Array Value} {t:TypeId} (h:w.heap[b]? = some (.cells cs t)) (i:Nat):w.frozen? ⟨b,i,none⟩=false:=by
 unfold World.frozen?
 simp only[h]
 simp
theorem zGz {w:World} {B:Nat} {e t:TypeId} {size n:Nat} {v:Value} {xs:List Value} (h:w.ownsRow B e size v n xs) {C:Nat} {cs:Array Value} (hC:w.heap[C]? = some (.cells cs t)) (ht:t≠e) (i:Nat) (u:Value):(w.setCell ⟨C,i,none⟩ u).ownsRow B e size v n xs:=by
 refine⟨h.1,?_⟩
 rcases h.2 with hn | ⟨g,cap,cur,hv,hg,hh,r⟩
 ·exact .inl hn
 ·have hne:g≠C:=by
   intro e1
   rw[e1,hC] at hh
   injection hh with h1
   injection h1 with _ h2
   exact ht h2
  exact .inr ⟨g,cap,cur,hv,hg,(Below.heap_setCell _ _ _ _ hne).trans hh,r⟩
theorem Fr.grown {X:Nat→Prop} {a w w':World} {row:Option Nat} (h:Fr X a w) (hg:w.grownBy w' row) (hr:∀k,row=some k→X k∨a.heap.size≤k):Fr X a w' :=
 ⟨hg.os.trans h.os,hg.tape.trans h.tape,hg.output.trans h.output,Nat.le_trans h.size hg.size,fun k hk hx=>(hg.block k (Nat.lt_of_lt_of_le hk h.size) (fun e=>(hr k e.symm).elim hx (fun h2=>by omega))).trans (h.block k hk hx)⟩
theorem zHm {w:World} {B B':Nat} {e e':TypeId} {s s' n n':Nat} {v v':Value} {xs xs':List Value} (h:w.ownsRow B e s v n xs) (h':w.ownsRow B' e' s' v' n' xs') (hne:e≠e'):v.ownBlock=none∨v.ownBlock≠v'.ownBlock:=by
 rcases h.2 with ⟨rfl,_⟩ | ⟨g,cap,cur,rfl,hg,hh,_⟩
 ·exact Or.inl rfl
 ·right
  intro he
  rcases h'.2 with ⟨rfl,_⟩ | ⟨g',cap',cur',rfl,hg',hh',_⟩
  ·cases he
  ·have:g=g':=by injection he
   subst this
   rw[hh] at hh'
   injection hh' with h1
   injection h1 with _ h2
   exact hne h2
theorem zBe {w w':World} {B B':Nat} {e e':TypeId} {s s' n n':Nat} {v v':Value} {xs xs':List Value} (h:w.ownsRow B e s v n xs) (hg:w.grownBy w' v'.ownBlock) (h':w.ownsRow B' e' s' v' n' xs') (hne:e≠e'):w'.ownsRow B e s v n xs :=
 h.kept hg (zHm h h' hne)
theorem zB0 {w w':World} {B:Nat} {e:TypeId} {s n:Nat} {v:Value} {xs:List Value} {r:Nat} {cs:Array Value} {t:TypeId} (h:w.heap[r]? = some (.cells cs t)) (hg:w.grownBy w' v.ownBlock) (h':w.ownsRow B e s v n xs) (hne:t≠e):w'.heap[r]? = some (.cells cs t):=by
 have hlt:r<w.heap.size:=(Array.getElem?_eq_some_iff.1 h).1
 refine (hg.block r hlt ?_).trans h
 ·intro he
  rcases h'.2 with ⟨rfl,_⟩ | ⟨g,cap,cur,rfl,_,hh,_⟩
  ·cases he
  ·have:g=r:=by injection he with e1;exact e1.symm
   subst this
   rw[hh] at h
   injection h with h1
   injection h1 with _ h2
   exact hne h2.symm
end Go.Proofs.YtndcpnlaadikoaaGreatDoor
