/- What the proof leans on, part 25. -/
import Derived.Test.YtndcpnlaadikoaaGreatDoorPartAx
import Derived.Deep.OwnRows
import Derived.Deep.Onto
import Derived.Laws.EntriesVeiled
import Derived.Test.YtndcpnlaadikoaaGreatDoorPartAb
import Derived.Deep.RegionLaw
import Derived.Deep.CutBlock
import Derived.Test.YtndcpnlaadikoaaGreatDoorPartAq
import Derived.Shelf.RegionOpenPlain
set_option maxRecDepth 100000
set_option maxHeartbeats 3200000
namespace Go.Proofs.YtndcpnlaadikoaaGreatDoor
open Go.RowKit
theorem zPe {w:World} {b off c n:Nat} {l:List MVar} (h:VArg w (.slice (some ⟨b,off,none⟩) n c) l) (j:Nat) (hj:j<l.length) :
 b<w.heap.size∧w.cell? ⟨b,off+j * 3+1,none⟩=some (.int .i64 (zAJ l j).lo)∧w.cell? ⟨b,off+j * 3+2,none⟩=some (.int .i64 (zAJ l j).hi):=by
 obtain⟨a,c',hv,_,hr⟩:=h;obtain⟨_,b',off',ha,hb,_,c1,c2⟩:=hr j _ (zIm hj)
 injection hv with e1 _ _
 rw[ha] at e1;cases e1
 exact⟨hb,c1,c2⟩
theorem zSY (N bs bm bc:Nat) (m:Mod) (con:Nat) (c:MCon) (vs cs sv:Value) (scope:List Int) (hm:zAG m=0) (hc:m.cons[con]? = some c) (hsc:∀v∈scope,0≤v∧v<(m.vars.length:Int)) (hs8:scope.length≤8) :
 ∀(rest:List Int) (k:Nat) (vals:List Int) (a:Nat) (out:List Nat) (w:World),scope.drop k=rest→k≤scope.length→vals.length=m.vars.length→(∀x∈vals,-50≤x∧x≤50)→a<2 ^ 36→out.length+6 ^ rest.length≤10000000 →
  PtsS N bs bm bc m con vs cs sv scope vals out w →
  Calls Tryz.prog 196 #[.int .i64 k,.int .u64 a,.pointer (some ⟨bs,0,none⟩),.pointer (some ⟨bm,0,none⟩),.pointer (some ⟨bc,0,none⟩),.pointer (some ⟨N+1,0,none⟩),.pointer (some ⟨N+2,0,none⟩),.pointer (some ⟨N+3,0,none⟩)] w fun e w'=>e=.returned (.tuple #[]) ∧
   ∃vals',PtsS N bs bm bc m con vs cs sv scope vals' (out++zAm m.vars c rest vals a) w'∧vals'.length=m.vars.length∧(∀x∈vals',-50≤x∧x≤50)∧zCc rest vals vals'∧Below N w w':=by
 have HSC:Hid (∀v∈scope,0≤v∧v<(m.vars.length:Int)):=hsc;have HVA:Hid (zAQ m.vars):=zBg m hm;have HCE:Hid (conE m.vars.length c=0):=zGa m hm con c hc;have HC:Hid (m.cons[con]? = some c):=hc;clear hsc hm hc;intro rest
 induction rest with
 | nil =>
   intro k vals a out w hdr hk hvl hvb ha hbud hT;have hks:k=scope.length:=by
    have:=congrArg List.length hdr;simp at this;omega
   subst hks;refine (zSX N bs bm bc m con c vs cs sv scope vals a out w HC.out (by rw[hvl];exact HCE.out) hvb (by simp at hbud;omega) hT).mono ?_
   rintro e w' ⟨rfl,h1,h2⟩;exact⟨rfl,vals,h1,hvl,hvb,zCc.refl _ _,h2⟩
 | cons v rest ih =>
   intro k vals a out w hdr hk hvl hvb ha hbud hT;have hkl:k<scope.length:=by
    have:=congrArg List.length hdr;simp at this;omega
   have hkv:scope[k]? = some v:=by
    have h:=congrArg (fun q:List Int=>q[0]?) hdr
    simpa using h
   have hdr2:scope.drop (k+1)=rest:=by
    have h:=congrArg List.tail hdr;simpa using h
   obtain⟨hv0,hv1⟩:=HSC.out v (List.mem_of_getElem? hkv);obtain⟨j,rfl⟩:∃j:Nat,v=(j:Int):=⟨v.toNat,by omega⟩
   have hjs:j<m.vars.length:=by omega
   obtain⟨hma,hia,d0,d1,_,_,_,_,_⟩:=hT.old;obtain⟨⟨av,cv,hvs,hmv,hrv⟩,_⟩:=hma;obtain⟨_,b,off,hav,hbv,_,f1,f2⟩:=hrv j _ (zIm hjs);subst hav;subst hvs;obtain⟨asv,csv,hsv,hms,hscell⟩:=hia;obtain⟨b2,o2,has,hb2,e0⟩:=hscell k _ hkv;subst has;subst hsv;unfold maxLen at hms hmv;obtain⟨hms1,hms⟩:=hms;obtain⟨hmv1,hmv⟩:=hmv;obtain⟨lo,hlo⟩:∃lo,(zAJ m.vars j).lo=lo:=⟨_,rfl⟩;obtain⟨hi,hhi⟩:∃hi,(zAJ m.vars j).hi=hi:=⟨_,rfl⟩;obtain⟨n,hn⟩:∃n,zBj (zAJ m.vars j)=n:=⟨_,rfl⟩;have HLO:Hid ((zAJ m.vars j).lo=lo):=hlo;have HHI:Hid ((zAJ m.vars j).hi=hi):=hhi;have hbn:=HVA.out.2 j hjs;have hn6:n≤6:=by rw[←hn];exact HVA.out.1.2 j
   have hnn:(n:Int)=hi+1 - lo:=by rw[←hn,←hlo,←hhi];unfold zBj;omega
   rw[hlo] at f1 hbn;rw[hhi] at f2 hbn;have H6:Hid (m.vars.length≤6):=HVA.out.1.1;have HT:Hid (PtsS N bs bm bc m con (.slice (some ⟨b,off,none⟩) m.vars.length cv) cs (.slice (some ⟨b2,o2,none⟩) scope.length csv) scope vals out w):=hT;have HVB:Hid (∀x∈vals,-50≤x∧x≤50):=hvb;have HVL:Hid (vals.length=m.vars.length):=hvl;have HA:Hid (a<2 ^ 36):=ha;have HALL:Hid (ptsN m.vars c j rest vals a lo n=zAm m.vars c ((j:Int) :: rest) vals a):=by show _=_;rw[←hlo,←hn];exact zQ3 m.vars c j rest vals a
   obtain⟨X,hX⟩:∃X,6 ^ rest.length=X:=⟨_,rfl⟩;have hbud2:out.length+6 * X≤10000000:=by
    rw[List.length_cons,Nat.pow_succ] at hbud;omega
   have HCNT:Hid (∀jj,(ptsN m.vars c j rest vals a lo jj).length≤jj * X):=fun jj=>by rw[←hX];exact zIr m.vars HVA.out.1 c j rest vals a lo jj
   have HIH:Hid (∀(vals:List Int) (a:Nat) (out:List Nat) (w:World),vals.length=m.vars.length→(∀x∈vals,-50≤x∧x≤50)→a<2 ^ 36→out.length+X≤10000000 →
    PtsS N bs bm bc m con (.slice (some ⟨b,off,none⟩) m.vars.length cv) cs (.slice (some ⟨b2,o2,none⟩) scope.length csv) scope vals out w →
    Calls Tryz.prog 196 #[.int .i64 ((k:Int)+1),.int .u64 a,.pointer (some ⟨bs,0,none⟩),.pointer (some ⟨bm,0,none⟩),.pointer (some ⟨bc,0,none⟩),.pointer (some ⟨N+1,0,none⟩),.pointer (some ⟨N+2,0,none⟩),.pointer (some ⟨N+3,0,none⟩)] w fun e w'=>e=.returned (.tuple #[]) ∧
     ∃vals',PtsS N bs bm bc m con (.slice (some ⟨b,off,none⟩) m.vars.length cv) cs (.slice (some ⟨b2,o2,none⟩) scope.length csv) scope vals' (out++zAm m.vars c rest vals a) w'∧vals'.length=m.vars.length∧(∀x∈vals',-50≤x∧x≤50)∧zCc rest vals vals'∧Below N w w'):=by
    intro vals1 a1 out1 w1 q1 q2 q3 q4 q5;exact ih (k+1) vals1 a1 out1 w1 hdr2 (by omega) q1 q2 q3 (by rw[hX];exact q4) q5
   have HONE:Hid (∀(jj:Nat) (w':World),jj<n→VArg w' (.slice (some ⟨b,off,none⟩) m.vars.length cv) m.vars→Calls Tryz.prog 197 #[.slice (some ⟨b,off,none⟩) m.vars.length cv,.int .i64 j,.int .i64 (lo+(jj:Int))] w' fun e w''=>e=.returned (.int .u64 ((2 ^ (6 * j+jj):Nat):Int))∧w''=w'):=by
    intro jj w' hjj hva';have h1:=zPK m.vars HVA.out.1 j (lo+(jj:Int)) _ w' hva' hjs (by rw[HLO.out];omega) (by rw[HHI.out];omega) (by rw[HLO.out,HHI.out];omega)
    rw[HLO.out,show (lo+(jj:Int) - lo).toNat=jj by omega] at h1
    exact h1
   have HPOW:Hid (∀jj,jj<n→2 ^ (6 * j+jj)<2 ^ 36):=fun jj hjj=>zJf m.vars HVA.out j jj hjs (by omega)
   have g0:((k:Int)==(scope.length:Int))=false:=by simp;omega
   have hlt8:k<8:=by omega
   clear hT hvb hdr hvl hbud hrv hscell ih hX hdr2 hkv hv0 hv1 hlo hhi hn ha;go_enter Tryz.func196,Tryz.ntmps196
   go_wp2_with fail
   clear d0 d1 e0 f1 f2;go_loopw [11] (fun i wr=>∃(jj:Nat) (vals':List Int),jj≤n∧i=.int .i64 (lo+(jj:Int))∧PtsS N bs bm bc m con (.slice (some ⟨b,off,none⟩) m.vars.length cv) cs (.slice (some ⟨b2,o2,none⟩) scope.length csv) scope vals' (out++ptsN m.vars c j rest vals a lo jj) wr∧Hid (vals'.length=m.vars.length∧(∀x∈vals',-50≤x∧x≤50)∧zCc ((j:Int) :: rest) vals vals')∧Below N w wr) (fun i _=>(hi+1 - intOf i).toNat)
   case atStart=>exact⟨0,vals,by omega,by simp,by simpa[ptsN] using HT.out,⟨HVL.out,HVB.out,zCc.refl _ _⟩,Below.refl _ _⟩
   case round =>
    obtain⟨jj,vals',hjj,rfl,hTr,hH,hbw⟩:=hrel;have HTR:Hid (PtsS N bs bm bc m con (.slice (some ⟨b,off,none⟩) m.vars.length cv) cs (.slice (some ⟨b2,o2,none⟩) scope.length csv) scope vals' (out++ptsN m.vars c j rest vals a lo jj) wr):=hTr;have HBW:Hid (Below N w wr):=hbw;clear hTr hbw;obtain⟨hma,_,_,d1,_,_,_,lm,_⟩:=HTR.out.old;obtain⟨lb,f1,f2⟩:=zPe hma.1 j hjs;rw[HLO.out] at f1;rw[HHI.out] at f2;clear hma;by_cases hlt:jj<n
    ·have hle:lo+(jj:Int)≤hi:=by omega
     have hjv:j<vals'.length:=by rw[hH.out.1];exact hjs
     have d4:=HTR.out.2.2.2.1;have HOW:=HTR.out.2.2.1;have hNl:N+4≤wr.heap.size:=HTR.out.1;obtain⟨y,hy⟩:∃y,vals'[j]? = some y:=⟨vals'[j],by simp[hjv]⟩
     have cN:wr.cell? ⟨N,j,none⟩=some (.int .i64 y):=by rw[HOW.cellAt j (by omega),List.getElem?_map,hy];rfl
     have zN:=HOW.frozenAt j;have HSET:=HTR.out.set j (lo+(jj:Int));have hxb:-50≤lo+(jj:Int)∧lo+(jj:Int)≤50:=by omega
     have HST:Hid (PtsS N bs bm bc m con (.slice (some ⟨b,off,none⟩) m.vars.length cv) cs (.slice (some ⟨b2,o2,none⟩) scope.length csv) scope (vals'.set j (lo+(jj:Int))) (out++ptsN m.vars c j rest vals a lo jj) (wr.setCell ⟨N,j,none⟩ (.int .i64 (lo+(jj:Int))))):=HSET.1;have HSB:Hid (Below N w (wr.setCell ⟨N,j,none⟩ (.int .i64 (lo+(jj:Int))))):=HBW.out.trans HSET.2;have HV1:Hid ((vals'.set j (lo+(jj:Int))).length=m.vars.length):=by show _=_;rw[List.length_set];exact hH.out.1
     have HV2:Hid (∀y∈vals'.set j (lo+(jj:Int)),-50≤y∧y≤50):=zNt _ _ _ hH.out.2.1 hxb;have HBU:Hid ((out++ptsN m.vars c j rest vals a lo jj).length+X≤10000000):=by
      have h1:=HCNT.out jj;have h2:jj * X≤5 * X:=Nat.mul_le_mul_right _ (by omega)
      show _≤_;rw[List.length_append];omega
     have HNX:Hid (ptsN m.vars c j rest vals a lo (jj+1)=ptsN m.vars c j rest vals a lo jj++zAm m.vars c rest (vals'.set j (lo+(jj:Int))) (a ||| 2 ^ (6 * j+jj))):=by
      show _=_;rw[zKU]
      congr 1
      have h:=(hH.out.2.2).set (lo+(jj:Int));exact zHf m.vars c rest _ _ _ h
     have HAG:Hid (zCc ((j:Int) :: rest) vals (vals'.set j (lo+(jj:Int)))):=(hH.out.2.2).trans (zCc.of_set rest vals' (j:Int) (lo+(jj:Int)));have hp36:=HPOW.out jj hlt;obtain⟨t,ht⟩:∃t,2 ^ (6 * j+jj)=t:=⟨_,rfl⟩;have HO1:=HONE.out jj;rw[ht] at hp36 HNX HO1;have HON:Hid (∀(w':World),VArg w' (.slice (some ⟨b,off,none⟩) m.vars.length cv) m.vars→Calls Tryz.prog 197 #[.slice (some ⟨b,off,none⟩) m.vars.length cv,.int .i64 j,.int .i64 (lo+(jj:Int))] w' fun e w''=>e=.returned (.int .u64 (t:Int))∧w''=w'):=fun w' h=>HO1 w' hlt h
     have hor:=bits_or_u64_nat a t (by have:=HA.out;omega) (by omega)
     obtain⟨a2,ha2⟩:∃a2,a ||| t=a2:=⟨_,rfl⟩
     have HA2:Hid (a2<2 ^ 36):=by rw[←ha2];exact zHb HA.out hp36
     rw[ha2] at hor HNX;clear hy HOW HSET hH hxb ht HO1 hp36 ha2;go_wp2_with fail
     obtain⟨W2,hW2⟩:∃W2,wr.setCell ⟨N,j,none⟩ (.int .i64 (lo+(jj:Int)))=W2:=⟨_,rfl⟩;rw[hW2] at HST HSB ⊢;clear hW2 d1 f1 f2 d4 cN zN lm lb hNl;obtain⟨hma,_,_,d1,_,_,_,lm,_⟩:=HST.out.old;have d5:=HST.out.2.2.2.2.1;unfold zJh at d5;have HMV:Hid (VArg W2.drew (.slice (some ⟨b,off,none⟩) m.vars.length cv) m.vars):=VArg.below (Below.refl _ _).drew hma.1;have HSTD:Hid (PtsS N bs bm bc m con (.slice (some ⟨b,off,none⟩) m.vars.length cv) cs (.slice (some ⟨b2,o2,none⟩) scope.length csv) scope (vals'.set j (lo+(jj:Int))) (out++ptsN m.vars c j rest vals a lo jj) W2.drew):=HST.out.below (Below.refl _ _).drew;clear hma;have hwk:IntKind.i64.wrap ((k:Int)+1)=(k:Int)+1:=by simp[IntKind.wrap,IntKind.signed,IntKind.bits];omega
     go_region_held3 (fun w'=>w'.cell? ⟨N+3,0,none⟩=some (.func (.func 196) #[] #[.pointer (some ⟨bs,0,none⟩),.pointer (some ⟨bm,0,none⟩),.pointer (some ⟨bc,0,none⟩),.pointer (some ⟨N+1,0,none⟩),.pointer (some ⟨N+2,0,none⟩),.pointer (some ⟨N+3,0,none⟩)])∧w'.cell? ⟨bm,0,none⟩=some (.slice (some ⟨b,off,none⟩) m.vars.length cv))
      (first | exact⟨d5,d1⟩ | assumption | exact⟨hd5,hd1⟩)
      (first
        | (go_at_call 197;refine (HON.out _ HMV.out).mono ?_;rintro e w2 ⟨rfl,rfl⟩)
        | (go_at_call 196;refine (HIH.out _ _ _ _ HV1.out HV2.out HA2.out HBU.out HSTD.out).mono ?_;rintro e w2 ⟨rfl,v2,hT2,hl2,hb2',hag2,hbN2⟩;have hd5:=hT2.2.2.2.2.1;unfold zJh at hd5;have hd1:=hT2.old.2.2.2.1))
     ·have HT2:Hid (PtsS N bs bm bc m con (.slice (some ⟨b,off,none⟩) m.vars.length cv) cs (.slice (some ⟨b2,o2,none⟩) scope.length csv) scope v2 (out++ptsN m.vars c j rest vals a lo (jj+1)) w2):=by
       rw[HNX.out,←List.append_assoc];exact hT2
      have HH2:Hid (v2.length=m.vars.length∧(∀x∈v2,-50≤x∧x≤50)∧zCc ((j:Int) :: rest) vals v2):=⟨hl2,hb2',HAG.out.trans (zCc.cons _ hag2)⟩;have HB2:Hid (Below N w w2):=HSB.out.trans ((Below.refl _ _).drew.trans hbN2);clear hT2 hl2 hb2' hag2 hbN2 hd5 hd1;go_wp2
      go_roundw
      case rel=>exact⟨jj+1,v2,by omega,by go_num,HT2.out,HH2,HB2.out⟩
      case measure=>simp[intOf];omega
    ·have hle:¬(lo+(jj:Int)≤hi):=by omega
     have hje:jj=n:=by omega
     have HF:Hid (PtsS N bs bm bc m con (.slice (some ⟨b,off,none⟩) m.vars.length cv) cs (.slice (some ⟨b2,o2,none⟩) scope.length csv) scope vals' (out++zAm m.vars c ((j:Int) :: rest) vals a) wr):=by
      have h:=HTR.out;rw[hje,HALL.out] at h;exact h
     clear hje;go_wp2
     go_end0
     exact⟨rfl,vals',HF.out,hH.out.1,hH.out.2.1,hH.out.2.2,HBW.out⟩
theorem zCu {w:World} {base:Nat} {v:Value} {l:List Nat} (h:w.ownsRow base 136 1 v l.length (u64s l)) (hl:∀z∈l,z<2 ^ 36):PArg w v l:=by
 rcases h.2 with ⟨rfl,hn⟩ | ⟨g,cap,cur,rfl,hg,hh,hc1,hc2,_,_⟩
 ·have:l=[]:=List.eq_nil_of_length_eq_zero hn
  subst this;exact⟨none,0,rfl,⟨Nat.le_refl _,Nat.zero_le _⟩,fun i z hz=>by simp at hz⟩
 ·refine⟨_,cap,rfl,⟨hc1,hc2⟩,fun i z hz=>⟨hl z (List.mem_of_getElem? hz),g,0,rfl,(Array.getElem?_eq_some_iff.1 hh).1,?_⟩⟩
  have hi:i<l.length:=(List.getElem?_eq_some_iff.1 hz).1;rw[Nat.zero_add,h.cellAt i (by omega)]
  unfold u64s;rw[List.getElem?_map,hz];rfl
theorem zLt (m:Mod) (hm:zAG m=0) (j:Nat) (c:MCon) (hc:m.cons[j]? = some c):(zAk c).length≤8:=by
 obtain⟨hn4,hl4,_,_⟩:=zG4 c (zEX _ _ (zGa m hm j c hc)).2.1;have h1:=zHV (zD4 (zBm c));rw[zEY] at h1;show (zGE (zD4 (zBm c))).length≤8;have h2:(zBm c).length=c.vars.length+c.lits.length:=by simp[zBm]
 omega
theorem Tryz.infoIntF:(Tryz.prog.info? 3).map (fun i=>(i.zero,i.size,i.bytes))=some (some (.int .i64 0),1,8):=by kernel_rfl
theorem Tryz.underIntsF:Tryz.prog.underlying 42=some (.slice 3):=by kernel_rfl
theorem zKj (w:World) (n base:Nat) (hn:n≤6) (hb:base≤w.heap.size):(w.alloc (.cells (madeCells #[.int .i64 0] n) 3)).ownsRow base 3 1 (.slice (some ⟨w.heap.size,0,none⟩) n n) n ((zBS n).map (Value.int .i64)):=by
 refine⟨by simp[zBS],Or.inr ⟨w.heap.size,n,_,rfl,hb,heap_alloc_new w _,Nat.le_refl _,by unfold maxLen;omega,?_,?_⟩⟩
 ·have h:=congrArg List.length (toList_madeCells_one (.int .i64 0) n)
  simp at h;simpa using h
 ·rw[toList_madeCells_one]
  simp[zBS]
def zDh (N bs bm bc n:Nat) (W:World):World:=(((W.alloc (.cells (madeCells #[.int .i64 0] n) 3)).alloc (.cells #[.slice (some ⟨N,0,none⟩) n n] 42)).alloc (.cells #[.slice none 0 0] 139)).alloc (.cells #[.func (.func 196) #[] (zJh N bs bm bc)] 252)
theorem zSZ {W:World} {N bs bm bc con n:Nat} {m:Mod} {vs cs sv:Value} {scope:List Int} (hN:W.heap.size=N) (hn:n≤6)
 (hW:MArg W vs cs m∧IArg W sv scope∧W.cell? ⟨bs,0,none⟩=some sv∧W.cell? ⟨bm,0,none⟩=some vs∧W.cell? ⟨bm,1,none⟩=some cs∧W.cell? ⟨bc,0,none⟩=some (.int .i64 con)) :
 PtsS N bs bm bc m con vs cs sv scope (zBS n) [] (zDh N bs bm bc n W)∧Below N W (zDh N bs bm bc n W):=by
 subst hN;have hzl:(zBS n).length=n:=by simp[zBS]
 have r1:=zKj W n W.heap.size hn (Nat.le_refl _);have r3:=World.ownsRow_lit (base:=W.heap.size) (e:=139) (size:=1) ((W.alloc (.cells (madeCells #[.int .i64 0] n) 3)).alloc (.cells #[.slice (some ⟨W.heap.size,0,none⟩) n n] 42)) #[.slice none 0 0] 1 (by simp;omega) (by unfold maxLen;omega) rfl
 have e3:((W.alloc (.cells (madeCells #[.int .i64 0] n) 3)).alloc (.cells #[.slice (some ⟨W.heap.size,0,none⟩) n n] 42)).heap.size=W.heap.size+2:=by simp
 rw[e3] at r3;have hsz:(zDh W.heap.size bs bm bc n W).heap.size=W.heap.size+4:=by unfold zDh;simp
 have hb:Below W.heap.size W (zDh W.heap.size bs bm bc n W):=(((zAA _ _).alloc (by simp) _).alloc (by simp;omega) _).alloc (by simp;omega) _
 have q1:(zDh W.heap.size bs bm bc n W).ownsRow W.heap.size 3 1 (.slice (some ⟨W.heap.size,0,none⟩) n n) n ((zBS n).map (Value.int .i64)):=((r1.alloc _).alloc _).alloc _;refine⟨⟨by omega,⟨W,Nat.le_refl _,hW,hb⟩,by rw[hzl];exact q1,?_,?_,.slice none 0 0,r3.alloc _,World.ownsRow_nil _ _ _ _⟩,hb⟩
 ·rw[hzl]
  unfold zDh;rw[World.cell?_alloc_past _ _ _ (by simp),World.cell?_alloc_past _ _ _ (by simp)]
  exact World.cell?_alloc_at _ _ _ 0 (by simp)
 ·unfold zDh
  exact World.cell?_alloc_at _ _ _ 0 (by simp)
theorem zGK (m:Mod) (con:Nat) (c:MCon) (vs cs:Value) (w:World) (hm:zAG m=0) (hc:m.cons[con]? = some c) (hma:MArg w vs cs m) :
 Calls Tryz.prog 120 #[modV vs cs m,.int .i64 con] w fun e w'=>∃x,e=.returned x∧w'.ownsRow w.heap.size 136 1 x (zAK m.vars c).length (u64s (zAK m.vars c))∧Below w.heap.size w w':=by
 have HMA:Hid (∀w',Below w.heap.size w w'→MArg w' vs cs m):=fun w' h=>MArg.below h hma
 have HM:Hid (zAG m=0):=hm;have HC:Hid (m.cons[con]? = some c):=hc;have H6:m.vars.length≤6:=(zAe m hm).2.1;have hcon:con<m.cons.length:=(List.getElem?_eq_some_iff.1 hc).1;have HSC:Hid (zCr m (con:Int)=(zAk c,0)):=by
  show _=_;have h1:zAw m (con:Int)=0:=by unfold zAw;rw[if_pos hm,if_neg (by omega)]
  unfold zCr;rw[if_pos h1,Int.toNat_natCast,List.getD_eq_getElem?_getD,hc];rfl
 have hmk:=run_make_row' (P:=Tryz.prog) 42 3 (.int .i64 0) 8 Tryz.underIntsF Tryz.infoIntF rfl .i64 .i64 m.vars.length (by omega) (by omega)
 obtain⟨⟨a1,c1,rfl,hm1,_⟩,⟨a2,c2,rfl,_,_⟩⟩:=hma;unfold maxLen at hm1;obtain⟨hm11,hm1⟩:=hm1;unfold modV;clear hm hc;go_enter Tryz.func120,Tryz.ntmps120
 go_wp2_with fail
 refine (zEt m (con:Int) _ _ _ (HMA.out _ ((zAA _ _).alloc (by simp) _))).mono ?_
 rw[HSC.out];rintro e w1 ⟨x,rfl,hx,hb1⟩;have hbw:Below w.heap.size w w1:=((zAA _ _).alloc (by simp) _).trans (hb1.mono (by simp;omega))
 have hq0:w1.cell? ⟨w.heap.size,0,none⟩=some (.slice a1 m.vars.length c1):=(hb1.cell (by simp;omega)).trans ((World.cell?_alloc_past _ _ _ (by simp)).trans (World.cell?_alloc_at _ _ _ 0 (by simp)))
 have hq1:w1.cell? ⟨w.heap.size,1,none⟩=some (.slice a2 m.cons.length c2):=(hb1.cell (by simp;omega)).trans ((World.cell?_alloc_past _ _ _ (by simp)).trans (World.cell?_alloc_at _ _ _ 1 (by simp)))
 have hq2:w1.cell? ⟨w.heap.size+1,0,none⟩=some (.int .i64 con):=(hb1.cell (by simp)).trans (World.cell?_alloc_at _ _ _ 0 (by simp))
 have hl0:w.heap.size+1<w1.heap.size:=by have:=hb1.size;simp at this;omega
 have hl1:w.heap.size<w1.heap.size:=by omega
 have HX:Hid (IArg w1 x (zAk c)):=hx;obtain⟨ax,cx,rfl,_,_⟩:=hx;have HBW:Hid (Below w.heap.size w w1):=hbw;have HSCI:Hid (∀v∈zAk c,0≤v∧v<(m.vars.length:Int)):=(zC9 m HM.out con c HC.out).1;have HS8:Hid ((zAk c).length≤8):=zLt m HM.out con c HC.out;have HPN:Hid (_):=zSZ (W:=w1.alloc (.cells #[.slice ax (zAk c).length cx] 42)) (N:=w1.heap.size+1) (bs:=w1.heap.size) (bm:=w.heap.size) (bc:=w.heap.size+1) (con:=con) (n:=m.vars.length) (m:=m) (scope:=zAk c) (by simp) H6
  ⟨HMA.out _ (HBW.out.alloc HBW.out.size _),IArg.below (zAA _ _) HX.out,World.cell?_alloc_at _ _ _ 0 (by simp),(World.cell?_alloc_past _ _ _ hl1).trans hq0,(World.cell?_alloc_past _ _ _ hl1).trans hq1,(World.cell?_alloc_past _ _ _ hl0).trans hq2⟩
 clear hb1 hbw;go_wp2_with fail
 have HB5:Hid (Below w.heap.size w (zDh (w1.heap.size+1) w1.heap.size w.heap.size (w.heap.size+1) m.vars.length (w1.alloc (.cells #[.slice ax (zAk c).length cx] 42)))):=(HBW.out.alloc HBW.out.size _).trans (HPN.out.2.mono (by have:=HBW.out.size;omega))
 have HZL:Hid ((zBS m.vars.length).length=m.vars.length):=by show _=_;simp[zBS]
 refine (zSY (w1.heap.size+1) w1.heap.size w.heap.size (w.heap.size+1) m con c _ _ _ (zAk c) HM.out HC.out HSCI.out HS8.out (zAk c) 0 (zBS m.vars.length) 0 [] (zDh (w1.heap.size+1) w1.heap.size w.heap.size (w.heap.size+1) m.vars.length (w1.alloc (.cells #[.slice ax (zAk c).length cx] 42))) rfl (Nat.zero_le _) HZL.out (fun x hx=>by have:=List.eq_of_mem_replicate hx;omega) (by omega) ?_ HPN.out.1).mono ?_
 ·have h2:6 ^ (zAk c).length≤6 ^ 8:=Nat.pow_le_pow_right (by omega) HS8.out
  simp only[List.length_nil];omega
 rintro e w2 ⟨rfl,vals',hT2,_,_,_,hb2⟩;have HB6:Hid (Below w.heap.size w w2):=HB5.out.trans (hb2.mono (by have:=HBW.out.size;omega))
 obtain⟨hsz,_,_,_,_,ov,ho,hr⟩:=hT2;have HPA:Hid (w2.ownsRow w.heap.size 136 1 ov (zAK m.vars c).length (u64s (zAK m.vars c))):=World.ownsRow.mono hr (by have:=HBW.out.size;omega)
 obtain⟨ao,co,rfl⟩:=zAC hr;have hco:w2.cell? ⟨w1.heap.size+1+1+1,0,none⟩=some (.slice ao ([]++zAm m.vars c (zAk c) (zBS m.vars.length) 0).length co):=ho.cellAt 0 (by omega)
 have hlo:w1.heap.size+1+1+1<w2.heap.size:=by omega
 clear hr ho hb2 HPN;go_wp2
 go_ret
 exact⟨_,rfl,HPA.out,HB6.out⟩
theorem zGL (m:Mod) (hm:zAG m=0) (j:Nat) (c:MCon) (hc:m.cons[j]? = some c):∀z∈zAK m.vars c,z<2 ^ 36:=zKV m.vars (zBg m hm) c _ _ _ (zC9 m hm j c hc).1 (by omega)
theorem zN5 (m:Mod) (con:Nat) (c:MCon) (vs cs:Value) (w:World) (hm:zAG m=0) (hc:m.cons[con]? = some c) (hma:MArg w vs cs m) :
 Calls Tryz.prog 120 #[modV vs cs m,.int .i64 con] w fun e w'=>∃x,e=.returned x∧PArg w' x (zAK m.vars c)∧Below w.heap.size w w' :=
 (zGK m con c vs cs w hm hc hma).mono fun _ _ ⟨x,h1,h2,h3⟩=>⟨x,h1,zCu h2 (zGL m hm con c hc),h3⟩
theorem Tryz.infoPts:(Tryz.prog.info? 139).map (fun i=>(i.zero,i.size,i.bytes))=some (some (.slice none 0 0),1,24):=by kernel_rfl
theorem Tryz.underPts:Tryz.prog.underlying 138=some (.slice 139):=by kernel_rfl
theorem Tryz.underPart:Tryz.prog.underlying 139=some (.slice 136):=by kernel_rfl
def PRow (B:Nat) (w:World) (pv:Value) (L:List (List Nat)):Prop :=
 ∃cells,w.ownsRow B 139 1 pv L.length cells∧∀(i:Nat) (pts:List Nat),L[i]? = some pts→∃x,cells[i]? = some x∧w.ownsRow B 136 1 x pts.length (u64s pts)
theorem PRow.below {B:Nat} {w w':World} {pv:Value} {L:List (List Nat)} (h:PRow B w pv L) (hb:Below w.heap.size w w'):PRow B w' pv L:=by
 obtain⟨cells,h1,h2⟩:=h;refine⟨cells,zAB h1 hb,fun i pts hi=>?_⟩
 obtain⟨x,h3,h4⟩:=h2 i pts hi;exact⟨x,h3,zAB h4 hb⟩
theorem zEC {X:Nat→Prop} {w w':World} {B:Nat} {e:TypeId} {s n:Nat} {v:Value} {xs:List Value} (h:w.ownsRow B e s v n xs) (hf:Fr X w w') (hx:∀g,v.ownBlock=some g→¬X g):w'.ownsRow B e s v n xs:=by
 refine⟨h.1,?_⟩;rcases h.2 with hn | ⟨g,cap,cur,hv,hg,hh,r⟩
 ·exact .inl hn
 ·exact .inr ⟨g,cap,cur,hv,hg,(hf.block g (Array.getElem?_eq_some_iff.1 hh).1 (hx g (by rw[hv];rfl))).trans hh,r⟩
theorem PRow.fr {X:Nat→Prop} {B:Nat} {w w':World} {pv:Value} {L:List (List Nat)} (h:PRow B w pv L) (hf:Fr X w w') (hx:∀g,X g→g<B):PRow B w' pv L:=by
 obtain⟨cells,h1,h2⟩:=h;refine⟨cells,zEC h1 hf (fun g hg hX=>?_),fun i pts hi=>?_⟩
 ·have:=(h1.lt g hg).1
  have:=hx g hX;omega
 ·obtain⟨x,h3,h4⟩:=h2 i pts hi
  refine⟨x,h3,zEC h4 hf (fun g hg hX=>?_)⟩
  have:=(h4.lt g hg).1;have:=hx g hX;omega
theorem PRow.arg {B:Nat} {w:World} {pv:Value} {L:List (List Nat)} (h:PRow B w pv L) (hl:∀pts∈L,∀z∈pts,z<2 ^ 36):zFQ w pv L:=by
 obtain⟨cells,h1,h2⟩:=h;rcases h1.2 with ⟨rfl,hn⟩ | ⟨g,cap,cur,rfl,hg,hh,hc1,hc2,_,_⟩
 ·have:L=[]:=List.eq_nil_of_length_eq_zero hn
  subst this;exact⟨none,0,rfl,⟨Nat.le_refl _,Nat.zero_le _⟩,fun i z hz=>by simp at hz⟩
 ·refine⟨_,cap,rfl,⟨hc1,hc2⟩,fun i pts hi=>?_⟩
  obtain⟨x,h3,h4⟩:=h2 i pts hi;have hil:i<L.length:=(List.getElem?_eq_some_iff.1 hi).1;exact⟨g,0,x,rfl,(Array.getElem?_eq_some_iff.1 hh).1,by rw[Nat.zero_add,h1.cellAt i (by omega)];exact h3,zCu h4 (hl pts (List.mem_of_getElem? hi))⟩
theorem PRow.push {B:Nat} {w w':World} {pv v' x:Value} {L:List (List Nat)} {cells:List Value} {pts:List Nat} {n:Nat} (hc:w.ownsRow B 139 1 pv L.length cells) (h2:∀(i:Nat) (p:List Nat),L[i]? = some p→∃x,cells[i]? = some x∧w.ownsRow B 136 1 x p.length (u64s p))
 (hx:w.ownsRow B 136 1 x pts.length (u64s pts)) (hg:w.grownBy w' pv.ownBlock) (hn:n=L.length+1) (ho:w'.ownsRow B 139 1 v' n (cells++[x])):PRow B w' v' (L++[pts]):=by
 have hcl:cells.length=L.length:=by have:=hc.1;omega
 refine⟨cells++[x],by rw[List.length_append];rw[hn] at ho;exact ho,fun i p hi=>?_⟩
 by_cases hil:i<L.length
 ·rw[List.getElem?_append_left hil] at hi
  obtain⟨y,h3,h4⟩:=h2 i p hi;exact⟨y,by rw[List.getElem?_append_left (by omega)];exact h3,zBE h4 hg hc (by decide)⟩
 ·have hlen:=(List.getElem?_eq_some_iff.1 hi).1
  rw[List.length_append] at hlen;have:i=L.length:=by simp at hlen;omega
  subst this;rw[List.getElem?_append_right (Nat.le_refl _),Nat.sub_self] at hi;have:pts=p:=by simpa using hi
  subst this;exact⟨x,by rw[List.getElem?_append_right (by omega),hcl,Nat.sub_self];rfl,zBE hx hg hc (by decide)⟩
structure Rul (W:World) (r:Nat) (sv pv:Value) (vs:List MVar) (pt:List (List Nat)):Prop where
 lt:r<W.heap.size
 keep:∀w',Fr (fun k=>k=r) W w'→VArg w' sv vs∧zFQ w' pv pt∧TabT w'
structure RulD (W w:World) (r:Nat) (sv pv cv:Value) (cs:List Nat):Prop where
 blk:w.heap[r]? = some (.cells #[sv,pv,cv] 141)
 own:w.ownsRow W.heap.size 136 1 cv cs.length (u64s cs)
 lt36:∀z∈cs,z<2 ^ 36
 fr:Fr (fun k=>k=r) W w
theorem RulD.at {W w:World} {r:Nat} {sv pv cv:Value} {vs:List MVar} {pt:List (List Nat)} {cs:List Nat} (h:RulD W w r sv pv cv cs) (hr:Rul W r sv pv vs pt):RulesAt w r sv pv cv vs pt cs :=
 ⟨(Array.getElem?_eq_some_iff.1 h.blk).1,blk9 h.blk 0 _ rfl,blk9 h.blk 1 _ rfl,blk9 h.blk 2 _ rfl,(hr.keep w h.fr).1,(hr.keep w h.fr).2.1,zCu h.own h.lt36,(hr.keep w h.fr).2.2⟩
theorem RulD.below {W w w':World} {r:Nat} {sv pv cv:Value} {cs:List Nat} (h:RulD W w r sv pv cv cs) (hb:Below w.heap.size w w'):RulD W w' r sv pv cv cs :=
 ⟨(hb.block r (Array.getElem?_eq_some_iff.1 h.blk).1).trans h.blk,zAB h.own hb,h.lt36,h.fr.trans (Fr.below hb)⟩
theorem zI3 (w:World) (z:Nat):∀(j:Nat) (u:Value),([Value.int .u64 (z:Int)]:List Value)[j]? = some u→(w.alloc (.cells #[.int .u64 (z:Int)] 136)).cell? ((⟨w.heap.size,0,none⟩:Addr).add j)=some u:=by
 intro j u hj
 match j,hj with
 | 0,hj=>simp at hj;subst hj;simp[Addr.add]
theorem zRL (w:World) (x:Value):∀(j:Nat) (u:Value),([x]:List Value)[j]? = some u→(w.alloc (.cells #[x] 139)).cell? ((⟨w.heap.size,0,none⟩:Addr).add j)=some u:=by
 intro j u hj
 match j,hj with
 | 0,hj=>simp at hj;subst hj;simp[Addr.add]
theorem RulD.push {W w w1 w2:World} {r:Nat} {sv pv cv v':Value} {cs:List Nat} {z n:Nat} (h:RulD W w r sv pv cv cs) (hz:z<2 ^ 36) (hb:Below w.heap.size w w1) (hg:w1.grownBy w2 cv.ownBlock) (hn:n=cs.length+1) (ho:w2.ownsRow W.heap.size 136 1 v' n (u64s cs++[.int .u64 (z:Int)])) :
 RulD W (w2.setCell ⟨r,2,none⟩ v') r sv pv v' (cs++[z])∧Fr (fun k=>k=r∨cv.ownBlock=some k) w (w2.setCell ⟨r,2,none⟩ v'):=by
 have h1:=h.below hb;have hb2:w2.heap[r]? = some (.cells #[sv,pv,cv] 141):=zBF h1.blk hg h1.own (by decide)
 have ho2:w2.ownsRow W.heap.size 136 1 v' (cs++[z]).length (u64s (cs++[z])):=by
  rw[List.length_append,List.length_singleton,←hn];unfold u64s at *;rw[List.map_append];exact ho
 refine⟨⟨?_,zAX ho2 hb2 (by decide) 2 _,fun y hy=>?_,?_⟩,?_⟩
 ·rw[heap_setCell_same w2 r 2 _ _ v' hb2];rfl
 ·rcases List.mem_append.1 hy with h3 | h3
  ·exact h.lt36 y h3
  ·rw[List.mem_singleton.1 h3];exact hz
 ·exact (h1.fr.grown hg (fun k hk=>Or.inr ((h1.own.lt k hk).1))).setX (p:=⟨r,2,none⟩) rfl _
 ·exact Fr.setX (X:=fun k=>k=r∨cv.ownBlock=some k) ((Fr.below hb).grown hg (fun k hk=>Or.inl (Or.inr hk))) (p:=⟨r,2,none⟩) (Or.inl rfl) _
theorem zPf (vs:List MVar) (hva:zAQ vs) (pt:List (List Nat)) (cs:List Nat) (hcs:cs.length≤100000) (cl:Cla) (W:World) (r:Nat) (sv pv cv u:Value) (w:World) (hR:Rul W r sv pv vs pt) (hD:RulD W w r sv pv cv cs) (hu:LArg w u cl) :
 Calls Tryz.prog 83 #[.pointer (some ⟨r,0,none⟩),u] w fun e w'=>e=.returned (.tuple #[])∧∃cv',RulD W w' r sv pv cv' (cs++[zAH vs cl])∧Fr (fun k=>k=r∨cv.ownBlock=some k) w w':=by
 obtain⟨i0,hi0,hz0,hz1,hz2⟩:=info_parts Tryz.infoPart;have HD:Hid (RulD W w r sv pv cv cs):=hD;have hRA:=hD.at hR;have HU:Hid (∀Y,Below w.heap.size w Y→LArg Y u cl):=fun Y hY=>LArg.below hY hu
 have HV:Hid (∀Y,Below w.heap.size w Y→VArg Y sv vs):=fun Y hY=>VArg.below hY hRA.hv
 have HVO:Hid (zAQ vs):=hva;have hcv:Hid (∃a c,cv=.slice a cs.length c):=zAC hD.own;obtain⟨ac,cc,rfl⟩:=hcv.out;have g0:=hRA.c0;have g2:=hRA.c2;have gl:=hRA.lt;have gz:w.frozen? ⟨r,2,none⟩=false:=frz9 hD.blk 2;obtain⟨h,hh⟩:∃h,zAH vs cl=h:=⟨_,rfl⟩;have HH:Hid (zAH vs cl=h):=hh;have HH36:Hid (h<2 ^ 36):=by rw[←hh];exact zFi vs hva.1 _
 rw[hh];obtain⟨a,c,rfl,_,_⟩:=hRA.hv;obtain⟨a2,c2,rfl,_,_⟩:=hu;have HHE:Hid (∀Y,Below w.heap.size w Y→Calls Tryz.prog 85 #[.slice a (List.length vs) c,.slice a2 (List.length cl) c2] Y fun e w'=>e=.returned (.int .u64 (h:Int))∧Below Y.heap.size Y w'):=fun Y hY=>by
  rw[←HH.out];exact zCm vs HVO.out cl _ _ Y (HV.out _ hY) (HU.out _ hY)
 have HDR:Hid (W.heap.size≤w.heap.size):=hD.fr.size;clear hD hva hh hRA hR hcv;go_enter Tryz.func83,Tryz.ntmps83
 go_wp2_with fail
 go_region_law
  (first
    | (rw[if_pos (by rfl)];refine wp_append_own _ _ _ 139 rfl W.heap.size 136 i0 _ 1 8 Tryz.underPart hi0 hz0 hz1 hz2 rfl (by decide) _ _ _ rfl (hw3.alloc _) ⟨w3.heap.size,0,none⟩ 1 1 [.int .u64 (h:Int)] rfl rfl (zI3 w3 h) (by intro u hu;simp at hu;subst hu;rfl) ?_ ?_ ?_ ?_;(unfold maxLen;omega);omega;(have:=hB3.size;have:=HDR.out;simp;omega);intro v4 w4 hown4 hg4 _;have hP:=RulD.push HD.out HH36.out (hB3.alloc hB3.size (.cells #[.int .u64 (h:Int)] 136)) hg4 rfl hown4;obtain⟨a9,b9,hv9⟩:=zAC hown4;subst hv9;have d2:w4.cell? ⟨r,2,none⟩=some (.slice ac cs.length cc):=blk9 (zBF (HD.out.below (hB3.alloc hB3.size (.cells #[.int .u64 (h:Int)] 136))).blk hg4 (hw3.alloc _) (by decide)) 2 _ rfl;have z2:w4.frozen? ⟨r,2,none⟩=false:=frz9 (zBF (HD.out.below (hB3.alloc hB3.size (.cells #[.int .u64 (h:Int)] 136))).blk hg4 (hw3.alloc _) (by decide)) 2)
    | (rw[if_pos (by rfl)];go_simp;go_at_call 85;refine (HHE.out _ (Below.refl _ _).drew).mono ?_;rintro e w3 ⟨rfl,hb3⟩;have hB3:Below w.heap.size w w3:=(Below.refl _ _).drew.trans hb3;have c3:w3.cell? ⟨r,2,none⟩=some (.slice ac cs.length cc):=(hB3.cell (p:=⟨r,2,none⟩) gl).trans g2;have hw3:w3.ownsRow W.heap.size 136 1 (.slice ac cs.length cc) cs.length (u64s cs):=zAB HD.out.own hB3;have l3:r<w3.heap.size:=Nat.lt_of_lt_of_le gl hB3.size;dsimp only))
 all_goals
  go_wp2
  go_end0
  exact⟨rfl,_,hP.1,hP.2⟩
def zDN (xs:List Value):Nat→List Value→List Value
 | _,[]=>xs
 | o,v :: r=>zDN (xs.set o v) (o+1) r
theorem zFR (j:Nat):∀(vs xs:List Value) (o:Nat),(zDN xs o vs)[j]? = if o≤j∧j<o+vs.length∧j<xs.length then vs[j - o]? else xs[j]?
 | [],xs,o=>by
   unfold zDN;rw[if_neg (by simp;omega)]
 | v :: r,xs,o=>by
   unfold zDN;rw[zFR j r];by_cases h:o=j
   ·subst h
    rw[if_neg (by omega),List.getElem?_set]
    by_cases hl:o<xs.length
    ·rw[if_pos rfl,if_pos hl,if_pos ⟨Nat.le_refl _,by simp,hl⟩];simp
    ·rw[if_pos rfl,if_neg hl,if_neg (by omega)]
     rw[List.getElem?_eq_none (by omega)]
   ·rw[List.getElem?_set_ne h]
    simp only[List.length_set,List.length_cons];by_cases hc:o+1≤j∧j<o+1+r.length∧j<xs.length
    ·rw[if_pos hc,if_pos (by omega),show j - o=(j - (o+1))+1 by omega,List.getElem?_cons_succ]
    ·rw[if_neg hc,if_neg (by omega)]
theorem zCv {base:Nat} {e:TypeId} {size g n cap:Nat}:∀(vs xs:List Value) (o:Nat) (w:World),w.ownsRow base e size (.slice (some ⟨g,0,none⟩) n cap) n xs→base≤g →
 (w.setCells g o vs).ownsRow base e size (.slice (some ⟨g,0,none⟩) n cap) n (zDN xs o vs)∧Below base w (w.setCells g o vs)
 | [],xs,o,w,h,_=>⟨h,Below.refl _ _⟩
 | v :: r,xs,o,w,h,hg=>by
   obtain⟨h1,h2⟩:=h.stored o v;obtain⟨h3,h4⟩:=zCv r _ (o+1) _ h1 hg;refine⟨h3,Below.trans ?_ h4⟩;exact (Below.refl base w).setCell hg v
theorem zGM {base:Nat} {e:TypeId} {size g n cap:Nat} {xs:List Value} {w:World} (k:Nat) (hk:k≤n) (h:w.ownsRow base e size (.slice (some ⟨g,0,none⟩) n cap) n xs):w.ownsRow base e size (.slice (some ⟨g,0,none⟩) k cap) k (xs.take (k * size)):=by
 have hx:=h.1;have hm:k * size≤n * size:=Nat.mul_le_mul_right _ hk;rcases h.2 with ⟨h',_⟩ | ⟨g',cap',cur,h',hb,hg,hnc,hcm,hcs,htake⟩
 ·simp at h'
 ·simp only[Value.slice.injEq,Option.some.injEq,Addr.mk.injEq,and_true,true_and] at h'
  obtain⟨rfl,rfl⟩:=h';refine⟨by rw[List.length_take,hx];omega,.inr ⟨g,cap,cur,rfl,hb,hg,by omega,hcm,hcs,?_⟩⟩
  rw[←htake,List.take_take]
  congr 1
  omega
theorem zCn (s:Nat):∀(ch:List (List Value)),(∀c∈ch,c.length=s)→ch.flatten.length=ch.length * s
 | [],_=>by simp
 | c :: r,h=>by
   rw[List.flatten_cons,List.length_append,zCn s r (fun x hx=>h x (List.mem_cons_of_mem _ hx)),h c (List.mem_cons_self ..),List.length_cons,Nat.add_mul]
   omega
theorem zHx (s:Nat):∀(k:Nat) (ch:List (List Value)),(∀c∈ch,c.length=s)→ch.flatten.take (k * s)=(ch.take k).flatten
 | 0,ch,_=>by simp
 | k+1,[],_=>by simp
 | k+1,c :: r,h=>by
   rw[List.flatten_cons,List.take_succ_cons,List.flatten_cons,←zHx s k r (fun x hx=>h x (List.mem_cons_of_mem _ hx)),List.take_append,h c (List.mem_cons_self ..),show (k+1) * s - s=k * s by rw[Nat.add_mul];omega,List.take_of_length_le]
   rw[h c (List.mem_cons_self ..),Nat.add_mul];omega
theorem zEi (s:Nat):∀(k:Nat) (ch:List (List Value)),(∀c∈ch,c.length=s)→ch.flatten.drop (k * s)=(ch.drop k).flatten
 | 0,ch,_=>by simp
 | k+1,[],_=>by simp
 | k+1,c :: r,h=>by
   rw[List.flatten_cons,List.drop_succ_cons,←zEi s k r (fun x hx=>h x (List.mem_cons_of_mem _ hx)),List.drop_append,h c (List.mem_cons_self ..),show (k+1) * s - s=k * s by rw[Nat.add_mul];omega,List.drop_eq_nil_of_le]
   ·rfl
   ·rw[h c (List.mem_cons_self ..),Nat.add_mul];omega
theorem zGl (s:Nat) (ch:List (List Value)) (hs:∀c∈ch,c.length=s) (k:Nat) (hk:k<ch.length) (z:List Value) :
 (zDN (zDN ch.flatten (k * s) (ch.drop (k+1)).flatten) ((ch.length - 1) * s) z).take ((ch.length - 1) * s)=(ch.eraseIdx k).flatten:=by
 have hl:=zCn s ch hs;have hd:(ch.drop (k+1)).flatten.length=(ch.length - (k+1)) * s:=by
  rw[zCn s _ (fun c hc=>hs c (List.mem_of_mem_drop hc)),List.length_drop]
 have ht:(ch.take k).flatten.length=k * s:=by
  rw[zCn s _ (fun c hc=>hs c (List.mem_of_mem_take hc)),List.length_take,Nat.min_eq_left (by omega)]
 have e1:(ch.length - 1) * s=k * s+(ch.length - (k+1)) * s:=by rw[←Nat.add_mul];congr 1;omega
 have e2:(ch.length - 1) * s≤ch.length * s:=Nat.mul_le_mul_right _ (by omega)
 apply List.ext_getElem?;intro j;rw[List.eraseIdx_eq_take_drop_succ,List.flatten_append];by_cases hj:j<(ch.length - 1) * s
 ·rw[List.getElem?_take,if_pos hj,zFR,if_neg (by omega),zFR]
  by_cases hjk:j<k * s
  ·rw[if_neg (by omega),List.getElem?_append_left (by rw[ht];exact hjk),←zHx s k ch hs,List.getElem?_take,if_pos hjk]
  ·rw[if_pos ⟨by omega,by rw[hd];omega,by rw[hl];omega⟩,List.getElem?_append_right (by rw[ht];omega),ht]
 ·rw[List.getElem?_eq_none (by rw[List.length_take];omega),List.getElem?_eq_none (by rw[List.length_append,ht,hd];omega)]
theorem zFv {P:Program} (w:World) (t e ty:TypeId) (z:Value) (zs:List Value) (ht:P.underlying t=some (.slice e)) (hv:∀w,(zeroValue e).run P w=.ok z w) (hz:(Builtin.zeroCells z.cells 1).toList=zs) (h1:∀u∈zs,u.oneCell'=true) (b o c:Nat)
 (hc:∀j,j<zs.length→(w.cell? ⟨b,o+j,none⟩).isSome=true) (hf:∀j,j<zs.length→w.frozen? ⟨b,o+j,none⟩=false) :
 (Builtin.clear_ #[t] ty #[.slice (some ⟨b,o,none⟩) 1 c]).run P w=.ok (.tuple #[]) (w.setCells b o zs):=by
 have hst:=run_storeCells_cells (P:=P) b o zs 0 w (by simpa using hc) (by simpa using hf) h1
 simp only[Nat.add_zero] at hst;simp[Builtin.clear_,run_underlying ht,hv,hz,hst]
end Go.Proofs.YtndcpnlaadikoaaGreatDoor
