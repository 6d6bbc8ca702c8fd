/- What the proof leans on, part 28. -/
import Derived.Test.YtdjbejlbmaiocafGreatDoorPartAu
import Derived.Test.YtdjbejlbmaiocafGreatDoorPartAv
import Derived.Deep.RegionHeld3
import Derived.Deep.RegionLaw
namespace Go.Proofs.YtdjbejlbmaiocafGreatDoor
open Go.RowKit
theorem Tryz.infoPart:(Tryz.prog.info? 152).map (fun i=>(i.zero,i.size,i.bytes))=some (some (.int .u64 0),1,8):=by kernel_rfl
theorem zJU (w:World) (z:Nat):∀(j:Nat) (u:Value),[Value.int .u64 (z:Int)][j]? = some u→(w.alloc (.cells #[.int .u64 (z:Int)] 152)).cell? ((⟨w.heap.size,0,none⟩:Addr).add j)=some u:=by
 intro j u hj
 match j,hj with
 | 0,hj=>simp at hj;subst hj;simp[Addr.add]
set_option maxHeartbeats 3200000 in
set_option maxRecDepth 100000 in
theorem zLK (N bs bm bc:Nat) (m:Mod) (con:Nat) (c:MCon) (vs cs sv:Value) (scope vals:List Int) (a:Nat) (out:List Nat) (w:World)
 (hc:m.cons[con]? = some c) (hce:conE vals.length c=0) (hvb:∀x∈vals,-50≤x∧x≤50) (hbud:out.length≤10000000)
 (hT:PtsS N bs bm bc m con vs cs sv scope vals out w) :
 Calls Tryz.prog 218 #[.int .i64 (scope.length:Int),.int .u64 (a:Int),.pointer (some ⟨bs,0,none⟩),.pointer (some ⟨bm,0,none⟩),.pointer (some ⟨bc,0,none⟩),.pointer (some ⟨N+1,0,none⟩),.pointer (some ⟨N+2,0,none⟩),.pointer (some ⟨N+3,0,none⟩)] w fun e w'=>e=.returned (.tuple #[]) ∧
  PtsS N bs bm bc m con vs cs sv scope vals (out++if zAN c vals then [a] else []) w'∧Below N w w':=by
 obtain⟨hma,hia,d0,d1,d2,d3,l0,l1,l2⟩:=hT.old
 obtain⟨⟨av,cv,rfl,_,_⟩,⟨ac,cc,hcs,hmc,hrc⟩⟩:=hma
 subst hcs
 obtain⟨asv,csv,hsv,hms,_⟩:=hia
 subst hsv
 obtain⟨bb,off,vv,vc,vr,vl,hax,hbb,c0,c1,c2,c3,c4,c5,hK⟩:=hrc con c hc
 subst hax
 have HK:Hid (∀w':World,Below w.heap.size w w'→KArg w' vv vc vr vl c):=fun w' h=>KArg.below h hK
 have HVA:Hid (∀w':World,Below w.heap.size w w'→IArg w' (.slice (some ⟨N,0,none⟩) vals.length vals.length) vals):=fun w' h=>IArg.below h hT.vals_arg
 obtain⟨⟨q1,r1,h1,_,_⟩,⟨q2,r2,h2,_,_⟩,⟨q3,r3,h3,_,_⟩,⟨q4,r4,h4,_,_⟩⟩:=hK
 subst h1;subst h2;subst h3;subst h4
 have hcon:con<m.cons.length:=(List.getElem?_eq_some_iff.1 hc).1
 have d4:=hT.2.2.2.1
 have l4:N+1<w.heap.size:=by have:=hT.1;omega
 have HNL:Hid (N≤w.heap.size):=by have:=hT.1;exact (by omega:N≤w.heap.size)
 have HT:Hid (PtsS N bs bm bc m con (.slice av m.vars.length cv) (.slice (some ⟨bb,off,none⟩) m.cons.length cc) (.slice asv scope.length csv) scope vals out w):=hT
 have HVB:Hid (∀x∈vals,-50≤x∧x≤50):=hvb
 have HCE:Hid (conE vals.length c=0):=hce
 unfold maxLen at hmc hms
 obtain⟨hmc1,hmc⟩:=hmc
 obtain⟨hms1,hms⟩:=hms
 obtain⟨i0,hi,hz0,hz1,hz2⟩:=info_parts Tryz.infoPart
 obtain⟨O,hO⟩:∃O,(out++if zAN c vals then [a] else [])=O:=⟨_,rfl⟩
 have HO:Hid ((out++if zAN c vals then [a] else [])=O):=hO
 rw[hO]
 clear hT hvb hce hrc hc hO
 go_enter Tryz.func218,Tryz.ntmps218
 go_wp2_with fail
 go_region_held3 (fun w'=>Below w.heap.size w w'∧w'.cell? ⟨bm,1,none⟩=some (.slice (some ⟨bb,off,none⟩) m.cons.length cc)∧w'.cell? ⟨bc,0,none⟩=some (.int .i64 con)∧w'.cell? ⟨bb,off+con * 6,none⟩=some (.int .i64 c.kind)∧w'.cell? ⟨bb,off+con * 6+1,none⟩=some (.slice q1 c.vars.length r1)∧w'.cell? ⟨bb,off+con * 6+2,none⟩=some (.slice q2 c.consts.length r2)∧w'.cell? ⟨bb,off+con * 6+3,none⟩=some (.int .i64 c.n)∧w'.cell? ⟨bb,off+con * 6+4,none⟩=some (.slice q3 c.rows.length r3)∧w'.cell? ⟨bb,off+con * 6+5,none⟩=some (.slice q4 c.lits.length r4)∧w'.cell? ⟨N+1,0,none⟩=some (.slice (some ⟨N,0,none⟩) vals.length vals.length))
  ((refine (fun (hB:Below w.heap.size w _)=>⟨hB,(hB.cell (p:=⟨bm,1,none⟩) l1).trans d2,(hB.cell (p:=⟨bc,0,none⟩) l2).trans d3,(hB.cell (p:=⟨bb,off+con * 6,none⟩) hbb).trans c0,(hB.cell (p:=⟨bb,off+con * 6+1,none⟩) hbb).trans c1,(hB.cell (p:=⟨bb,off+con * 6+2,none⟩) hbb).trans c2,(hB.cell (p:=⟨bb,off+con * 6+3,none⟩) hbb).trans c3,(hB.cell (p:=⟨bb,off+con * 6+4,none⟩) hbb).trans c4,(hB.cell (p:=⟨bb,off+con * 6+5,none⟩) hbb).trans c5,(hB.cell (p:=⟨N+1,0,none⟩) l4).trans d4⟩:Below w.heap.size w _→_) ?_;first | exact (Below.refl _ _).drew | exact hbq))
  (first
   | (go_at_call 90;refine (zIu c vals _ _ _ _ _ _ (HK.out _ (Below.refl _ _).drew) (HVA.out _ (Below.refl _ _).drew) HCE.out HVB.out).mono ?_;rintro e w1 ⟨rfl,hbr⟩;have hbq:Below w.heap.size w w1:=⟨hbr.os,hbr.tape,hbr.output,hbr.size,hbr.block⟩))
 have HT1:Hid (PtsS N bs bm bc m con (.slice av m.vars.length cv) (.slice (some ⟨bb,off,none⟩) m.cons.length cc) (.slice asv scope.length csv) scope vals out w1):=HT.out.below hbq
 have hbN:Below N w w1:=hbq.mono HNL.out
 clear hbr hbq c0 c1 c2 c3 c4 c5 d0 d1 d2 d3 d4 l0 l1 l2 l4 hbb
 cases hq:zAN c vals
 ·have HE:Hid (out=O):=by show _=_;have:=HO.out;rw[hq] at this;simpa using this
  clear hq
  go_wp2
  (try simp only[Exit.inBlock,Exit.then])
  refine bodyPost_ret (results_none rfl _ _ _) rfl ?_
  refine⟨rfl,?_,hbN⟩
  rw[←HE.out]
  exact HT1.out
 ·have HE:Hid (out++[a]=O):=by show _=_;have:=HO.out;rw[hq] at this;simpa using this
  clear hq
  obtain⟨hsz,_,_,_,_,ov,ho,hr⟩:=HT1.out
  obtain⟨ax,cx,rfl⟩:=zAC hr
  have hco:w1.cell? ⟨N+2,0,none⟩=some (.slice ax out.length cx):=ho.cellAt 0 (by omega)
  have hlo:N+2<w1.heap.size:=by omega
  go_wp2_with (at_builtin;refine wpList_append_own _ rfl _ _ 193 rfl (N+4) 152 i0 (.int .u64 0) 1 8 Tryz.underlying193 hi hz0 hz1 hz2 rfl (by decide) _ _ _ rfl (hr.alloc _) ⟨w1.heap.size,0,none⟩ 1 1 [.int .u64 (a:Int)] rfl rfl ?c1 ?c2 ?c3 ?c4 ?c5 ?_)
  case c1=>exact zJU w1 a
  case c2=>intro u hu;rcases List.mem_singleton.1 hu with rfl;rfl
  case c3=>unfold maxLen;omega
  case c4=>omega
  case c5=>simp;omega
  intro v3 w3 hown3 hgrow _
  have hown4:w3.ownsRow (N+4) 152 1 v3 (out++[a]).length (u64s (out++[a])):=by
   unfold u64s
   rw[List.length_append,List.map_append];exact hown3
  have HPUT:=(HT1.out.below (zAA _ _)).put (ho.alloc _) (hr.alloc _) hown4 hgrow
  have HP:Hid (PtsS N bs bm bc m con (.slice av m.vars.length cv) (.slice (some ⟨bb,off,none⟩) m.cons.length cc) (.slice asv scope.length csv) scope vals (out++[a]) (w3.setCell ⟨N+2,0,none⟩ v3)):=HPUT.1
  have HB4:Hid (Below N w (w3.setCell ⟨N+2,0,none⟩ v3)):=hbN.trans (((Below.refl _ _).alloc (by omega) _).trans HPUT.2)
  have ht3:w3.ownsRow N 193 1 (.slice (some ⟨N+2,0,none⟩) 1 1) 1 [.slice ax out.length cx]:=(ho.alloc _).kept hgrow (Or.inr (fun h=>by have:=(hr.lt (N+2) h.symm).1;omega))
  have hcB:w3.cell? ⟨N+2,0,none⟩=some (.slice ax out.length cx):=ht3.cellAt 0 (by omega)
  have hfB:w3.frozen? ⟨N+2,0,none⟩=false:=ht3.frozenAt 0
  obtain⟨av',cv',rfl⟩:=zAC hown4
  rw[show (out++[a]).length=out.length+1 by simp] at HP HB4
  clear hown3 hgrow hown4 hr ho hco ht3 HPUT
  go_wp2
  (try simp only[Exit.inBlock,Exit.then])
  refine bodyPost_ret (results_none rfl _ _ _) rfl ?_
  exact⟨rfl,by rw[←HE.out];exact HP.out,HB4.out⟩
theorem zJV {w:World} {b off c n:Nat} {l:List MVar} (h:VArg w (.slice (some ⟨b,off,none⟩) n c) l) (j:Nat) (hj:j<l.length) :
 b<w.heap.size∧w.cell? ⟨b,off+j * 3+1,none⟩=some (.int .i64 (zAE l j).lo)∧w.cell? ⟨b,off+j * 3+2,none⟩=some (.int .i64 (zAE l j).hi):=by
 obtain⟨a,c',hv,_,hr⟩:=h
 obtain⟨_,b',off',ha,hb,_,c1,c2⟩:=hr j _ (zFH hj)
 injection hv with e1 _ _
 rw[ha] at e1
 cases e1
 exact⟨hb,c1,c2⟩
set_option maxHeartbeats 3200000 in
set_option maxRecDepth 100000 in
theorem zLL (N bs bm bc:Nat) (m:Mod) (con:Nat) (c:MCon) (vs cs sv:Value) (scope:List Int) (hm:zAI m=0) (hc:m.cons[con]? = some c) (hsc:∀v∈scope,0≤v∧v<(m.vars.length:Int)) (hs8:scope.length≤8) :
 ∀(rest:List Int) (k:Nat) (vals:List Int) (a:Nat) (out:List Nat) (w:World),scope.drop k=rest→k≤scope.length→vals.length=m.vars.length→(∀x∈vals,-50≤x∧x≤50)→a<2 ^ 36→out.length+6 ^ rest.length≤10000000 →
  PtsS N bs bm bc m con vs cs sv scope vals out w →
  Calls Tryz.prog 218 #[.int .i64 k,.int .u64 a,.pointer (some ⟨bs,0,none⟩),.pointer (some ⟨bm,0,none⟩),.pointer (some ⟨bc,0,none⟩),.pointer (some ⟨N+1,0,none⟩),.pointer (some ⟨N+2,0,none⟩),.pointer (some ⟨N+3,0,none⟩)] w fun e w'=>e=.returned (.tuple #[]) ∧
   ∃vals',PtsS N bs bm bc m con vs cs sv scope vals' (out++zAS m.vars c rest vals a) w'∧vals'.length=m.vars.length∧(∀x∈vals',-50≤x∧x≤50)∧zBM rest vals vals'∧Below N w w':=by
 have HSC:Hid (∀v∈scope,0≤v∧v<(m.vars.length:Int)):=hsc
 have HVA:Hid (zAH m.vars):=zFf m hm
 have HCE:Hid (conE m.vars.length c=0):=zFx m hm con c hc
 have HC:Hid (m.cons[con]? = some c):=hc
 clear hsc hm hc
 intro rest
 induction rest with
 | nil =>
   intro k vals a out w hdr hk hvl hvb ha hbud hT
   have hks:k=scope.length:=by
    have:=congrArg List.length hdr
    simp at this
    omega
   subst hks
   refine (zLK N bs bm bc m con c vs cs sv scope vals a out w HC.out (by rw[hvl];exact HCE.out) hvb (by simp at hbud;omega) hT).mono ?_
   rintro e w' ⟨rfl,h1,h2⟩
   exact⟨rfl,vals,h1,hvl,hvb,zBM.refl _ _,h2⟩
 | cons v rest ih =>
   intro k vals a out w hdr hk hvl hvb ha hbud hT
   have hkl:k<scope.length:=by
    have:=congrArg List.length hdr
    simp at this
    omega
   have hkv:scope[k]? = some v:=by
    have h:=congrArg (fun q:List Int=>q[0]?) hdr
    simpa using h
   have hdr2:scope.drop (k+1)=rest:=by
    have h:=congrArg List.tail hdr
    simpa using h
   obtain⟨hv0,hv1⟩:=HSC.out v (List.mem_of_getElem? hkv)
   obtain⟨j,rfl⟩:∃j:Nat,v=(j:Int):=⟨v.toNat,by omega⟩
   have hjs:j<m.vars.length:=by omega
   obtain⟨hma,hia,d0,d1,_,_,_,_,_⟩:=hT.old
   obtain⟨⟨av,cv,hvs,hmv,hrv⟩,_⟩:=hma
   obtain⟨_,b,off,hav,hbv,_,f1,f2⟩:=hrv j _ (zFH hjs)
   subst hav
   subst hvs
   obtain⟨asv,csv,hsv,hms,hscell⟩:=hia
   obtain⟨b2,o2,has,hb2,e0⟩:=hscell k _ hkv
   subst has
   subst hsv
   unfold maxLen at hms hmv
   obtain⟨hms1,hms⟩:=hms
   obtain⟨hmv1,hmv⟩:=hmv
   obtain⟨lo,hlo⟩:∃lo,(zAE m.vars j).lo=lo:=⟨_,rfl⟩
   obtain⟨hi,hhi⟩:∃hi,(zAE m.vars j).hi=hi:=⟨_,rfl⟩
   obtain⟨n,hn⟩:∃n,zBH (zAE m.vars j)=n:=⟨_,rfl⟩
   have HLO:Hid ((zAE m.vars j).lo=lo):=hlo
   have HHI:Hid ((zAE m.vars j).hi=hi):=hhi
   have hbn:=HVA.out.2 j hjs
   have hn6:n≤6:=by rw[←hn];exact HVA.out.1.2 j
   have hnn:(n:Int)=hi+1 - lo:=by rw[←hn,←hlo,←hhi];unfold zBH;omega
   rw[hlo] at f1 hbn
   rw[hhi] at f2 hbn
   have H6:Hid (m.vars.length≤6):=HVA.out.1.1
   have HT:Hid (PtsS N bs bm bc m con (.slice (some ⟨b,off,none⟩) m.vars.length cv) cs (.slice (some ⟨b2,o2,none⟩) scope.length csv) scope vals out w):=hT
   have HVB:Hid (∀x∈vals,-50≤x∧x≤50):=hvb
   have HVL:Hid (vals.length=m.vars.length):=hvl
   have HA:Hid (a<2 ^ 36):=ha
   have HALL:Hid (ptsN m.vars c j rest vals a lo n=zAS m.vars c ((j:Int) :: rest) vals a):=by show _=_;rw[←hlo,←hn];exact zKU m.vars c j rest vals a
   obtain⟨X,hX⟩:∃X,6 ^ rest.length=X:=⟨_,rfl⟩
   have hbud2:out.length+6 * X≤10000000:=by
    rw[List.length_cons,Nat.pow_succ] at hbud
    omega
   have HCNT:Hid (∀jj,(ptsN m.vars c j rest vals a lo jj).length≤jj * X):=fun jj=>by rw[←hX];exact zFI m.vars HVA.out.1 c j rest vals a lo jj
   have HIH:Hid (∀(vals:List Int) (a:Nat) (out:List Nat) (w:World),vals.length=m.vars.length→(∀x∈vals,-50≤x∧x≤50)→a<2 ^ 36→out.length+X≤10000000 →
    PtsS N bs bm bc m con (.slice (some ⟨b,off,none⟩) m.vars.length cv) cs (.slice (some ⟨b2,o2,none⟩) scope.length csv) scope vals out w →
    Calls Tryz.prog 218 #[.int .i64 ((k:Int)+1),.int .u64 a,.pointer (some ⟨bs,0,none⟩),.pointer (some ⟨bm,0,none⟩),.pointer (some ⟨bc,0,none⟩),.pointer (some ⟨N+1,0,none⟩),.pointer (some ⟨N+2,0,none⟩),.pointer (some ⟨N+3,0,none⟩)] w fun e w'=>e=.returned (.tuple #[]) ∧
     ∃vals',PtsS N bs bm bc m con (.slice (some ⟨b,off,none⟩) m.vars.length cv) cs (.slice (some ⟨b2,o2,none⟩) scope.length csv) scope vals' (out++zAS m.vars c rest vals a) w'∧vals'.length=m.vars.length∧(∀x∈vals',-50≤x∧x≤50)∧zBM rest vals vals'∧Below N w w'):=by
    intro vals1 a1 out1 w1 q1 q2 q3 q4 q5
    exact ih (k+1) vals1 a1 out1 w1 hdr2 (by omega) q1 q2 q3 (by rw[hX];exact q4) q5
   have HONE:Hid (∀(jj:Nat) (w':World),jj<n→VArg w' (.slice (some ⟨b,off,none⟩) m.vars.length cv) m.vars→Calls Tryz.prog 219 #[.slice (some ⟨b,off,none⟩) m.vars.length cv,.int .i64 j,.int .i64 (lo+(jj:Int))] w' fun e w''=>e=.returned (.int .u64 ((2 ^ (6 * j+jj):Nat):Int))∧w''=w'):=by
    intro jj w' hjj hva'
    have h1:=zJK m.vars HVA.out.1 j (lo+(jj:Int)) _ w' hva' hjs (by rw[HLO.out];omega) (by rw[HHI.out];omega) (by rw[HLO.out,HHI.out];omega)
    rw[HLO.out,show (lo+(jj:Int) - lo).toNat=jj by omega] at h1
    exact h1
   have HPOW:Hid (∀jj,jj<n→2 ^ (6 * j+jj)<2 ^ 36):=fun jj hjj=>zFg m.vars HVA.out j jj hjs (by omega)
   have g0:((k:Int)==(scope.length:Int))=false:=by simp;omega
   have hlt8:k<8:=by omega
   clear hT hvb hdr hvl hbud hrv hscell ih hX hdr2 hkv hv0 hv1 hlo hhi hn ha
   go_enter Tryz.func218,Tryz.ntmps218
   go_wp2_with fail
   clear d0 d1 e0 f1 f2
   go_loopw [11] (fun i wr=>∃(jj:Nat) (vals':List Int),jj≤n∧i=.int .i64 (lo+(jj:Int))∧PtsS N bs bm bc m con (.slice (some ⟨b,off,none⟩) m.vars.length cv) cs (.slice (some ⟨b2,o2,none⟩) scope.length csv) scope vals' (out++ptsN m.vars c j rest vals a lo jj) wr∧Hid (vals'.length=m.vars.length∧(∀x∈vals',-50≤x∧x≤50)∧zBM ((j:Int) :: rest) vals vals')∧Below N w wr) (fun i _=>(hi+1 - intOf i).toNat)
   case atStart=>exact⟨0,vals,by omega,by simp,by simpa[ptsN] using HT.out,⟨HVL.out,HVB.out,zBM.refl _ _⟩,Below.refl _ _⟩
   case round =>
    obtain⟨jj,vals',hjj,rfl,hTr,hH,hbw⟩:=hrel
    have HTR:Hid (PtsS N bs bm bc m con (.slice (some ⟨b,off,none⟩) m.vars.length cv) cs (.slice (some ⟨b2,o2,none⟩) scope.length csv) scope vals' (out++ptsN m.vars c j rest vals a lo jj) wr):=hTr
    have HBW:Hid (Below N w wr):=hbw
    clear hTr hbw
    obtain⟨hma,_,_,d1,_,_,_,lm,_⟩:=HTR.out.old
    obtain⟨lb,f1,f2⟩:=zJV hma.1 j hjs
    rw[HLO.out] at f1
    rw[HHI.out] at f2
    clear hma
    by_cases hlt:jj<n
    ·have hle:lo+(jj:Int)≤hi:=by omega
     have hjv:j<vals'.length:=by rw[hH.out.1];exact hjs
     have d4:=HTR.out.2.2.2.1
     have HOW:=HTR.out.2.2.1
     have hNl:N+4≤wr.heap.size:=HTR.out.1
     obtain⟨y,hy⟩:∃y,vals'[j]? = some y:=⟨vals'[j],by simp[hjv]⟩
     have cN:wr.cell? ⟨N,j,none⟩=some (.int .i64 y):=by rw[HOW.cellAt j (by omega),List.getElem?_map,hy];rfl
     have zN:=HOW.frozenAt j
     have HSET:=HTR.out.set j (lo+(jj:Int))
     have hxb:-50≤lo+(jj:Int)∧lo+(jj:Int)≤50:=by omega
     have HST:Hid (PtsS N bs bm bc m con (.slice (some ⟨b,off,none⟩) m.vars.length cv) cs (.slice (some ⟨b2,o2,none⟩) scope.length csv) scope (vals'.set j (lo+(jj:Int))) (out++ptsN m.vars c j rest vals a lo jj) (wr.setCell ⟨N,j,none⟩ (.int .i64 (lo+(jj:Int))))):=HSET.1
     have HSB:Hid (Below N w (wr.setCell ⟨N,j,none⟩ (.int .i64 (lo+(jj:Int))))):=HBW.out.trans HSET.2
     have HV1:Hid ((vals'.set j (lo+(jj:Int))).length=m.vars.length):=by show _=_;rw[List.length_set];exact hH.out.1
     have HV2:Hid (∀y∈vals'.set j (lo+(jj:Int)),-50≤y∧y≤50):=zIF _ _ _ hH.out.2.1 hxb
     have HBU:Hid ((out++ptsN m.vars c j rest vals a lo jj).length+X≤10000000):=by
      have h1:=HCNT.out jj
      have h2:jj * X≤5 * X:=Nat.mul_le_mul_right _ (by omega)
      show _≤_
      rw[List.length_append]
      omega
     have HNX:Hid (ptsN m.vars c j rest vals a lo (jj+1)=ptsN m.vars c j rest vals a lo jj++zAS m.vars c rest (vals'.set j (lo+(jj:Int))) (a ||| 2 ^ (6 * j+jj))):=by
      show _=_
      rw[zGC]
      congr 1
      have h:=(hH.out.2.2).set (lo+(jj:Int))
      exact zEf m.vars c rest _ _ _ h
     have HAG:Hid (zBM ((j:Int) :: rest) vals (vals'.set j (lo+(jj:Int)))):=(hH.out.2.2).trans (zBM.of_set rest vals' (j:Int) (lo+(jj:Int)))
     have hp36:=HPOW.out jj hlt
     obtain⟨t,ht⟩:∃t,2 ^ (6 * j+jj)=t:=⟨_,rfl⟩
     have HO1:=HONE.out jj
     rw[ht] at hp36 HNX HO1
     have HON:Hid (∀(w':World),VArg w' (.slice (some ⟨b,off,none⟩) m.vars.length cv) m.vars→Calls Tryz.prog 219 #[.slice (some ⟨b,off,none⟩) m.vars.length cv,.int .i64 j,.int .i64 (lo+(jj:Int))] w' fun e w''=>e=.returned (.int .u64 (t:Int))∧w''=w'):=fun w' h=>HO1 w' hlt h
     have hor:=bits_or_u64_nat a t (by have:=HA.out;omega) (by omega)
     obtain⟨a2,ha2⟩:∃a2,a ||| t=a2:=⟨_,rfl⟩
     have HA2:Hid (a2<2 ^ 36):=by rw[←ha2];exact zEc HA.out hp36
     rw[ha2] at hor HNX
     clear hy HOW HSET hH hxb ht HO1 hp36 ha2
     go_wp2_with fail
     obtain⟨W2,hW2⟩:∃W2,wr.setCell ⟨N,j,none⟩ (.int .i64 (lo+(jj:Int)))=W2:=⟨_,rfl⟩
     rw[hW2] at HST HSB ⊢
     clear hW2 d1 f1 f2 d4 cN zN lm lb hNl
     obtain⟨hma,_,_,d1,_,_,_,lm,_⟩:=HST.out.old
     have d5:=HST.out.2.2.2.2.1
     unfold zFh at d5
     have HMV:Hid (VArg W2.drew (.slice (some ⟨b,off,none⟩) m.vars.length cv) m.vars):=VArg.below (Below.refl _ _).drew hma.1
     have HSTD:Hid (PtsS N bs bm bc m con (.slice (some ⟨b,off,none⟩) m.vars.length cv) cs (.slice (some ⟨b2,o2,none⟩) scope.length csv) scope (vals'.set j (lo+(jj:Int))) (out++ptsN m.vars c j rest vals a lo jj) W2.drew):=HST.out.below (Below.refl _ _).drew
     clear hma
     have hwk:IntKind.i64.wrap ((k:Int)+1)=(k:Int)+1:=by simp[IntKind.wrap,IntKind.signed,IntKind.bits];omega
     go_region_held3 (fun w'=>w'.cell? ⟨N+3,0,none⟩=some (.func (.func 218) #[] #[.pointer (some ⟨bs,0,none⟩),.pointer (some ⟨bm,0,none⟩),.pointer (some ⟨bc,0,none⟩),.pointer (some ⟨N+1,0,none⟩),.pointer (some ⟨N+2,0,none⟩),.pointer (some ⟨N+3,0,none⟩)])∧w'.cell? ⟨bm,0,none⟩=some (.slice (some ⟨b,off,none⟩) m.vars.length cv))
      (first | exact⟨d5,d1⟩ | assumption | exact⟨hd5,hd1⟩)
      (first
       | (go_at_call 219;refine (HON.out _ HMV.out).mono ?_;rintro e w2 ⟨rfl,rfl⟩)
       | (go_at_call 218;refine (HIH.out _ _ _ _ HV1.out HV2.out HA2.out HBU.out HSTD.out).mono ?_;rintro e w2 ⟨rfl,v2,hT2,hl2,hb2',hag2,hbN2⟩;have hd5:=hT2.2.2.2.2.1;unfold zFh at hd5;have hd1:=hT2.old.2.2.2.1))
     ·have HT2:Hid (PtsS N bs bm bc m con (.slice (some ⟨b,off,none⟩) m.vars.length cv) cs (.slice (some ⟨b2,o2,none⟩) scope.length csv) scope v2 (out++ptsN m.vars c j rest vals a lo (jj+1)) w2):=by
       rw[HNX.out,←List.append_assoc];exact hT2
      have HH2:Hid (v2.length=m.vars.length∧(∀x∈v2,-50≤x∧x≤50)∧zBM ((j:Int) :: rest) vals v2):=⟨hl2,hb2',HAG.out.trans (zBM.cons _ hag2)⟩
      have HB2:Hid (Below N w w2):=HSB.out.trans ((Below.refl _ _).drew.trans hbN2)
      clear hT2 hl2 hb2' hag2 hbN2 hd5 hd1
      go_wp2
      go_roundw
      case rel=>exact⟨jj+1,v2,by omega,by go_num,HT2.out,HH2,HB2.out⟩
      case measure=>simp[intOf];omega
    ·have hle:¬(lo+(jj:Int)≤hi):=by omega
     have hje:jj=n:=by omega
     have HF:Hid (PtsS N bs bm bc m con (.slice (some ⟨b,off,none⟩) m.vars.length cv) cs (.slice (some ⟨b2,o2,none⟩) scope.length csv) scope vals' (out++zAS m.vars c ((j:Int) :: rest) vals a) wr):=by
      have h:=HTR.out
      rw[hje,HALL.out] at h
      exact h
     clear hje
     go_wp2
     go_end0
     exact⟨rfl,vals',HF.out,hH.out.1,hH.out.2.1,hH.out.2.2,HBW.out⟩
end Go.Proofs.YtdjbejlbmaiocafGreatDoor
