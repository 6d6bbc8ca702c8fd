/- What the proof leans on, part 19. -/
import Derived.Test.YtndcpnlaadikoaaGreatDoorPartAq
import Derived.Test.YtndcpnlaadikoaaGreatDoorPartAk
import Derived.Test.YtndcpnlaadikoaaGreatDoorPartAr
import Derived.Deep.DeepCutAuto
import Derived.Deep.RegionLaw
set_option maxRecDepth 100000
set_option maxHeartbeats 12800000
namespace Go.Proofs.YtndcpnlaadikoaaGreatDoor
open Go.RowKit
def SzM (m:Mod):Prop:=m.vars.length * 32≤140737488355328∧m.cons.length * 112≤140737488355328∧∀c∈m.cons,c.vars.length * 8≤140737488355328∧c.consts.length * 8≤140737488355328∧c.rows.length * 24≤140737488355328∧c.lits.length * 24≤140737488355328∧∀r∈c.rows,r.length * 8≤140737488355328
theorem Tryz.infoInts6:(Tryz.prog.info? 42).map (fun i=>(i.zero,i.size,i.bytes))=some (some (.slice none 0 0),1,24):=by kernel_rfl
theorem Tryz.underRows6:Tryz.prog.underlying 56=some (.slice 42):=by kernel_rfl
theorem zFm (w:World) (B g:Nat) (T:TypeId) (sz:Nat) (hg:g=w.heap.size) (hB:B≤g):(w.alloc (.cells #[] T)).ownsRow B T sz (.slice (some ⟨g,0,none⟩) 0 0) 0 []:=by
 subst hg;exact⟨by simp,.inr ⟨w.heap.size,0,#[],rfl,hB,heap_alloc_new _ _,Nat.le_refl _,Nat.zero_le _,by simp,by simp⟩⟩
theorem zAV {W Y:World} (h:Below W.heap.size W Y) (o:Obj):Below W.heap.size W (Y.alloc o):=h.alloc h.size o
theorem zMz {W Y:World} (h:Below W.heap.size W Y):Below W.heap.size W Y.drew:=h.drew
theorem zA5 {W X:World} {B:Nat} (hB:Below W.heap.size W X) (hle:B≤W.heap.size) (T:TypeId) (sz:Nat):∃Y,Below X.heap.size X Y∧Below W.heap.size W Y∧Y.ownsRow B T sz (.slice (some ⟨X.heap.size,0,none⟩) 0 0) 0 []∧X.alloc (.cells #[] T)=Y :=
 ⟨_,zAA _ _,zAV hB _,zFm X B _ T sz rfl (Nat.le_trans hle hB.size),rfl⟩
structure CpS (w wr:World) (vs' cs o:Value) (m:Mod) (k:Nat):Prop where
 bel:Below w.heap.size w wr
 mod:wr.heap[w.heap.size]? = some (.cells #[vs',cs,.int .i64 m.goal,.int .i64 m.var] 25)
 res:wr.heap[w.heap.size+1]? = some (.cells #[.slice none 0 0,.slice none 0 0,.int .i64 0,.int .i64 0] 25)
 vown:wr.ownsRow w.heap.size 67 3 vs' m.vars.length (m.vars.flatMap varC)
 cown:LCr w.heap.size wr o (m.cons.take k)
theorem CpS.below {w wr w':World} {vs' cs o:Value} {m:Mod} {k:Nat} (h:CpS w wr vs' cs o m k) (hb:Below wr.heap.size wr w'):CpS w w' vs' cs o m k :=
 ⟨h.bel.trans (hb.mono h.bel.size),(hb.block _ (Array.getElem?_eq_some_iff.1 h.mod).1).trans h.mod,(hb.block _ (Array.getElem?_eq_some_iff.1 h.res).1).trans h.res,zAB h.vown hb,h.cown.fr (X:=fun _=>False) (Fr.below hb) (fun _ hk=>hk.elim)⟩
theorem CpS.set {w wr:World} {vs' cs o:Value} {m:Mod} {k:Nat} (h:CpS w wr vs' cs o m k) {C:Nat} {cc:Array Value} (hC:wr.heap[C]? = some (.cells cc 69)) (hw:w.heap.size≤C) (hne:∀g,o.ownBlock=some g→g≠C) (i:Nat) (u:Value):CpS w (wr.setCell ⟨C,i,none⟩ u) vs' cs o m k:=by
 have hn1:w.heap.size≠C:=fun e=>by
  have:=h.mod;rw[e,hC] at this
  injection this with h1
  injection h1 with _ h2
  exact absurd h2 (by decide)
 have hn2:w.heap.size+1≠C:=fun e=>by
  have:=h.res;rw[e,hC] at this
  injection this with h1
  injection h1 with _ h2
  exact absurd h2 (by decide)
 refine⟨h.bel.setCell hw _,(Below.heap_setCell _ _ _ _ hn1).trans h.mod,(Below.heap_setCell _ _ _ _ hn2).trans h.res,zAX h.vown hC (by decide) i u,?_⟩
 obtain⟨cells,h1,h2⟩:=h.cown;refine⟨cells,⟨h1.1,?_⟩,fun j r hr=>?_⟩
 ·rcases h1.2 with hx | ⟨g,cap,cur,rfl,hg,hh,hrest⟩
  ·exact .inl hx
  ·exact .inr ⟨g,cap,cur,rfl,hg,(Below.heap_setCell _ _ _ _ (hne g rfl)).trans hh,hrest⟩
 ·obtain⟨vv,vc,vr,vl,hc,ho⟩:=h2 j r hr
  exact⟨vv,vc,vr,vl,hc,ho.set2 hC (by decide) (by decide) (by decide) i u⟩
theorem CpS.push {w wr w':World} {vs' cs o v' vv vc vr vl:Value} {m:Mod} {k:Nat} {c:MCon} {cells:List Value} {ob:Obj} (h:CpS w wr vs' cs o m k) (htk:m.cons.take (k+1)=m.cons.take k++[c]) (hw:wr.ownsRow w.heap.size 69 6 o (m.cons.take k).length cells)
 (hcl:∀(i:Nat) (c:MCon),(m.cons.take k)[i]? = some c→∃vv vc vr vl,(∀j,j<6→cells[i * 6+j]? = (conC vv vc vr vl c)[j]?)∧ConR w.heap.size wr vv vc vr vl c) (hx:ConR w.heap.size wr vv vc vr vl c) (ho:w'.ownsRow w.heap.size 69 6 v' ((m.cons.take k).length+1) (cells++conC vv vc vr vl c)) (hg:(wr.alloc ob).grownBy w' o.ownBlock):CpS w w' vs' cs v' m (k+1):=by
 have ha:=h.below (zAA wr ob);have hwa:=hw.alloc ob;refine⟨ha.bel.grown hg ha.bel.size (fun g hgb=>(hwa.lt g hgb).1),zBF ha.mod hg hwa (by decide),zBF ha.res hg hwa (by decide),zBE ha.vown hg hwa (by decide),?_⟩
 rw[htk];exact LCr.push hw hcl hx ho hg
theorem zTC {w wr:World} {vs' cs o:Value} {m:Mod} {k:Nat} (h:CpS w wr vs' cs o m k) (hk:m.cons.take k=m.cons) (hnm:∀x∈m.vars,x.name.size≤maxLen) :
 (((((wr.setCell ⟨w.heap.size,1,none⟩ o).setCell ⟨w.heap.size+1,0,none⟩ vs').setCell ⟨w.heap.size+1,1,none⟩ o).setCell ⟨w.heap.size+1,2,none⟩ (.int .i64 m.goal)).setCell ⟨w.heap.size+1,3,none⟩ (.int .i64 m.var)).heap[w.heap.size+1]? = some (.cells #[vs',o,.int .i64 m.goal,.int .i64 m.var] 25)∧ModR w.heap.size (((((wr.setCell ⟨w.heap.size,1,none⟩ o).setCell ⟨w.heap.size+1,0,none⟩ vs').setCell ⟨w.heap.size+1,1,none⟩ o).setCell ⟨w.heap.size+1,2,none⟩ (.int .i64 m.goal)).setCell ⟨w.heap.size+1,3,none⟩ (.int .i64 m.var)) vs' o m∧Below w.heap.size w (((((wr.setCell ⟨w.heap.size,1,none⟩ o).setCell ⟨w.heap.size+1,0,none⟩ vs').setCell ⟨w.heap.size+1,1,none⟩ o).setCell ⟨w.heap.size+1,2,none⟩ (.int .i64 m.goal)).setCell ⟨w.heap.size+1,3,none⟩ (.int .i64 m.var)):=by
 have r0:(wr.setCell ⟨w.heap.size,1,none⟩ o).heap[w.heap.size+1]? = some (.cells #[.slice none 0 0,.slice none 0 0,.int .i64 0,.int .i64 0] 25):=(Below.heap_setCell _ _ _ _ (by simp)).trans h.res
 have r1:=heap_setCell_same _ (w.heap.size+1) 0 _ _ vs' r0;have r2:=heap_setCell_same _ (w.heap.size+1) 1 _ _ o r1;have r3:=heap_setCell_same _ (w.heap.size+1) 2 _ _ (.int .i64 m.goal) r2;have r4:=heap_setCell_same _ (w.heap.size+1) 3 _ _ (.int .i64 m.var) r3;have hc:=h.cown;rw[hk] at hc;refine⟨r4,⟨zAX (zAX (zAX (zAX (zAX h.vown h.mod (by decide) 1 _) r0 (by decide) 0 _) r1 (by decide) 1 _) r2 (by decide) 2 _) r3 (by decide) 3 _,((((hc.set h.mod 1 _).set r0 0 _).set r1 1 _).set r2 2 _).set r3 3 _,hnm⟩,?_⟩
 exact ((((h.bel.setCell (Nat.le_refl _) _).setCell (by simp) _).setCell (by simp) _).setCell (by simp) _).setCell (by simp) _
theorem zTD {w W5 X:World} {vs' cs o x1 x2 x4 x5 v1 v2 v5:Value} {m:Mod} {k C:Nat} {c:MCon} (hst:CpS w W5 vs' cs o m k) (hN:W5.heap[C]? = some (.cells #[.int .i64 c.kind,x1,x2,.int .i64 c.n,x4,x5] 69)) (hC:w.heap.size≤C) (hne:∀g,o.ownBlock=some g→g≠C) (hB:Below W5.heap.size W5 X)
 (o1:X.ownsRow w.heap.size 3 1 v1 c.vars.length (c.vars.map (Value.int .i64))) (o2:X.ownsRow w.heap.size 3 1 v2 c.consts.length (c.consts.map (Value.int .i64))) (o5:X.ownsRow w.heap.size 76 3 v5 c.lits.length (zBI c.lits)) :
 Hid ((((X.setCell ⟨C,1,none⟩ v1).setCell ⟨C,2,none⟩ v2).setCell ⟨C,5,none⟩ v5).heap[C]? = some (.cells #[.int .i64 c.kind,v1,v2,.int .i64 c.n,x4,v5] 69)∧CpS w (((X.setCell ⟨C,1,none⟩ v1).setCell ⟨C,2,none⟩ v2).setCell ⟨C,5,none⟩ v5) vs' cs o m k ∧
  (((X.setCell ⟨C,1,none⟩ v1).setCell ⟨C,2,none⟩ v2).setCell ⟨C,5,none⟩ v5).ownsRow w.heap.size 3 1 v1 c.vars.length (c.vars.map (Value.int .i64))∧(((X.setCell ⟨C,1,none⟩ v1).setCell ⟨C,2,none⟩ v2).setCell ⟨C,5,none⟩ v5).ownsRow w.heap.size 3 1 v2 c.consts.length (c.consts.map (Value.int .i64)) ∧
  (((X.setCell ⟨C,1,none⟩ v1).setCell ⟨C,2,none⟩ v2).setCell ⟨C,5,none⟩ v5).ownsRow w.heap.size 76 3 v5 c.lits.length (zBI c.lits)):=by
 have h0:=(hB.block _ (Array.getElem?_eq_some_iff.1 hN).1).trans hN;have h1:(X.setCell ⟨C,1,none⟩ v1).heap[C]? = some (.cells #[.int .i64 c.kind,v1,x2,.int .i64 c.n,x4,x5] 69):=heap_setCell_same X C 1 _ _ _ h0;have h2:((X.setCell ⟨C,1,none⟩ v1).setCell ⟨C,2,none⟩ v2).heap[C]? = some (.cells #[.int .i64 c.kind,v1,v2,.int .i64 c.n,x4,x5] 69):=heap_setCell_same _ C 2 _ _ _ h1;have h3:(((X.setCell ⟨C,1,none⟩ v1).setCell ⟨C,2,none⟩ v2).setCell ⟨C,5,none⟩ v5).heap[C]? = some (.cells #[.int .i64 c.kind,v1,v2,.int .i64 c.n,x4,v5] 69):=heap_setCell_same _ C 5 _ _ _ h2;have own:∀{T:TypeId} {sz n:Nat} {v:Value} {xs:List Value},X.ownsRow w.heap.size T sz v n xs→69≠T→(((X.setCell ⟨C,1,none⟩ v1).setCell ⟨C,2,none⟩ v2).setCell ⟨C,5,none⟩ v5).ownsRow w.heap.size T sz v n xs:=fun h hT=>zAX (zAX (zAX h h0 hT 1 _) h1 hT 2 _) h2 hT 5 _
 exact⟨h3,(((hst.below hB).set h0 hC hne 1 _).set h1 hC hne 2 _).set h2 hC hne 5 _,own o1 (by decide),own o2 (by decide),own o5 (by decide)⟩
theorem zNu (m:Mod) (hsz:SzM m) (vs cs:Value) (w:World) (hma:MArg w vs cs m) :
 Calls Tryz.prog 24 #[modV vs cs m] w fun e w'=>∃us ts,e=.returned (modV us ts m)∧ModR w.heap.size w' us ts m∧Below w.heap.size w w':=by
 have HMA:Hid (∀Y,Below w.heap.size w Y→MArg Y vs cs m):=fun Y hY=>MArg.below hY hma
 have HSZ:Hid (SzM m):=hsz;have HNM:Hid (∀x∈m.vars,x.name.size≤maxLen):=fun x hx=>by
  obtain⟨i,hi⟩:=List.mem_iff_getElem?.1 hx;obtain⟨_,_,_,_,hr⟩:=hma.1;exact (hr i x hi).1
 obtain⟨⟨a1,c1,rfl,hm1,_⟩,⟨a2,c2,rfl,hm2,_⟩⟩:=hma;unfold maxLen at hm1 hm2;obtain⟨hm11,hm12⟩:=hm1;obtain⟨hm21,hm22⟩:=hm2;obtain⟨iC,hiC,hzC0,hzC1,hzC2⟩:=info_parts Tryz.infoCon5;obtain⟨iR,hiR,hzR0,hzR1,hzR2⟩:=info_parts Tryz.infoInts6;unfold modV;clear hsz;go_enter Tryz.func24,Tryz.ntmps24
 go_wp2_with (at_builtin;refine zGz rfl _ _ rfl w.heap.size _ rfl ?c1 _ m.vars rfl ?c2 ?c3 ?c4 ?_)
 case c1=>exact zFm _ _ _ _ _ (by simp) (by omega)
 case c2=>exact (HMA.out _ (zAV (zAV (zAV (Below.refl _ _) _) _) _)).1
 case c3=>exact HSZ.out.1
 case c4=>simp;omega
 intro v3 w3 hown3 hb3;obtain⟨av,cv,hv3⟩:=zAC hown3;subst hv3;have HY:Hid (Below w.heap.size w w3∧w3.heap[w.heap.size]? = some (.cells #[.slice a1 m.vars.length c1,.slice a2 m.cons.length c2,.int .i64 m.goal,.int .i64 m.var] 25)∧w3.heap[w.heap.size+1]? = some (.cells #[.slice none 0 0,.slice none 0 0,.int .i64 0,.int .i64 0] 25)):=by
  have h0:Below w.heap.size w (((w.alloc (.cells #[.slice a1 m.vars.length c1,.slice a2 m.cons.length c2,.int .i64 m.goal,.int .i64 m.var] 25)).alloc (.cells #[.slice none 0 0,.slice none 0 0,.int .i64 0,.int .i64 0] 25)).alloc (.cells #[] 67)):=zAV (zAV (zAV (Below.refl _ _) _) _) _;have h1:((w.alloc (.cells #[.slice a1 m.vars.length c1,.slice a2 m.cons.length c2,.int .i64 m.goal,.int .i64 m.var] 25)).alloc (.cells #[.slice none 0 0,.slice none 0 0,.int .i64 0,.int .i64 0] 25)).heap[w.heap.size]? = some (.cells #[.slice a1 m.vars.length c1,.slice a2 m.cons.length c2,.int .i64 m.goal,.int .i64 m.var] 25):=((zAA _ _).block _ (by simp)).trans (heap_alloc_new _ _)
  have h2:=heap_alloc_new (w.alloc (.cells #[.slice a1 m.vars.length c1,.slice a2 m.cons.length c2,.int .i64 m.goal,.int .i64 m.var] 25)) (.cells #[.slice none 0 0,.slice none 0 0,.int .i64 0,.int .i64 0] 25);rw[show (w.alloc (.cells #[.slice a1 m.vars.length c1,.slice a2 m.cons.length c2,.int .i64 m.goal,.int .i64 m.var] 25)).heap.size=w.heap.size+1 by simp] at h2
  exact⟨h0.trans (hb3.mono (by omega)),(hb3.block _ (by omega)).trans (((zAA _ _).block _ (by simp;omega)).trans h1),(hb3.block _ (by omega)).trans (((zAA _ _).block _ (by simp)).trans h2)⟩
 have HO3:Hid (w3.ownsRow w.heap.size 67 3 (.slice av m.vars.length cv) m.vars.length (m.vars.flatMap varC)):=hown3;obtain⟨hy1,hy2,hy3⟩:=HY.out;have l0:=(Array.getElem?_eq_some_iff.1 hy2).1;have q0:w3.cell? ⟨w.heap.size,0,none⟩=some (.slice a1 m.vars.length c1):=blk9 hy2 0 _ rfl;have q1:w3.cell? ⟨w.heap.size,1,none⟩=some (.slice a2 m.cons.length c2):=blk9 hy2 1 _ rfl;have z0:w3.frozen? ⟨w.heap.size,0,none⟩=false:=frz9 hy2 0;have HS0:Hid (CpS w (w3.setCell ⟨w.heap.size,0,none⟩ (.slice av m.vars.length cv)) (.slice av m.vars.length cv) (.slice a2 m.cons.length c2) (.slice none 0 0) m 0):=by
  refine⟨hy1.setCell (Nat.le_refl _) _,heap_setCell_same w3 _ 0 _ _ _ hy2,(Below.heap_setCell _ _ _ _ (by simp)).trans hy3,zAX HO3.out hy2 (by decide) 0 _,LCr.none _ _⟩
 clear hown3 hb3 hy1 hy2 hy3;go_wp2_with fail
 go_loopw [3,4,5,6,7] (fun o i _ _ _ wr=>∃k:Nat,k≤m.cons.length∧i=.int .i64 k∧Hid (CpS w wr (.slice av m.vars.length cv) (.slice a2 m.cons.length c2) o m k)) (fun _ i _ _ _ _=>m.cons.length - (intOf i).toNat)
 case atStart=>exact⟨0,by omega,rfl,HS0⟩
 case round =>
  obtain⟨k,hk,rfl,hst⟩:=hrel;have HST:Hid (CpS w wr (.slice av m.vars.length cv) (.slice a2 m.cons.length c2) u3 m k):=hst;obtain⟨ao,co,hof⟩:=HST.out.cown.form;subst hof;have htk:(m.cons.take k).length=k:=by rw[List.length_take];omega
  rw[htk] at HST ⊢;have l0:=(Array.getElem?_eq_some_iff.1 HST.out.mod).1;have q1:wr.cell? ⟨w.heap.size,1,none⟩=some (.slice a2 m.cons.length c2):=blk9 HST.out.mod 1 _ rfl;clear hst htk;by_cases hlt:k<m.cons.length
  ·obtain⟨c,hc⟩:∃c,m.cons[k]? = some c:=⟨m.cons[k],by simp[hlt]⟩
   have HSC:Hid (c.vars.length * 8≤140737488355328∧c.consts.length * 8≤140737488355328∧c.rows.length * 24≤140737488355328∧c.lits.length * 24≤140737488355328∧∀r∈c.rows,r.length * 8≤140737488355328):=HSZ.out.2.2 c (List.mem_of_getElem? hc);have HTK:Hid (m.cons.take (k+1)=m.cons.take k++[c]):=by show _=_;rw[List.take_add_one,hc];rfl
   obtain⟨_,_,hs2,_,hr2⟩:=(HMA.out _ (Below.refl _ _)).2;cases hs2
   obtain⟨b,off,vv,vc,vr,vl,hb,hbl0,e0,e1,e2,e3,e4,e5,hka⟩:=hr2 k c hc;subst hb
   replace e0:=(HST.out.bel.cell (p:=⟨b,off+k * 6,none⟩) hbl0).trans e0
   replace e1:=(HST.out.bel.cell (p:=⟨b,off+k * 6+1,none⟩) hbl0).trans e1
   replace e2:=(HST.out.bel.cell (p:=⟨b,off+k * 6+2,none⟩) hbl0).trans e2
   replace e3:=(HST.out.bel.cell (p:=⟨b,off+k * 6+3,none⟩) hbl0).trans e3
   replace e4:=(HST.out.bel.cell (p:=⟨b,off+k * 6+4,none⟩) hbl0).trans e4
   replace e5:=(HST.out.bel.cell (p:=⟨b,off+k * 6+5,none⟩) hbl0).trans e5
   have hbl:=Nat.lt_of_lt_of_le hbl0 HST.out.bel.size;have HKA:Hid (KArg wr vv vc vr vl c):=KArg.below HST.out.bel hka;have HK0:Hid (∀Y,Below w.heap.size w Y→RArg Y vr c.rows):=fun Y hY=>RArg.below hY hka.2.2.1
   obtain⟨⟨b1,d1,rfl,_,_⟩,⟨b2,d2,rfl,_,_⟩,⟨b4,d4,rfl,⟨hm41,hm42⟩,_⟩,⟨b5,d5,rfl,_,_⟩⟩:=hka;unfold maxLen at hm42;clear hr2 hc hbl0;go_upto_region 7 with (fail)
   have HST5:Hid (CpS w (wr.alloc (.cells #[.int .i64 c.kind,.slice b1 c.vars.length d1,.slice b2 c.consts.length d2,.int .i64 c.n,.slice b4 c.rows.length d4,.slice b5 c.lits.length d5] 69)) (.slice av m.vars.length cv) (.slice (some ⟨b,off,none⟩) m.cons.length c2) (.slice ao k co) m k):=HST.out.below (zAA _ _);have HN5:Hid ((wr.alloc (.cells #[.int .i64 c.kind,.slice b1 c.vars.length d1,.slice b2 c.consts.length d2,.int .i64 c.n,.slice b4 c.rows.length d4,.slice b5 c.lits.length d5] 69)).heap[wr.heap.size]? = some (.cells #[.int .i64 c.kind,.slice b1 c.vars.length d1,.slice b2 c.consts.length d2,.int .i64 c.n,.slice b4 c.rows.length d4,.slice b5 c.lits.length d5] 69)):=heap_alloc_new _ _;have HK5:Hid (KArg (wr.alloc (.cells #[.int .i64 c.kind,.slice b1 c.vars.length d1,.slice b2 c.consts.length d2,.int .i64 c.n,.slice b4 c.rows.length d4,.slice b5 c.lits.length d5] 69)) (.slice b1 c.vars.length d1) (.slice b2 c.consts.length d2) (.slice b4 c.rows.length d4) (.slice b5 c.lits.length d5) c):=KArg.below (zAA _ _) HKA.out;obtain⟨W5,hW5⟩:∃W5,wr.alloc (.cells #[.int .i64 c.kind,.slice b1 c.vars.length d1,.slice b2 c.consts.length d2,.int .i64 c.n,.slice b4 c.rows.length d4,.slice b5 c.lits.length d5] 69)=W5:=⟨_,rfl⟩;have hle:w.heap.size≤wr.heap.size:=HST.out.bel.size;have HCO:Hid (∀g,(Value.slice ao k co).ownBlock=some g→g≠wr.heap.size):=fun g hg=>by
    obtain⟨cells,h1,_⟩:=HST.out.cown;have:=(h1.lt g hg).2;omega
   have hsz5:W5.heap.size=wr.heap.size+1:=by rw[←hW5];simp
   rw[hW5] at HST5 HN5 HK5 ⊢;obtain⟨C,hC⟩:∃C,wr.heap.size=C:=⟨_,rfl⟩;rw[hC] at HN5 HCO hle hsz5 ⊢;clear hW5 hC HST HKA e0 e1 e2 e3 e4 e5 hbl q1 l0;have hl5:C<W5.heap.size:=by omega
   have HSZ5:Hid (W5.heap.size=C+1):=hsz5;have hle5:w.heap.size≤W5.heap.size:=by omega
   clear hsz5;have HQ:Hid (∀Y,Below W5.heap.size W5 Y→C<Y.heap.size∧Y.cell? ⟨C,1,none⟩=some (.slice b1 c.vars.length d1)∧Y.cell? ⟨C,2,none⟩=some (.slice b2 c.consts.length d2)∧Y.cell? ⟨C,5,none⟩=some (.slice b5 c.lits.length d5)∧Y.frozen? ⟨C,1,none⟩=false∧Y.frozen? ⟨C,2,none⟩=false∧Y.frozen? ⟨C,5,none⟩=false):=fun Y hY=>by
    have h:=(hY.block _ (Array.getElem?_eq_some_iff.1 HN5.out).1).trans HN5.out;exact⟨(Array.getElem?_eq_some_iff.1 h).1,blk9 h 1 _ rfl,blk9 h 2 _ rfl,blk9 h 5 _ rfl,frz9 h 1,frz9 h 2,frz9 h 5⟩
   have HK5:Hid (∀Y,Below W5.heap.size W5 Y→KArg Y (.slice b1 c.vars.length d1) (.slice b2 c.consts.length d2) (.slice b4 c.rows.length d4) (.slice b5 c.lits.length d5) c):=fun Y hY=>KArg.below hY HK5.out
   go_cut [] (fun wx=>∃v1 v2 v5,Hid (wx.heap[C]? = some (.cells #[.int .i64 c.kind,v1,v2,.int .i64 c.n,.slice b4 c.rows.length d4,v5] 69)∧CpS w wx (.slice av m.vars.length cv) (.slice (some ⟨b,off,none⟩) m.cons.length c2) (.slice ao k co) m k∧wx.ownsRow w.heap.size 3 1 v1 c.vars.length (c.vars.map (Value.int .i64))∧wx.ownsRow w.heap.size 3 1 v2 c.consts.length (c.consts.map (Value.int .i64))∧wx.ownsRow w.heap.size 76 3 v5 c.lits.length (zBI c.lits)))
   case first =>
    obtain⟨lC,f1,f2,f5,z1,z2,z5⟩:=HQ.out _ (Below.refl _ _);have hD:Below W5.heap.size W5 W5.drew:=(Below.refl _ _).drew;refine zLh (L:=[3,7,11]) (S:=fun Y=>Below W5.heap.size W5 Y) (by kernel_rfl) ?_
    refine zAi (i:=1) (v:=?v1) rfl (by kernel_rfl) (by kernel_rfl) (by kernel_rfl) (by rfl) (fun _ _ _ h=>h) (Or.inl ⟨by rfl,?y1⟩) (fun _=>hD) ?r1
    case y1=>intro wq _;go_simp;with_reducible rfl
    refine zFL (i:=2) (s:=3) (v:=?v2) rfl (by kernel_rfl) (by kernel_rfl) (by kernel_rfl) rfl (by rfl) (by kernel_rfl) (by rfl) (by kernel_rfl) (fun _ _ _ h=>h) (Or.inl ⟨by rfl,?y2⟩) hD ?r2
    case y2=>intro wq hSw;obtain⟨lC,f1,f2,f5,_⟩:=HQ.out _ hSw;go_simp;with_reducible rfl
    refine zAi (i:=5) (v:=?v5) rfl (by kernel_rfl) (by kernel_rfl) (by kernel_rfl) (by rfl) (fun _ _ _ h=>h) (Or.inl ⟨by rfl,?y5⟩) (fun _=>hD) ?r5
    case y5=>intro wq _;go_simp;with_reducible rfl
    refine zFL (i:=6) (s:=7) (v:=?v6) rfl (by kernel_rfl) (by kernel_rfl) (by kernel_rfl) rfl (by rfl) (by kernel_rfl) (by rfl) (by kernel_rfl) (fun _ _ _ h=>h) (Or.inl ⟨by rfl,?y6⟩) hD ?r6
    case y6=>intro wq hSw;obtain⟨lC,f1,f2,f5,_⟩:=HQ.out _ hSw;go_simp;with_reducible rfl
    refine zAi (i:=9) (v:=?v9) rfl (by kernel_rfl) (by kernel_rfl) (by kernel_rfl) (by rfl) (fun _ _ _ h=>h) (Or.inl ⟨by rfl,?y9⟩) (fun _=>hD) ?r9
    case y9=>intro wq _;go_simp;with_reducible rfl
    refine zFL (i:=10) (s:=11) (v:=?v10) rfl (by kernel_rfl) (by kernel_rfl) (by kernel_rfl) rfl (by rfl) (by kernel_rfl) (by rfl) (by kernel_rfl) (fun _ _ _ h=>h) (Or.inl ⟨by rfl,?y10⟩) hD ?r10
    case y10=>intro wq hSw;obtain⟨lC,f1,f2,f5,_⟩:=HQ.out _ hSw;go_simp;with_reducible rfl
    have hB:=hD;obtain⟨X0,hX0⟩:∃X,W5.drew=X:=⟨_,rfl⟩;rw[hX0] at hB ⊢;clear hX0 hD;refine zAF (rs:=[0,4,8]) (by kernel_rfl) (by simp) (AllT.cons rfl (fun K hK=>?_) (AllT.cons rfl (fun K hK=>?_) (AllT.cons rfl (fun K hK=>?_) AllT.nil)))
    go_simp
    refine hK.out _ _ (fun _=>zAV hB _) ?_
    obtain⟨X1,b1,hB,e1,hY⟩:=zA5 hB hle5 3 1;rw[hY];clear hK K hY;refine zAF (rs:=[3,4,8]) (by kernel_rfl) (by simp) (AllT.cons rfl (fun K hK=>?_) (AllT.cons rfl (fun K hK=>?_) (AllT.cons rfl (fun K hK=>?_) AllT.nil)))
    rw[if_pos (by rfl)]
    refine zAM _ _ rfl w.heap.size _ rfl e1 _ c.vars rfl (HK5.out _ hB).1 HSC.out.1 (Nat.le_trans hle5 hB.size) ?_;intro v1 X2 o1 b2;obtain⟨p1,r1,rfl⟩:=zAC o1
    replace hB:=hB.trans (b2.mono hB.size)
    try go_simp
    refine hK.out _ _ (fun _=>hB) ?_;clear hK K
    refine zAi (i:=12) (v:=?vz1) rfl (by kernel_rfl) (by kernel_rfl) (by kernel_rfl) (by rfl) (fun _ _ _ h=>h) (Or.inl ⟨by rfl,?yz1⟩) (fun _=>hB) ?rz1
    case yz1=>intro wq _;go_simp;with_reducible rfl
    refine zAF (rs:=[4,8]) (by kernel_rfl) (by simp) (AllT.cons rfl (fun K hK=>?_) (AllT.cons rfl (fun K hK=>?_) AllT.nil))
    go_simp
    refine hK.out _ _ (fun _=>zAV hB _) ?_
    obtain⟨X3,b3,hB,e2,hY⟩:=zA5 hB hle5 3 1;rw[hY];clear hK K hY;refine zAF (rs:=[7,8]) (by kernel_rfl) (by simp) (AllT.cons rfl (fun K hK=>?_) (AllT.cons rfl (fun K hK=>?_) AllT.nil))
    rw[if_pos (by rfl)]
    refine zAM _ _ rfl w.heap.size _ rfl e2 _ c.consts rfl (HK5.out _ hB).2.1 HSC.out.2.1 (Nat.le_trans hle5 hB.size) ?_;intro v2 X4 o2 b4;obtain⟨p2,r2,rfl⟩:=zAC o2
    replace hB:=hB.trans (b4.mono hB.size)
    try go_simp
    refine hK.out _ _ (fun _=>hB) ?_;clear hK K
    refine zAF (rs:=[8]) (by kernel_rfl) (by simp) (AllT.cons rfl (fun K hK=>?_) AllT.nil)
    go_simp
    refine hK.out _ _ (fun _=>zAV hB _) ?_
    obtain⟨X5,b5,hB,e5,hY⟩:=zA5 hB hle5 76 3;rw[hY];clear hK K hY;refine zAF (rs:=[11]) (by kernel_rfl) (by simp) (AllT.cons rfl (fun K hK=>?_) AllT.nil)
    rw[if_pos (by rfl)]
    refine zAn _ _ rfl w.heap.size _ rfl e5 _ c.lits rfl (HK5.out _ hB).2.2.2 HSC.out.2.2.2.1 (Nat.le_trans hle5 hB.size) ?_;intro v5 X6 o5 b6;obtain⟨p5,r5,rfl⟩:=zAC o5
    replace hB:=hB.trans (b6.mono hB.size)
    try go_simp
    refine hK.out _ _ (fun _=>hB) ?_;clear hK K
    replace o1:=(zAB (zAB (zAB (zAB o1 b3) b4) b5) b6)
    replace o2:=(zAB (zAB o2 b5) b6)
    rotate_left
    go_simp
    refine hK.out _ _ (fun _=>zAV hB _) ?_
    obtain⟨X4,b4,hB,e5,hY⟩:=zA5 hB hle5 76 3;rw[hY];clear hK K hY;refine zAF (rs:=[7]) (by kernel_rfl) (by simp) (AllT.cons rfl (fun K hK=>?_) AllT.nil)
    rw[if_pos (by rfl)]
    refine zAM _ _ rfl w.heap.size _ rfl (zAB e2 b4) _ c.consts rfl (HK5.out _ hB).2.1 HSC.out.2.1 (Nat.le_trans hle5 hB.size) ?_;intro v2 X5 o2 b5;obtain⟨p2,r2,rfl⟩:=zAC o2
    replace hB:=hB.trans (b5.mono hB.size)
    try go_simp
    refine hK.out _ _ (fun _=>hB) ?_;clear hK K
    refine zAF (rs:=[11]) (by kernel_rfl) (by simp) (AllT.cons rfl (fun K hK=>?_) AllT.nil)
    rw[if_pos (by rfl)]
    refine zAn _ _ rfl w.heap.size _ rfl (zAB e5 b5) _ c.lits rfl (HK5.out _ hB).2.2.2 HSC.out.2.2.2.1 (Nat.le_trans hle5 hB.size) ?_;intro v5 X6 o5 b6;obtain⟨p5,r5,rfl⟩:=zAC o5
    replace hB:=hB.trans (b6.mono hB.size)
    try go_simp
    refine hK.out _ _ (fun _=>hB) ?_;clear hK K
    replace o1:=(zAB (zAB (zAB (zAB o1 b3) b4) b5) b6)
    replace o2:=(zAB o2 b6)
    rotate_left
    go_simp
    refine hK.out _ _ (fun _=>zAV hB _) ?_
    obtain⟨X3,b3,hB,e5,hY⟩:=zA5 hB hle5 76 3;rw[hY];clear hK K hY;refine zAF (rs:=[4]) (by kernel_rfl) (by simp) (AllT.cons rfl (fun K hK=>?_) AllT.nil)
    go_simp
    refine hK.out _ _ (fun _=>zAV hB _) ?_
    obtain⟨X4,b4,hB,e2,hY⟩:=zA5 hB hle5 3 1;rw[hY];clear hK K hY;refine zAF (rs:=[7]) (by kernel_rfl) (by simp) (AllT.cons rfl (fun K hK=>?_) AllT.nil)
    rw[if_pos (by rfl)]
    refine zAM _ _ rfl w.heap.size _ rfl e2 _ c.consts rfl (HK5.out _ hB).2.1 HSC.out.2.1 (Nat.le_trans hle5 hB.size) ?_;intro v2 X5 o2 b5;obtain⟨p2,r2,rfl⟩:=zAC o2
    replace hB:=hB.trans (b5.mono hB.size)
    try go_simp
    refine hK.out _ _ (fun _=>hB) ?_;clear hK K
    refine zAF (rs:=[11]) (by kernel_rfl) (by simp) (AllT.cons rfl (fun K hK=>?_) AllT.nil)
    rw[if_pos (by rfl)]
    refine zAn _ _ rfl w.heap.size _ rfl (zAB (zAB e5 b4) b5) _ c.lits rfl (HK5.out _ hB).2.2.2 HSC.out.2.2.2.1 (Nat.le_trans hle5 hB.size) ?_;intro v5 X6 o5 b6;obtain⟨p5,r5,rfl⟩:=zAC o5
    replace hB:=hB.trans (b6.mono hB.size)
    try go_simp
    refine hK.out _ _ (fun _=>hB) ?_;clear hK K
    replace o1:=(zAB (zAB (zAB (zAB o1 b3) b4) b5) b6)
    replace o2:=(zAB o2 b6)
    rotate_left
    go_simp
    refine hK.out _ _ (fun _=>zAV hB _) ?_
    obtain⟨X2,b2,hB,e2,hY⟩:=zA5 hB hle5 3 1;rw[hY];clear hK K hY;refine zAF (rs:=[3,8]) (by kernel_rfl) (by simp) (AllT.cons rfl (fun K hK=>?_) (AllT.cons rfl (fun K hK=>?_) AllT.nil))
    rw[if_pos (by rfl)]
    refine zAM _ _ rfl w.heap.size _ rfl (zAB e1 b2) _ c.vars rfl (HK5.out _ hB).1 HSC.out.1 (Nat.le_trans hle5 hB.size) ?_;intro v1 X3 o1 b3;obtain⟨p1,r1,rfl⟩:=zAC o1
    replace hB:=hB.trans (b3.mono hB.size)
    try go_simp
    refine hK.out _ _ (fun _=>hB) ?_;clear hK K
    refine zAi (i:=12) (v:=?vz2) rfl (by kernel_rfl) (by kernel_rfl) (by kernel_rfl) (by rfl) (fun _ _ _ h=>h) (Or.inl ⟨by rfl,?yz2⟩) (fun _=>hB) ?rz2
    case yz2=>intro wq _;go_simp;with_reducible rfl
    refine zAF (rs:=[7,8]) (by kernel_rfl) (by simp) (AllT.cons rfl (fun K hK=>?_) (AllT.cons rfl (fun K hK=>?_) AllT.nil))
    rw[if_pos (by rfl)]
    refine zAM _ _ rfl w.heap.size _ rfl (zAB e2 b3) _ c.consts rfl (HK5.out _ hB).2.1 HSC.out.2.1 (Nat.le_trans hle5 hB.size) ?_;intro v2 X4 o2 b4;obtain⟨p2,r2,rfl⟩:=zAC o2
    replace hB:=hB.trans (b4.mono hB.size)
    try go_simp
    refine hK.out _ _ (fun _=>hB) ?_;clear hK K
    refine zAF (rs:=[8]) (by kernel_rfl) (by simp) (AllT.cons rfl (fun K hK=>?_) AllT.nil)
    go_simp
    refine hK.out _ _ (fun _=>zAV hB _) ?_
    obtain⟨X5,b5,hB,e5,hY⟩:=zA5 hB hle5 76 3;rw[hY];clear hK K hY;refine zAF (rs:=[11]) (by kernel_rfl) (by simp) (AllT.cons rfl (fun K hK=>?_) AllT.nil)
    rw[if_pos (by rfl)]
    refine zAn _ _ rfl w.heap.size _ rfl e5 _ c.lits rfl (HK5.out _ hB).2.2.2 HSC.out.2.2.2.1 (Nat.le_trans hle5 hB.size) ?_;intro v5 X6 o5 b6;obtain⟨p5,r5,rfl⟩:=zAC o5
    replace hB:=hB.trans (b6.mono hB.size)
    try go_simp
    refine hK.out _ _ (fun _=>hB) ?_;clear hK K
    replace o1:=(zAB (zAB (zAB o1 b4) b5) b6)
    replace o2:=(zAB (zAB o2 b5) b6)
    rotate_left
    go_simp
    refine hK.out _ _ (fun _=>zAV hB _) ?_
    obtain⟨X4,b4,hB,e5,hY⟩:=zA5 hB hle5 76 3;rw[hY];clear hK K hY;refine zAF (rs:=[7]) (by kernel_rfl) (by simp) (AllT.cons rfl (fun K hK=>?_) AllT.nil)
    rw[if_pos (by rfl)]
    refine zAM _ _ rfl w.heap.size _ rfl (zAB (zAB e2 b3) b4) _ c.consts rfl (HK5.out _ hB).2.1 HSC.out.2.1 (Nat.le_trans hle5 hB.size) ?_;intro v2 X5 o2 b5;obtain⟨p2,r2,rfl⟩:=zAC o2
    replace hB:=hB.trans (b5.mono hB.size)
    try go_simp
    refine hK.out _ _ (fun _=>hB) ?_;clear hK K
    refine zAF (rs:=[11]) (by kernel_rfl) (by simp) (AllT.cons rfl (fun K hK=>?_) AllT.nil)
    rw[if_pos (by rfl)]
    refine zAn _ _ rfl w.heap.size _ rfl (zAB e5 b5) _ c.lits rfl (HK5.out _ hB).2.2.2 HSC.out.2.2.2.1 (Nat.le_trans hle5 hB.size) ?_;intro v5 X6 o5 b6;obtain⟨p5,r5,rfl⟩:=zAC o5
    replace hB:=hB.trans (b6.mono hB.size)
    try go_simp
    refine hK.out _ _ (fun _=>hB) ?_;clear hK K
    replace o1:=(zAB (zAB (zAB o1 b4) b5) b6)
    replace o2:=(zAB o2 b6)
    rotate_left
    go_simp
    refine hK.out _ _ (fun _=>zAV hB _) ?_
    obtain⟨X3,b3,hB,e5,hY⟩:=zA5 hB hle5 76 3;rw[hY];clear hK K hY;refine zAF (rs:=[3]) (by kernel_rfl) (by simp) (AllT.cons rfl (fun K hK=>?_) AllT.nil)
    rw[if_pos (by rfl)]
    refine zAM _ _ rfl w.heap.size _ rfl (zAB (zAB e1 b2) b3) _ c.vars rfl (HK5.out _ hB).1 HSC.out.1 (Nat.le_trans hle5 hB.size) ?_;intro v1 X4 o1 b4;obtain⟨p1,r1,rfl⟩:=zAC o1
    replace hB:=hB.trans (b4.mono hB.size)
    try go_simp
    refine hK.out _ _ (fun _=>hB) ?_;clear hK K
    refine zAi (i:=12) (v:=?vz3) rfl (by kernel_rfl) (by kernel_rfl) (by kernel_rfl) (by rfl) (fun _ _ _ h=>h) (Or.inl ⟨by rfl,?yz3⟩) (fun _=>hB) ?rz3
    case yz3=>intro wq _;go_simp;with_reducible rfl
    refine zAF (rs:=[7]) (by kernel_rfl) (by simp) (AllT.cons rfl (fun K hK=>?_) AllT.nil)
    rw[if_pos (by rfl)]
    refine zAM _ _ rfl w.heap.size _ rfl (zAB (zAB e2 b3) b4) _ c.consts rfl (HK5.out _ hB).2.1 HSC.out.2.1 (Nat.le_trans hle5 hB.size) ?_;intro v2 X5 o2 b5;obtain⟨p2,r2,rfl⟩:=zAC o2
    replace hB:=hB.trans (b5.mono hB.size)
    try go_simp
    refine hK.out _ _ (fun _=>hB) ?_;clear hK K
    refine zAF (rs:=[11]) (by kernel_rfl) (by simp) (AllT.cons rfl (fun K hK=>?_) AllT.nil)
    rw[if_pos (by rfl)]
    refine zAn _ _ rfl w.heap.size _ rfl (zAB (zAB e5 b4) b5) _ c.lits rfl (HK5.out _ hB).2.2.2 HSC.out.2.2.2.1 (Nat.le_trans hle5 hB.size) ?_;intro v5 X6 o5 b6;obtain⟨p5,r5,rfl⟩:=zAC o5
    replace hB:=hB.trans (b6.mono hB.size)
    try go_simp
    refine hK.out _ _ (fun _=>hB) ?_;clear hK K
    replace o1:=(zAB (zAB o1 b5) b6)
    replace o2:=(zAB o2 b6)
    rotate_left
    go_simp
    refine hK.out _ _ (fun _=>zAV hB _) ?_
    obtain⟨X2,b2,hB,e5,hY⟩:=zA5 hB hle5 76 3;rw[hY];clear hK K hY;refine zAF (rs:=[3,4]) (by kernel_rfl) (by simp) (AllT.cons rfl (fun K hK=>?_) (AllT.cons rfl (fun K hK=>?_) AllT.nil))
    rw[if_pos (by rfl)]
    refine zAM _ _ rfl w.heap.size _ rfl (zAB e1 b2) _ c.vars rfl (HK5.out _ hB).1 HSC.out.1 (Nat.le_trans hle5 hB.size) ?_;intro v1 X3 o1 b3;obtain⟨p1,r1,rfl⟩:=zAC o1
    replace hB:=hB.trans (b3.mono hB.size)
    try go_simp
    refine hK.out _ _ (fun _=>hB) ?_;clear hK K
    refine zAi (i:=12) (v:=?vz4) rfl (by kernel_rfl) (by kernel_rfl) (by kernel_rfl) (by rfl) (fun _ _ _ h=>h) (Or.inl ⟨by rfl,?yz4⟩) (fun _=>hB) ?rz4
    case yz4=>intro wq _;go_simp;with_reducible rfl
    refine zAF (rs:=[4]) (by kernel_rfl) (by simp) (AllT.cons rfl (fun K hK=>?_) AllT.nil)
    go_simp
    refine hK.out _ _ (fun _=>zAV hB _) ?_
    obtain⟨X4,b4,hB,e2,hY⟩:=zA5 hB hle5 3 1;rw[hY];clear hK K hY;refine zAF (rs:=[7]) (by kernel_rfl) (by simp) (AllT.cons rfl (fun K hK=>?_) AllT.nil)
    rw[if_pos (by rfl)]
    refine zAM _ _ rfl w.heap.size _ rfl e2 _ c.consts rfl (HK5.out _ hB).2.1 HSC.out.2.1 (Nat.le_trans hle5 hB.size) ?_;intro v2 X5 o2 b5;obtain⟨p2,r2,rfl⟩:=zAC o2
    replace hB:=hB.trans (b5.mono hB.size)
    try go_simp
    refine hK.out _ _ (fun _=>hB) ?_;clear hK K
    refine zAF (rs:=[11]) (by kernel_rfl) (by simp) (AllT.cons rfl (fun K hK=>?_) AllT.nil)
    rw[if_pos (by rfl)]
    refine zAn _ _ rfl w.heap.size _ rfl (zAB (zAB (zAB e5 b3) b4) b5) _ c.lits rfl (HK5.out _ hB).2.2.2 HSC.out.2.2.2.1 (Nat.le_trans hle5 hB.size) ?_;intro v5 X6 o5 b6;obtain⟨p5,r5,rfl⟩:=zAC o5
    replace hB:=hB.trans (b6.mono hB.size)
    try go_simp
    refine hK.out _ _ (fun _=>hB) ?_;clear hK K
    replace o1:=(zAB (zAB (zAB o1 b4) b5) b6)
    replace o2:=(zAB o2 b6)
    rotate_left
    go_simp
    refine hK.out _ _ (fun _=>zAV hB _) ?_
    obtain⟨X3,b3,hB,e2,hY⟩:=zA5 hB hle5 3 1;rw[hY];clear hK K hY;refine zAF (rs:=[3]) (by kernel_rfl) (by simp) (AllT.cons rfl (fun K hK=>?_) AllT.nil)
    rw[if_pos (by rfl)]
    refine zAM _ _ rfl w.heap.size _ rfl (zAB (zAB e1 b2) b3) _ c.vars rfl (HK5.out _ hB).1 HSC.out.1 (Nat.le_trans hle5 hB.size) ?_;intro v1 X4 o1 b4;obtain⟨p1,r1,rfl⟩:=zAC o1
    replace hB:=hB.trans (b4.mono hB.size)
    try go_simp
    refine hK.out _ _ (fun _=>hB) ?_;clear hK K
    refine zAi (i:=12) (v:=?vz5) rfl (by kernel_rfl) (by kernel_rfl) (by kernel_rfl) (by rfl) (fun _ _ _ h=>h) (Or.inl ⟨by rfl,?yz5⟩) (fun _=>hB) ?rz5
    case yz5=>intro wq _;go_simp;with_reducible rfl
    refine zAF (rs:=[7]) (by kernel_rfl) (by simp) (AllT.cons rfl (fun K hK=>?_) AllT.nil)
    rw[if_pos (by rfl)]
    refine zAM _ _ rfl w.heap.size _ rfl (zAB e2 b4) _ c.consts rfl (HK5.out _ hB).2.1 HSC.out.2.1 (Nat.le_trans hle5 hB.size) ?_;intro v2 X5 o2 b5;obtain⟨p2,r2,rfl⟩:=zAC o2
    replace hB:=hB.trans (b5.mono hB.size)
    try go_simp
    refine hK.out _ _ (fun _=>hB) ?_;clear hK K
    refine zAF (rs:=[11]) (by kernel_rfl) (by simp) (AllT.cons rfl (fun K hK=>?_) AllT.nil)
    rw[if_pos (by rfl)]
    refine zAn _ _ rfl w.heap.size _ rfl (zAB (zAB (zAB e5 b3) b4) b5) _ c.lits rfl (HK5.out _ hB).2.2.2 HSC.out.2.2.2.1 (Nat.le_trans hle5 hB.size) ?_;intro v5 X6 o5 b6;obtain⟨p5,r5,rfl⟩:=zAC o5
    replace hB:=hB.trans (b6.mono hB.size)
    try go_simp
    refine hK.out _ _ (fun _=>hB) ?_;clear hK K
    replace o1:=(zAB (zAB o1 b5) b6)
    replace o2:=(zAB o2 b6)
    rotate_left
    go_simp
    refine hK.out _ _ (fun _=>zAV hB _) ?_
    obtain⟨X1,b1,hB,e2,hY⟩:=zA5 hB hle5 3 1;rw[hY];clear hK K hY;refine zAF (rs:=[0,8]) (by kernel_rfl) (by simp) (AllT.cons rfl (fun K hK=>?_) (AllT.cons rfl (fun K hK=>?_) AllT.nil))
    go_simp
    refine hK.out _ _ (fun _=>zAV hB _) ?_
    obtain⟨X2,b2,hB,e1,hY⟩:=zA5 hB hle5 3 1;rw[hY];clear hK K hY;refine zAF (rs:=[3,8]) (by kernel_rfl) (by simp) (AllT.cons rfl (fun K hK=>?_) (AllT.cons rfl (fun K hK=>?_) AllT.nil))
    rw[if_pos (by rfl)]
    refine zAM _ _ rfl w.heap.size _ rfl e1 _ c.vars rfl (HK5.out _ hB).1 HSC.out.1 (Nat.le_trans hle5 hB.size) ?_;intro v1 X3 o1 b3;obtain⟨p1,r1,rfl⟩:=zAC o1
    replace hB:=hB.trans (b3.mono hB.size)
    try go_simp
    refine hK.out _ _ (fun _=>hB) ?_;clear hK K
    refine zAi (i:=12) (v:=?vz6) rfl (by kernel_rfl) (by kernel_rfl) (by kernel_rfl) (by rfl) (fun _ _ _ h=>h) (Or.inl ⟨by rfl,?yz6⟩) (fun _=>hB) ?rz6
    case yz6=>intro wq _;go_simp;with_reducible rfl
    refine zAF (rs:=[7,8]) (by kernel_rfl) (by simp) (AllT.cons rfl (fun K hK=>?_) (AllT.cons rfl (fun K hK=>?_) AllT.nil))
    rw[if_pos (by rfl)]
    refine zAM _ _ rfl w.heap.size _ rfl (zAB (zAB e2 b2) b3) _ c.consts rfl (HK5.out _ hB).2.1 HSC.out.2.1 (Nat.le_trans hle5 hB.size) ?_;intro v2 X4 o2 b4;obtain⟨p2,r2,rfl⟩:=zAC o2
    replace hB:=hB.trans (b4.mono hB.size)
    try go_simp
    refine hK.out _ _ (fun _=>hB) ?_;clear hK K
    refine zAF (rs:=[8]) (by kernel_rfl) (by simp) (AllT.cons rfl (fun K hK=>?_) AllT.nil)
    go_simp
    refine hK.out _ _ (fun _=>zAV hB _) ?_
    obtain⟨X5,b5,hB,e5,hY⟩:=zA5 hB hle5 76 3;rw[hY];clear hK K hY;refine zAF (rs:=[11]) (by kernel_rfl) (by simp) (AllT.cons rfl (fun K hK=>?_) AllT.nil)
    rw[if_pos (by rfl)]
    refine zAn _ _ rfl w.heap.size _ rfl e5 _ c.lits rfl (HK5.out _ hB).2.2.2 HSC.out.2.2.2.1 (Nat.le_trans hle5 hB.size) ?_;intro v5 X6 o5 b6;obtain⟨p5,r5,rfl⟩:=zAC o5
    replace hB:=hB.trans (b6.mono hB.size)
    try go_simp
    refine hK.out _ _ (fun _=>hB) ?_;clear hK K
    replace o1:=(zAB (zAB (zAB o1 b4) b5) b6)
    replace o2:=(zAB (zAB o2 b5) b6)
    rotate_left
    go_simp
    refine hK.out _ _ (fun _=>zAV hB _) ?_
    obtain⟨X4,b4,hB,e5,hY⟩:=zA5 hB hle5 76 3;rw[hY];clear hK K hY;refine zAF (rs:=[7]) (by kernel_rfl) (by simp) (AllT.cons rfl (fun K hK=>?_) AllT.nil)
    rw[if_pos (by rfl)]
    refine zAM _ _ rfl w.heap.size _ rfl (zAB (zAB (zAB e2 b2) b3) b4) _ c.consts rfl (HK5.out _ hB).2.1 HSC.out.2.1 (Nat.le_trans hle5 hB.size) ?_;intro v2 X5 o2 b5;obtain⟨p2,r2,rfl⟩:=zAC o2
    replace hB:=hB.trans (b5.mono hB.size)
    try go_simp
    refine hK.out _ _ (fun _=>hB) ?_;clear hK K
    refine zAF (rs:=[11]) (by kernel_rfl) (by simp) (AllT.cons rfl (fun K hK=>?_) AllT.nil)
    rw[if_pos (by rfl)]
    refine zAn _ _ rfl w.heap.size _ rfl (zAB e5 b5) _ c.lits rfl (HK5.out _ hB).2.2.2 HSC.out.2.2.2.1 (Nat.le_trans hle5 hB.size) ?_;intro v5 X6 o5 b6;obtain⟨p5,r5,rfl⟩:=zAC o5
    replace hB:=hB.trans (b6.mono hB.size)
    try go_simp
    refine hK.out _ _ (fun _=>hB) ?_;clear hK K
    replace o1:=(zAB (zAB (zAB o1 b4) b5) b6)
    replace o2:=(zAB o2 b6)
    rotate_left
    go_simp
    refine hK.out _ _ (fun _=>zAV hB _) ?_
    obtain⟨X3,b3,hB,e5,hY⟩:=zA5 hB hle5 76 3;rw[hY];clear hK K hY;refine zAF (rs:=[3]) (by kernel_rfl) (by simp) (AllT.cons rfl (fun K hK=>?_) AllT.nil)
    rw[if_pos (by rfl)]
    refine zAM _ _ rfl w.heap.size _ rfl (zAB e1 b3) _ c.vars rfl (HK5.out _ hB).1 HSC.out.1 (Nat.le_trans hle5 hB.size) ?_;intro v1 X4 o1 b4;obtain⟨p1,r1,rfl⟩:=zAC o1
    replace hB:=hB.trans (b4.mono hB.size)
    try go_simp
    refine hK.out _ _ (fun _=>hB) ?_;clear hK K
    refine zAi (i:=12) (v:=?vz7) rfl (by kernel_rfl) (by kernel_rfl) (by kernel_rfl) (by rfl) (fun _ _ _ h=>h) (Or.inl ⟨by rfl,?yz7⟩) (fun _=>hB) ?rz7
    case yz7=>intro wq _;go_simp;with_reducible rfl
    refine zAF (rs:=[7]) (by kernel_rfl) (by simp) (AllT.cons rfl (fun K hK=>?_) AllT.nil)
    rw[if_pos (by rfl)]
    refine zAM _ _ rfl w.heap.size _ rfl (zAB (zAB (zAB e2 b2) b3) b4) _ c.consts rfl (HK5.out _ hB).2.1 HSC.out.2.1 (Nat.le_trans hle5 hB.size) ?_;intro v2 X5 o2 b5;obtain⟨p2,r2,rfl⟩:=zAC o2
    replace hB:=hB.trans (b5.mono hB.size)
    try go_simp
    refine hK.out _ _ (fun _=>hB) ?_;clear hK K
    refine zAF (rs:=[11]) (by kernel_rfl) (by simp) (AllT.cons rfl (fun K hK=>?_) AllT.nil)
    rw[if_pos (by rfl)]
    refine zAn _ _ rfl w.heap.size _ rfl (zAB (zAB e5 b4) b5) _ c.lits rfl (HK5.out _ hB).2.2.2 HSC.out.2.2.2.1 (Nat.le_trans hle5 hB.size) ?_;intro v5 X6 o5 b6;obtain⟨p5,r5,rfl⟩:=zAC o5
    replace hB:=hB.trans (b6.mono hB.size)
    try go_simp
    refine hK.out _ _ (fun _=>hB) ?_;clear hK K
    replace o1:=(zAB (zAB o1 b5) b6)
    replace o2:=(zAB o2 b6)
    rotate_left
    go_simp
    refine hK.out _ _ (fun _=>zAV hB _) ?_
    obtain⟨X2,b2,hB,e5,hY⟩:=zA5 hB hle5 76 3;rw[hY];clear hK K hY;refine zAF (rs:=[0]) (by kernel_rfl) (by simp) (AllT.cons rfl (fun K hK=>?_) AllT.nil)
    go_simp
    refine hK.out _ _ (fun _=>zAV hB _) ?_
    obtain⟨X3,b3,hB,e1,hY⟩:=zA5 hB hle5 3 1;rw[hY];clear hK K hY;refine zAF (rs:=[3]) (by kernel_rfl) (by simp) (AllT.cons rfl (fun K hK=>?_) AllT.nil)
    rw[if_pos (by rfl)]
    refine zAM _ _ rfl w.heap.size _ rfl e1 _ c.vars rfl (HK5.out _ hB).1 HSC.out.1 (Nat.le_trans hle5 hB.size) ?_;intro v1 X4 o1 b4;obtain⟨p1,r1,rfl⟩:=zAC o1
    replace hB:=hB.trans (b4.mono hB.size)
    try go_simp
    refine hK.out _ _ (fun _=>hB) ?_;clear hK K
    refine zAi (i:=12) (v:=?vz8) rfl (by kernel_rfl) (by kernel_rfl) (by kernel_rfl) (by rfl) (fun _ _ _ h=>h) (Or.inl ⟨by rfl,?yz8⟩) (fun _=>hB) ?rz8
    case yz8=>intro wq _;go_simp;with_reducible rfl
    refine zAF (rs:=[7]) (by kernel_rfl) (by simp) (AllT.cons rfl (fun K hK=>?_) AllT.nil)
    rw[if_pos (by rfl)]
    refine zAM _ _ rfl w.heap.size _ rfl (zAB (zAB (zAB e2 b2) b3) b4) _ c.consts rfl (HK5.out _ hB).2.1 HSC.out.2.1 (Nat.le_trans hle5 hB.size) ?_;intro v2 X5 o2 b5;obtain⟨p2,r2,rfl⟩:=zAC o2
    replace hB:=hB.trans (b5.mono hB.size)
    try go_simp
    refine hK.out _ _ (fun _=>hB) ?_;clear hK K
    refine zAF (rs:=[11]) (by kernel_rfl) (by simp) (AllT.cons rfl (fun K hK=>?_) AllT.nil)
    rw[if_pos (by rfl)]
    refine zAn _ _ rfl w.heap.size _ rfl (zAB (zAB (zAB e5 b3) b4) b5) _ c.lits rfl (HK5.out _ hB).2.2.2 HSC.out.2.2.2.1 (Nat.le_trans hle5 hB.size) ?_;intro v5 X6 o5 b6;obtain⟨p5,r5,rfl⟩:=zAC o5
    replace hB:=hB.trans (b6.mono hB.size)
    try go_simp
    refine hK.out _ _ (fun _=>hB) ?_;clear hK K
    replace o1:=(zAB (zAB o1 b5) b6)
    replace o2:=(zAB o2 b6)
    rotate_left
    go_simp
    refine hK.out _ _ (fun _=>zAV hB _) ?_
    obtain⟨X1,b1,hB,e5,hY⟩:=zA5 hB hle5 76 3;rw[hY];clear hK K hY;refine zAF (rs:=[0,4]) (by kernel_rfl) (by simp) (AllT.cons rfl (fun K hK=>?_) (AllT.cons rfl (fun K hK=>?_) AllT.nil))
    go_simp
    refine hK.out _ _ (fun _=>zAV hB _) ?_
    obtain⟨X2,b2,hB,e1,hY⟩:=zA5 hB hle5 3 1;rw[hY];clear hK K hY;refine zAF (rs:=[3,4]) (by kernel_rfl) (by simp) (AllT.cons rfl (fun K hK=>?_) (AllT.cons rfl (fun K hK=>?_) AllT.nil))
    rw[if_pos (by rfl)]
    refine zAM _ _ rfl w.heap.size _ rfl e1 _ c.vars rfl (HK5.out _ hB).1 HSC.out.1 (Nat.le_trans hle5 hB.size) ?_;intro v1 X3 o1 b3;obtain⟨p1,r1,rfl⟩:=zAC o1
    replace hB:=hB.trans (b3.mono hB.size)
    try go_simp
    refine hK.out _ _ (fun _=>hB) ?_;clear hK K
    refine zAi (i:=12) (v:=?vz9) rfl (by kernel_rfl) (by kernel_rfl) (by kernel_rfl) (by rfl) (fun _ _ _ h=>h) (Or.inl ⟨by rfl,?yz9⟩) (fun _=>hB) ?rz9
    case yz9=>intro wq _;go_simp;with_reducible rfl
    refine zAF (rs:=[4]) (by kernel_rfl) (by simp) (AllT.cons rfl (fun K hK=>?_) AllT.nil)
    go_simp
    refine hK.out _ _ (fun _=>zAV hB _) ?_
    obtain⟨X4,b4,hB,e2,hY⟩:=zA5 hB hle5 3 1;rw[hY];clear hK K hY;refine zAF (rs:=[7]) (by kernel_rfl) (by simp) (AllT.cons rfl (fun K hK=>?_) AllT.nil)
    rw[if_pos (by rfl)]
    refine zAM _ _ rfl w.heap.size _ rfl e2 _ c.consts rfl (HK5.out _ hB).2.1 HSC.out.2.1 (Nat.le_trans hle5 hB.size) ?_;intro v2 X5 o2 b5;obtain⟨p2,r2,rfl⟩:=zAC o2
    replace hB:=hB.trans (b5.mono hB.size)
    try go_simp
    refine hK.out _ _ (fun _=>hB) ?_;clear hK K
    refine zAF (rs:=[11]) (by kernel_rfl) (by simp) (AllT.cons rfl (fun K hK=>?_) AllT.nil)
    rw[if_pos (by rfl)]
    refine zAn _ _ rfl w.heap.size _ rfl (zAB (zAB (zAB (zAB e5 b2) b3) b4) b5) _ c.lits rfl (HK5.out _ hB).2.2.2 HSC.out.2.2.2.1 (Nat.le_trans hle5 hB.size) ?_;intro v5 X6 o5 b6;obtain⟨p5,r5,rfl⟩:=zAC o5
    replace hB:=hB.trans (b6.mono hB.size)
    try go_simp
    refine hK.out _ _ (fun _=>hB) ?_;clear hK K
    replace o1:=(zAB (zAB (zAB o1 b4) b5) b6)
    replace o2:=(zAB o2 b6)
    rotate_left
    go_simp
    refine hK.out _ _ (fun _=>zAV hB _) ?_
    obtain⟨X3,b3,hB,e2,hY⟩:=zA5 hB hle5 3 1;rw[hY];clear hK K hY;refine zAF (rs:=[3]) (by kernel_rfl) (by simp) (AllT.cons rfl (fun K hK=>?_) AllT.nil)
    rw[if_pos (by rfl)]
    refine zAM _ _ rfl w.heap.size _ rfl (zAB e1 b3) _ c.vars rfl (HK5.out _ hB).1 HSC.out.1 (Nat.le_trans hle5 hB.size) ?_;intro v1 X4 o1 b4;obtain⟨p1,r1,rfl⟩:=zAC o1
    replace hB:=hB.trans (b4.mono hB.size)
    try go_simp
    refine hK.out _ _ (fun _=>hB) ?_;clear hK K
    refine zAi (i:=12) (v:=?vz10) rfl (by kernel_rfl) (by kernel_rfl) (by kernel_rfl) (by rfl) (fun _ _ _ h=>h) (Or.inl ⟨by rfl,?yz10⟩) (fun _=>hB) ?rz10
    case yz10=>intro wq _;go_simp;with_reducible rfl
    refine zAF (rs:=[7]) (by kernel_rfl) (by simp) (AllT.cons rfl (fun K hK=>?_) AllT.nil)
    rw[if_pos (by rfl)]
    refine zAM _ _ rfl w.heap.size _ rfl (zAB e2 b4) _ c.consts rfl (HK5.out _ hB).2.1 HSC.out.2.1 (Nat.le_trans hle5 hB.size) ?_;intro v2 X5 o2 b5;obtain⟨p2,r2,rfl⟩:=zAC o2
    replace hB:=hB.trans (b5.mono hB.size)
    try go_simp
    refine hK.out _ _ (fun _=>hB) ?_;clear hK K
    refine zAF (rs:=[11]) (by kernel_rfl) (by simp) (AllT.cons rfl (fun K hK=>?_) AllT.nil)
    rw[if_pos (by rfl)]
    refine zAn _ _ rfl w.heap.size _ rfl (zAB (zAB (zAB (zAB e5 b2) b3) b4) b5) _ c.lits rfl (HK5.out _ hB).2.2.2 HSC.out.2.2.2.1 (Nat.le_trans hle5 hB.size) ?_;intro v5 X6 o5 b6;obtain⟨p5,r5,rfl⟩:=zAC o5
    replace hB:=hB.trans (b6.mono hB.size)
    try go_simp
    refine hK.out _ _ (fun _=>hB) ?_;clear hK K
    replace o1:=(zAB (zAB o1 b5) b6)
    replace o2:=(zAB o2 b6)
    rotate_left
    go_simp
    refine hK.out _ _ (fun _=>zAV hB _) ?_
    obtain⟨X2,b2,hB,e2,hY⟩:=zA5 hB hle5 3 1;rw[hY];clear hK K hY;refine zAF (rs:=[0]) (by kernel_rfl) (by simp) (AllT.cons rfl (fun K hK=>?_) AllT.nil)
    go_simp
    refine hK.out _ _ (fun _=>zAV hB _) ?_
    obtain⟨X3,b3,hB,e1,hY⟩:=zA5 hB hle5 3 1;rw[hY];clear hK K hY;refine zAF (rs:=[3]) (by kernel_rfl) (by simp) (AllT.cons rfl (fun K hK=>?_) AllT.nil)
    rw[if_pos (by rfl)]
    refine zAM _ _ rfl w.heap.size _ rfl e1 _ c.vars rfl (HK5.out _ hB).1 HSC.out.1 (Nat.le_trans hle5 hB.size) ?_;intro v1 X4 o1 b4;obtain⟨p1,r1,rfl⟩:=zAC o1
    replace hB:=hB.trans (b4.mono hB.size)
    try go_simp
    refine hK.out _ _ (fun _=>hB) ?_;clear hK K
    refine zAi (i:=12) (v:=?vz11) rfl (by kernel_rfl) (by kernel_rfl) (by kernel_rfl) (by rfl) (fun _ _ _ h=>h) (Or.inl ⟨by rfl,?yz11⟩) (fun _=>hB) ?rz11
    case yz11=>intro wq _;go_simp;with_reducible rfl
    refine zAF (rs:=[7]) (by kernel_rfl) (by simp) (AllT.cons rfl (fun K hK=>?_) AllT.nil)
    rw[if_pos (by rfl)]
    refine zAM _ _ rfl w.heap.size _ rfl (zAB (zAB e2 b3) b4) _ c.consts rfl (HK5.out _ hB).2.1 HSC.out.2.1 (Nat.le_trans hle5 hB.size) ?_;intro v2 X5 o2 b5;obtain⟨p2,r2,rfl⟩:=zAC o2
    replace hB:=hB.trans (b5.mono hB.size)
    try go_simp
    refine hK.out _ _ (fun _=>hB) ?_;clear hK K
    refine zAF (rs:=[11]) (by kernel_rfl) (by simp) (AllT.cons rfl (fun K hK=>?_) AllT.nil)
    rw[if_pos (by rfl)]
    refine zAn _ _ rfl w.heap.size _ rfl (zAB (zAB (zAB (zAB e5 b2) b3) b4) b5) _ c.lits rfl (HK5.out _ hB).2.2.2 HSC.out.2.2.2.1 (Nat.le_trans hle5 hB.size) ?_;intro v5 X6 o5 b6;obtain⟨p5,r5,rfl⟩:=zAC o5
    replace hB:=hB.trans (b6.mono hB.size)
    try go_simp
    refine hK.out _ _ (fun _=>hB) ?_;clear hK K
    replace o1:=(zAB (zAB o1 b5) b6)
    replace o2:=(zAB o2 b6)
    rotate_left
    all_goals obtain⟨lC,f1,f2,f5,z1,z2,z5⟩:=HQ.out _ hB
    all_goals (refine zAF (rs:=[13]) (by kernel_rfl) (by simp) (AllT.cons rfl (fun K hK=>?_) AllT.nil);go_simp;refine hK.out _ _ (fun ho=>absurd ho (zFK.not (by kernel_rfl))) ?_;clear hK K)
    all_goals (refine zAi (i:=14) (v:=.pointer (some ⟨C,2,none⟩)) rfl (by kernel_rfl) (by kernel_rfl) (by kernel_rfl) (by rfl) (fun _ _ _ h=>h) (Or.inl ⟨by rfl,?_⟩) (fun ho=>absurd ho (zFK.not (by kernel_rfl))) ?_;focus (intro wq _;go_simp))
    all_goals (refine zAF (rs:=[15]) (by kernel_rfl) (by simp) (AllT.cons rfl (fun K hK=>?_) AllT.nil);go_simp;refine hK.out _ _ (fun ho=>absurd ho (zFK.not (by kernel_rfl))) ?_;clear hK K)
    all_goals (refine zAi (i:=16) (v:=.pointer (some ⟨C,5,none⟩)) rfl (by kernel_rfl) (by kernel_rfl) (by kernel_rfl) (by rfl) (fun _ _ _ h=>h) (Or.inl ⟨by rfl,?_⟩) (fun ho=>absurd ho (zFK.not (by kernel_rfl))) ?_;focus (intro wq _;go_simp))
    all_goals (refine zAF (rs:=[17]) (by kernel_rfl) (by simp) (AllT.cons rfl (fun K hK=>?_) AllT.nil);go_simp;refine hK.out _ _ (fun ho=>absurd ho (zFK.not (by kernel_rfl))) ?_;clear hK K)
    all_goals (refine zLg (by kernel_rfl) ?_ _;go_wp2_with fail;go_meet;exact⟨_,_,_,zTD HST5.out HN5.out hle HCO.out hB o1 o2 o5⟩)
   case rest =>
    obtain⟨v1,v2,v5,hN6,hS6,ho1,ho2,ho5⟩:=hcut;obtain⟨p1,r1,hv1⟩:=zAC ho1;obtain⟨p2,r2,hv2⟩:=zAC ho2;obtain⟨p5,r5,hv5⟩:=zAC ho5;subst hv1 hv2 hv5;have HN6:Hid (wc.heap[C]? = some (.cells #[.int .i64 c.kind,.slice p1 c.vars.length r1,.slice p2 c.consts.length r2,.int .i64 c.n,.slice b4 c.rows.length d4,.slice p5 c.lits.length r5] 69)):=hN6;have HS6:Hid (CpS w wc (.slice av m.vars.length cv) (.slice (some ⟨b,off,none⟩) m.cons.length c2) (.slice ao k co) m k):=hS6;have HO1:Hid (wc.ownsRow w.heap.size 3 1 (.slice p1 c.vars.length r1) c.vars.length (c.vars.map (Value.int .i64))):=ho1;have HO2:Hid (wc.ownsRow w.heap.size 3 1 (.slice p2 c.consts.length r2) c.consts.length (c.consts.map (Value.int .i64))):=ho2;have HO5:Hid (wc.ownsRow w.heap.size 76 3 (.slice p5 c.lits.length r5) c.lits.length (c.lits.flatMap litC)):=ho5;clear hN6 hS6 ho1 ho2 ho5 HST5 HN5 HQ HK5 hl5 hle5 HSZ5;obtain⟨W6,hW6⟩:∃W6:World,W6=wc:=⟨_,rfl⟩;rw[←hW6] at HN6 HS6 HO1 HO2 HO5 ⊢;clear hW6;have HQ6:Hid (∀Y,Below W6.heap.size W6 Y→C<Y.heap.size∧Y.cell? ⟨C,4,none⟩=some (.slice b4 c.rows.length d4)):=fun Y hY=>by
     have h:=(hY.block _ (Array.getElem?_eq_some_iff.1 HN6.out).1).trans HN6.out;exact⟨(Array.getElem?_eq_some_iff.1 h).1,blk9 h 4 _ rfl⟩
    go_wp2_with fail
    go_loopw [6,7] (fun o i wr=>∃q:Nat,q≤c.rows.length∧i=.int .i64 q∧Hid (LSr W6.heap.size W6.heap.size wr o (c.rows.take q)∧Below W6.heap.size W6 wr)) (fun _ i _=>c.rows.length - (intOf i).toNat)
    case atStart=>exact⟨0,by omega,rfl,LSr.none _ _ _,Below.refl _ _⟩
    case round =>
     obtain⟨q,hq,rfl,hlq⟩:=hrel;obtain⟨ar,cr,hrf⟩:=hlq.out.1.form;subst hrf;have hqt:(c.rows.take q).length=q:=by rw[List.length_take];omega
     have HLQ:Hid (LSr W6.heap.size W6.heap.size wr (.slice ar q cr) (c.rows.take q)∧Below W6.heap.size W6 wr):=by rw[hqt] at hlq;exact hlq
     rw[hqt];have HQT:Hid ((c.rows.take q).length=q):=hqt;clear hlq hqt;obtain⟨l4,f4⟩:=HQ6.out _ HLQ.out.2;have HBR:Hid (Below w.heap.size w wr):=HS6.out.bel.trans (HLQ.out.2.mono HS6.out.bel.size);by_cases hqr:q<c.rows.length
     ·obtain⟨r,hr⟩:∃r,c.rows[q]? = some r:=⟨c.rows[q],by simp[hqr]⟩
      have hr8:r.length * 8≤140737488355328:=HSC.out.2.2.2.2 r (List.mem_of_getElem? hr);have hq24:(q+1) * 24≤140737488355328:=by have:=HSC.out.2.2.1;omega
      have HTR:Hid (c.rows.take (q+1)=c.rows.take q++[r]):=by show _=_;rw[List.take_add_one,hr];rfl
      obtain⟨_,_,hs4,_,hr4⟩:=HK0.out _ HBR.out;cases hs4
      obtain⟨b6,o6,xv,hb6,hbl6,e6,hxi⟩:=hr4 q r hr;subst hb6;have HXI:Hid (IArg wr xv r):=hxi;obtain⟨a7,c7,rfl,_,_⟩:=hxi;clear hr4 hr;go_wp2_with (at_builtin;refine zGy rfl _ _ rfl W6.heap.size _ rfl ?c1 _ r rfl ?c2 ?c3 ?c4 ?_)
      case c1=>exact zFm _ _ _ _ _ rfl HLQ.out.2.size
      case c2=>exact IArg.below (zAA _ _) HXI.out
      case c3=>exact hr8
      case c4=>have:=HLQ.out.2.size;simp;omega
      intro v8 w8 ho8 hb8;have hb8':Below wr.heap.size wr w8:=(zAA _ _).trans (hb8.mono (by omega))
      obtain⟨a8,c8,hv8⟩:=zAC ho8;subst hv8;have HO8:Hid (w8.ownsRow W6.heap.size 3 1 (.slice a8 r.length c8) r.length (r.map (Value.int .i64))):=ho8;have HL8:Hid (LSr W6.heap.size W6.heap.size w8 (.slice ar q cr) (c.rows.take q)∧Below W6.heap.size W6 w8):=⟨HLQ.out.1.below hb8',HLQ.out.2.trans (hb8'.mono HLQ.out.2.size)⟩;obtain⟨cells8,hw8,hcl8⟩:=HL8.out.1;have HCL8:Hid (∀(i:Nat) (r:List Int),(c.rows.take q)[i]? = some r→∃x,cells8[i]? = some x∧w8.ownsRow W6.heap.size 3 1 x r.length (r.map (Value.int .i64))):=hcl8;rw[HQT.out] at hw8;clear ho8 hb8 hb8' hcl8 e6 f4;go_wp2_with (at_builtin;refine wpList_append_own _ rfl _ _ 56 rfl W6.heap.size 42 iR (.slice none 0 0) 1 24 Tryz.underRows6 hiR hzR0 hzR1 hzR2 rfl (by decide) _ _ _ rfl (hw8.alloc _) ⟨w8.heap.size,0,none⟩ 1 1 [.slice a8 r.length c8] rfl rfl ?d1 ?d2 ?d3 ?d4 ?d5 ?_)
      case d1 =>
       intro j u hj
       match j,hj with
       | 0,hj=>cases hj;rw[zEZ];exact World.cell?_alloc_at _ _ _ 0 (by simp)
      case d2=>intro u hu;rcases List.mem_singleton.1 hu with rfl;rfl
      case d3=>unfold maxLen;omega
      case d4=>exact hq24
      case d5=>have:=HL8.out.2.size;simp;omega
      intro v9 w9 ho9 hg9 _;have HL9:Hid (LSr W6.heap.size W6.heap.size w9 v9 (c.rows.take (q+1))∧Below W6.heap.size W6 w9):=by
       rw[HTR.out];refine⟨LSr.push (by rw[HQT.out];exact hw8) HCL8.out HO8.out (by rw[HQT.out];exact ho9) hg9,?_⟩
       exact (HL8.out.2.alloc HL8.out.2.size _).grown hg9 (by have:=HL8.out.2.size;simp;omega) (fun g h=>(hw8.lt g h).1)
      clear ho9 hg9 hw8;go_wp2
      go_roundw
      case rel=>exact⟨q+1,by omega,by go_num,HL9⟩
      case measure=>simp[intOf];omega
     ·have hqe:c.rows.take q=c.rows:=List.take_of_length_le (by omega)
      have hqn:q=c.rows.length:=by omega
      rw[hqe] at HLQ;have hN7:wr.heap[C]? = some (.cells #[.int .i64 c.kind,.slice p1 c.vars.length r1,.slice p2 c.consts.length r2,.int .i64 c.n,.slice b4 c.rows.length d4,.slice p5 c.lits.length r5] 69):=(HLQ.out.2.block _ (Array.getElem?_eq_some_iff.1 HN6.out).1).trans HN6.out;have z4:wr.frozen? ⟨C,4,none⟩=false:=frz9 hN7 4;have HN8:Hid ((wr.setCell ⟨C,4,none⟩ (.slice ar q cr)).heap[C]? = some (.cells #[.int .i64 c.kind,.slice p1 c.vars.length r1,.slice p2 c.consts.length r2,.int .i64 c.n,.slice ar q cr,.slice p5 c.lits.length r5] 69)):=heap_setCell_same wr C 4 _ _ _ hN7;have HS8:Hid (CpS w (wr.setCell ⟨C,4,none⟩ (.slice ar q cr)) (.slice av m.vars.length cv) (.slice (some ⟨b,off,none⟩) m.cons.length c2) (.slice ao k co) m k):=(HS6.out.below HLQ.out.2).set hN7 hle HCO.out 4 _;have HC8:Hid (ConR w.heap.size (wr.setCell ⟨C,4,none⟩ (.slice ar q cr)) (.slice p1 c.vars.length r1) (.slice p2 c.consts.length r2) (.slice ar q cr) (.slice p5 c.lits.length r5) c):=by
       have hL:LSr w.heap.size w.heap.size wr (.slice ar q cr) c.rows:=by
        obtain⟨cl,h1,h2⟩:=HLQ.out.1;have hm:=HS6.out.bel.size;refine⟨cl,World.ownsRow.mono h1 hm,fun i r hr=>?_⟩
        obtain⟨x,k1,k2⟩:=h2 i r hr;exact⟨x,k1,World.ownsRow.mono k2 hm⟩
       have hC:ConR w.heap.size wr (.slice p1 c.vars.length r1) (.slice p2 c.consts.length r2) (.slice ar q cr) (.slice p5 c.lits.length r5) c:=⟨zAB HO1.out HLQ.out.2,zAB HO2.out HLQ.out.2,hL,zAB HO5.out HLQ.out.2⟩;exact hC.set hN7 4 _
      clear hqe hN7 HBR hqn;go_upto_region 14 with (fail)
      obtain⟨W8,hW8⟩:∃W8,wr.setCell ⟨C,4,none⟩ (.slice ar q cr)=W8:=⟨_,rfl⟩;rw[hW8] at HN8 HS8 HC8 ⊢;clear hW8 f4 l4 z4 HLQ;have l8:=(Array.getElem?_eq_some_iff.1 HN8.out).1;have g0:W8.cell? ⟨C,0,none⟩=some (.int .i64 c.kind):=blk9 HN8.out 0 _ rfl;have g1:W8.cell? ⟨C,1,none⟩=some (.slice p1 c.vars.length r1):=blk9 HN8.out 1 _ rfl;have g2:W8.cell? ⟨C,2,none⟩=some (.slice p2 c.consts.length r2):=blk9 HN8.out 2 _ rfl;have g3:W8.cell? ⟨C,3,none⟩=some (.int .i64 c.n):=blk9 HN8.out 3 _ rfl;have g4:W8.cell? ⟨C,4,none⟩=some (.slice ar q cr):=blk9 HN8.out 4 _ rfl;have g5:W8.cell? ⟨C,5,none⟩=some (.slice p5 c.lits.length r5):=blk9 HN8.out 5 _ rfl;obtain⟨cells,hw8,hcl8⟩:=HS8.out.cown;have HCL8:Hid (∀(i:Nat) (c:MCon),(m.cons.take k)[i]? = some c→∃vv vc vr vl,(∀j,j<6→cells[i * 6+j]? = (conC vv vc vr vl c)[j]?)∧ConR w.heap.size W8 vv vc vr vl c):=hcl8;have htl:(m.cons.take k).length=k:=by rw[List.length_take];omega
      have HTL:Hid ((m.cons.take k).length=k):=htl;rw[htl] at hw8;have hk112:(k+1) * 112≤140737488355328:=by have:=HSZ.out.2.1;omega
      clear hcl8 htl;go_wp2_with (at_builtin;refine wpList_append_own _ rfl _ _ 23 rfl w.heap.size 69 iC _ 6 112 Tryz.underCons5 hiC hzC0 hzC1 hzC2 rfl (by decide) _ _ _ rfl (hw8.alloc _) ⟨W8.heap.size,0,none⟩ 1 1 (conC (.slice p1 c.vars.length r1) (.slice p2 c.consts.length r2) (.slice ar q cr) (.slice p5 c.lits.length r5) c) rfl rfl (zKL W8 _ _ _ _ c) (zIf HC8.out) ?d3 ?d4 ?d5 ?_)
      case d3=>unfold maxLen;omega
      case d4=>exact hk112
      case d5=>have:=HS8.out.bel.size;simp;omega
      intro v9 w9 ho9 hg9 _;have HS9:Hid (CpS w w9 (.slice av m.vars.length cv) (.slice (some ⟨b,off,none⟩) m.cons.length c2) v9 m (k+1)):=CpS.push HS8.out HTK.out (by rw[HTL.out];exact hw8) HCL8.out HC8.out (by rw[HTL.out];exact ho9) hg9
      clear ho9 hg9 hw8;go_wp2
      go_roundw
      case rel=>exact⟨k+1,by omega,by go_num,HS9⟩
      case measure=>simp[intOf];omega
  ·have hke:m.cons.take k=m.cons:=List.take_of_length_le (by omega)
   have z1:wr.frozen? ⟨w.heap.size,1,none⟩=false:=frz9 HST.out.mod 1;have l1:=(Array.getElem?_eq_some_iff.1 HST.out.res).1;have y0:wr.frozen? ⟨w.heap.size+1,0,none⟩=false:=frz9 HST.out.res 0;have y1:wr.frozen? ⟨w.heap.size+1,1,none⟩=false:=frz9 HST.out.res 1;have y2:wr.frozen? ⟨w.heap.size+1,2,none⟩=false:=frz9 HST.out.res 2;have y3:wr.frozen? ⟨w.heap.size+1,3,none⟩=false:=frz9 HST.out.res 3;have x0:wr.cell? ⟨w.heap.size+1,0,none⟩=some (.slice none 0 0):=blk9 HST.out.res 0 _ rfl;have x1:wr.cell? ⟨w.heap.size+1,1,none⟩=some (.slice none 0 0):=blk9 HST.out.res 1 _ rfl;have x2:wr.cell? ⟨w.heap.size+1,2,none⟩=some (.int .i64 0):=blk9 HST.out.res 2 _ rfl;have x3:wr.cell? ⟨w.heap.size+1,3,none⟩=some (.int .i64 0):=blk9 HST.out.res 3 _ rfl;have q0:wr.cell? ⟨w.heap.size,0,none⟩=some (.slice av m.vars.length cv):=blk9 HST.out.mod 0 _ rfl;have q2:wr.cell? ⟨w.heap.size,2,none⟩=some (.int .i64 m.goal):=blk9 HST.out.mod 2 _ rfl;have q3:wr.cell? ⟨w.heap.size,3,none⟩=some (.int .i64 m.var):=blk9 HST.out.mod 3 _ rfl;obtain⟨k1,k2,k3⟩:=zTC HST.out hke HNM.out;have HZ:Hid (ModR w.heap.size (((((wr.setCell ⟨w.heap.size,1,none⟩ (.slice ao k co)).setCell ⟨w.heap.size+1,0,none⟩ (.slice av m.vars.length cv)).setCell ⟨w.heap.size+1,1,none⟩ (.slice ao k co)).setCell ⟨w.heap.size+1,2,none⟩ (.int .i64 m.goal)).setCell ⟨w.heap.size+1,3,none⟩ (.int .i64 m.var)) (.slice av m.vars.length cv) (.slice ao k co) m∧Below w.heap.size w (((((wr.setCell ⟨w.heap.size,1,none⟩ (.slice ao k co)).setCell ⟨w.heap.size+1,0,none⟩ (.slice av m.vars.length cv)).setCell ⟨w.heap.size+1,1,none⟩ (.slice ao k co)).setCell ⟨w.heap.size+1,2,none⟩ (.int .i64 m.goal)).setCell ⟨w.heap.size+1,3,none⟩ (.int .i64 m.var))):=⟨k2,k3⟩;have HZ1:Hid ((((((wr.setCell ⟨w.heap.size,1,none⟩ (.slice ao k co)).setCell ⟨w.heap.size+1,0,none⟩ (.slice av m.vars.length cv)).setCell ⟨w.heap.size+1,1,none⟩ (.slice ao k co)).setCell ⟨w.heap.size+1,2,none⟩ (.int .i64 m.goal)).setCell ⟨w.heap.size+1,3,none⟩ (.int .i64 m.var)).heap[w.heap.size+1]? = some (.cells #[.slice av m.vars.length cv,.slice ao k co,.int .i64 m.goal,.int .i64 m.var] 25)):=k1;clear k1 k2 k3 hke;go_wp2
   obtain⟨Z,hZ⟩:∃Z,(((((wr.setCell ⟨w.heap.size,1,none⟩ (.slice ao k co)).setCell ⟨w.heap.size+1,0,none⟩ (.slice av m.vars.length cv)).setCell ⟨w.heap.size+1,1,none⟩ (.slice ao k co)).setCell ⟨w.heap.size+1,2,none⟩ (.int .i64 m.goal)).setCell ⟨w.heap.size+1,3,none⟩ (.int .i64 m.var))=Z:=⟨_,rfl⟩;rw[hZ] at HZ HZ1 ⊢;clear hZ;have j0:Z.cell? ⟨w.heap.size+1,0,none⟩=some (.slice av m.vars.length cv):=blk9 HZ1.out 0 _ rfl;have j1:Z.cell? ⟨w.heap.size+1,1,none⟩=some (.slice ao k co):=blk9 HZ1.out 1 _ rfl;have j2:Z.cell? ⟨w.heap.size+1,2,none⟩=some (.int .i64 m.goal):=blk9 HZ1.out 2 _ rfl;have j3:Z.cell? ⟨w.heap.size+1,3,none⟩=some (.int .i64 m.var):=blk9 HZ1.out 3 _ rfl;refine bodyPost_ret (by simp[results,Tryz.results24,go_sem, *];try rfl) rfl ?_
   exact⟨_,_,rfl,HZ.out.1,HZ.out.2⟩
end Go.Proofs.YtndcpnlaadikoaaGreatDoor
