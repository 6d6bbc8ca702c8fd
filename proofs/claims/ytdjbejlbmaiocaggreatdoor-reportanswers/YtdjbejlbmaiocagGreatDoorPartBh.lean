/- What the proof leans on, part 34. -/
import Derived.Test.YtdjbejlbmaiocagGreatDoorPartBg
set_option maxRecDepth 100000
set_option maxHeartbeats 1600000
namespace Go.Proofs.YtdjbejlbmaiocagGreatDoor
open Go.RowKit
theorem zN6 (b:Nat) (v:Value):(#[.pointer (some ⟨b,0,none⟩),.pointer (some ⟨b+1,0,none⟩),.pointer (some ⟨b+2,0,none⟩)]:Array Value)++((Array.replicate 19 undef).setIfInBounds 3 v).setIfInBounds 0 v=#[.pointer (some ⟨b,0,none⟩),.pointer (some ⟨b+1,0,none⟩),.pointer (some ⟨b+2,0,none⟩),v,undef,undef,v,undef,undef,undef,undef,undef,undef,undef,undef,undef,undef,undef,undef,undef,undef,undef]:=by kernel_rfl
theorem zSc (x er:Int) (w:World):Sem.run Tryz.prog (Instr.typeAssert (.iface 172 (.agg #[.int .i64 x,.int .i64 er])) 20 172 true) w=.ok (.tuple #[.agg #[.int .i64 x,.int .i64 er],.bool true]) w:=by kernel_rfl
theorem zPD (b:Nat) (w:World) :
 CallsD Tryz.prog 123 #[.pointer (some ⟨b,0,none⟩),.pointer (some ⟨b+1,0,none⟩),.pointer (some ⟨b+2,0,none⟩)] .returning w fun e u' w'=>e=.returned (.tuple #[])∧u'=.returning∧w'=w:=by
 refine callsD_of_wpS Tryz.func123 rfl fun c₀ cs hu=>?_
 apply wpS_seq;apply wpS_region;simp[wpOpsS,go_sem,recoverD,hu,Tryz.ntmps123,Exit.thenS];rw[zN6];refine wpS_of_wp ?_;go_wp2
 cases c₀
 simp_all[bodyPostS,results,Tryz.results123]
def zDu (b:Nat) (x er:Int) (w0 w:World):Prop :=
 w.heap[b]? = some (.cells #[.slice none 0 0,.slice none 0 0,.int .i64 0,.int .i64 0] 25)∧w.heap[b+1]? = some (.cells #[.int .i64 x] 3)∧w.heap[b+2]? = some (.cells #[.int .i64 er] 30)∧Fr (fun k=>k=b∨k=b+1∨k=b+2) w0 w
theorem zDu.zero {b:Nat} {x er:Int} {w0 w:World} (h:zDu b x er w0 w) (i:Nat) (u:Value) (hcs:(#[.slice none 0 0,.slice none 0 0,.int .i64 0,.int .i64 0]:Array Value).setIfInBounds i u=#[.slice none 0 0,.slice none 0 0,.int .i64 0,.int .i64 0]):zDu b x er w0 (w.setCell ⟨b,i,none⟩ u):=by
 obtain⟨h0,h1,h2,h3⟩:=h;refine⟨?_,?_,?_,h3.setX (p:=⟨b,i,none⟩) (Or.inl rfl) u⟩
 ·rw[heap_setCell_same w b i _ _ u h0,hcs]
 ·exact (Below.heap_setCell _ _ _ _ (show b+1≠b by omega)).trans h1
 ·exact (Below.heap_setCell _ _ _ _ (show b+2≠b by omega)).trans h2
theorem zDu.one {b:Nat} {x er y:Int} {w0 w:World} (h:zDu b x er w0 w):zDu b y er w0 (w.setCell ⟨b+1,0,none⟩ (.int .i64 y)):=by
 obtain⟨h0,h1,h2,h3⟩:=h;refine⟨?_,?_,?_,h3.setX (p:=⟨b+1,0,none⟩) (Or.inr (Or.inl rfl)) _⟩
 ·exact (Below.heap_setCell _ _ _ _ (show b≠b+1 by omega)).trans h0
 ·rw[heap_setCell_same w (b+1) 0 _ _ _ h1];rfl
 ·exact (Below.heap_setCell _ _ _ _ (show b+2≠b+1 by omega)).trans h2
theorem zDu.two {b:Nat} {x er y:Int} {w0 w:World} (h:zDu b x er w0 w):zDu b x y w0 (w.setCell ⟨b+2,0,none⟩ (.int .i64 y)):=by
 obtain⟨h0,h1,h2,h3⟩:=h;refine⟨?_,?_,?_,h3.setX (p:=⟨b+2,0,none⟩) (Or.inr (Or.inr rfl)) _⟩
 ·exact (Below.heap_setCell _ _ _ _ (show b≠b+2 by omega)).trans h0
 ·exact (Below.heap_setCell _ _ _ _ (show b+1≠b+2 by omega)).trans h1
 ·rw[heap_setCell_same w (b+2) 0 _ _ _ h2];rfl
theorem zDu.below {b:Nat} {x er:Int} {w0 w w':World} (h:zDu b x er w0 w) (hb:Below w.heap.size w w'):zDu b x er w0 w' :=
 ⟨(hb.block _ (Array.getElem?_eq_some_iff.1 h.1).1).trans h.1,(hb.block _ (Array.getElem?_eq_some_iff.1 h.2.1).1).trans h.2.1,(hb.block _ (Array.getElem?_eq_some_iff.1 h.2.2.1).1).trans h.2.2.1,h.2.2.2.trans (Fr.below hb)⟩
theorem zQz (b:Nat) (x er:Int) (w:World) (hT:zDu b 0 0 w w) :
 CallsD Tryz.prog 123 #[.pointer (some ⟨b,0,none⟩),.pointer (some ⟨b+1,0,none⟩),.pointer (some ⟨b+2,0,none⟩)] (.panicking [{ v:=.iface 172 (.agg #[.int .i64 x,.int .i64 er]),recovered:=false }]) w fun e u' w'=>e=.returned (.tuple #[])∧u'=.panicking [{ v:=.iface 172 (.agg #[.int .i64 x,.int .i64 er]),recovered:=true }] ∧
  zDu b x er w w':=by
 have HT:Hid (zDu b 0 0 w w):=hT;obtain⟨h0,h1,h2,_⟩:=hT;have r0:=blk9 h0 0 _ rfl;have r1:=blk9 h0 1 _ rfl;have r2:=blk9 h0 2 _ rfl;have r3:=blk9 h0 3 _ rfl;have r4:=blk9 h1 0 _ rfl;have r5:=blk9 h2 0 _ rfl;have z0:=frz9 h0 0;have z1:=frz9 h0 1;have z2:=frz9 h0 2;have z3:=frz9 h0 3;have z4:=frz9 h1 0;have z5:=frz9 h2 0;have hl0:b<w.heap.size:=(Array.getElem?_eq_some_iff.1 h0).1;have hl1:b+1<w.heap.size:=(Array.getElem?_eq_some_iff.1 h1).1;have hl2:b+2<w.heap.size:=(Array.getElem?_eq_some_iff.1 h2).1;clear h0 h1 h2;refine callsD_of_wpS Tryz.func123 rfl fun c₀ cs hu=>?_
 apply wpS_seq;apply wpS_region;simp[wpOpsS,go_sem,recoverD,hu,Tryz.ntmps123,Exit.thenS];rw[zN6];refine wpS_of_wp ?_;have hta:=zSc x er;go_wp2_with fail
 go_region
 all_goals
  refine⟨rfl,_,rfl,_,results_none rfl _ _ _,rfl,rfl,?_⟩;refine zDu.below ?_ (Below.refl _ _).drew;refine zDu.below ?_ (zAA _ _);exact (((((HT.out.zero 0 _ rfl).zero 1 _ rfl).zero 2 _ rfl).zero 3 _ rfl).one (y:=x)).two (y:=er)
open Go.RowKit Go.Maps
theorem zFV {α:Type} (f:α→List Value) (s:Nat) (hf:∀x,(f x).length=s):∀(l:List α) (i k:Nat) (x:α),l[i]? = some x→k<s→(l.flatMap f)[i * s+k]? = (f x)[k]?
 | [],i,k,x,h,_=>by simp at h
 | y :: l,0,k,x,h,hk=>by
   simp at h;subst h;rw[List.flatMap_cons,Nat.zero_mul,Nat.zero_add,List.getElem?_append_left (by rw[hf];exact hk)]
 | y :: l,i+1,k,x,h,hk=>by
   have h2:l[i]? = some x:=by simpa using h
   rw[List.flatMap_cons,List.getElem?_append_right (by rw[hf,Nat.add_mul];omega),hf,show (i+1) * s+k - s=i * s+k by rw[Nat.add_mul];omega]
   exact zFV f s hf l i k x h2 hk
theorem zE0 {w:World} {B:Nat} {e:TypeId} {size n:Nat} {v:Value} {xs:List Value} (h:w.ownsRow B e size v n xs) :
 ∃a c,v=.slice a n c∧(n≤c∧c≤maxLen)∧∀i,i<n→∃g,a=some ⟨g,0,none⟩∧g<w.heap.size∧∀j,j<n * size→w.cell? ⟨g,j,none⟩=xs[j]? := by
 have h0:=h;rcases h.2 with ⟨rfl,rfl⟩ | ⟨g,cap,cur,rfl,_,hg,hc,hm,_⟩
 ·exact⟨none,0,rfl,⟨Nat.le_refl _,Nat.zero_le _⟩,fun i hi=>absurd hi (Nat.not_lt_zero _)⟩
 ·exact⟨_,_,rfl,⟨hc,hm⟩,fun i hi=>⟨g,rfl,(Array.getElem?_eq_some_iff.1 hg).1,fun j hj=>h0.cellAt j hj⟩⟩
theorem zKc {w:World} {B:Nat} {v:Value} {l:List Int} (h:w.ownsRow B 3 1 v l.length (l.map (Value.int .i64))):IArg w v l:=by
 obtain⟨a,c,hv,hm,hr⟩:=zE0 h;refine⟨a,c,hv,hm,fun i z hz=>?_⟩
 have hi:i<l.length:=(List.getElem?_eq_some_iff.1 hz).1;obtain⟨g,ha,hg,hc⟩:=hr i hi;exact⟨g,0,ha,hg,by rw[Nat.zero_add,hc i (by omega),List.getElem?_map,hz];rfl⟩
theorem zSd {w:World} {B base:Nat} {v:Value} {l:List (List Int)} (h:LSr B base w v l):RArg w v l:=by
 obtain⟨cells,h1,h2⟩:=h;obtain⟨a,c,hv,hm,hr⟩:=zE0 h1;refine⟨a,c,hv,hm,fun i z hz=>?_⟩
 have hi:i<l.length:=(List.getElem?_eq_some_iff.1 hz).1;obtain⟨g,ha,hg,hc⟩:=hr i hi;obtain⟨x,hx,ho⟩:=h2 i z hz;exact⟨g,0,x,ha,hg,by rw[Nat.zero_add,hc i (by omega),hx],zKc ho⟩
theorem zSe {w:World} {B:Nat} {v:Value} {l:List MLit} (h:w.ownsRow B 88 3 v l.length (l.flatMap litC)):LArg w v l:=by
 obtain⟨a,c,hv,hm,hr⟩:=zE0 h;refine⟨a,c,hv,hm,fun i z hz=>?_⟩
 have hi:i<l.length:=(List.getElem?_eq_some_iff.1 hz).1;obtain⟨g,ha,hg,hc⟩:=hr i hi;have hf:=zFV litC 3 (fun _=>rfl) l i
 exact⟨g,0,ha,hg,by rw[Nat.zero_add,hc _ (by omega)];exact hf 0 z hz (by omega),by rw[Nat.zero_add,hc _ (by omega)];exact hf 1 z hz (by omega),by rw[Nat.zero_add,hc _ (by omega)];exact hf 2 z hz (by omega)⟩
theorem zSf {w:World} {B:Nat} {v:Value} {l:List MVar} (h:w.ownsRow B 71 3 v l.length (l.flatMap varC)) (hs:∀x∈l,x.name.size≤maxLen):VArg w v l:=by
 obtain⟨a,c,hv,hm,hr⟩:=zE0 h;refine⟨a,c,hv,hm,fun i z hz=>⟨hs z (List.mem_of_getElem? hz),?_⟩⟩
 have hi:i<l.length:=(List.getElem?_eq_some_iff.1 hz).1;obtain⟨g,ha,hg,hc⟩:=hr i hi;have hf:=zFV varC 3 (fun _=>rfl) l i
 exact⟨g,0,ha,hg,by rw[Nat.zero_add,hc _ (by omega)];exact hf 0 z hz (by omega),by rw[Nat.zero_add,hc _ (by omega)];exact hf 1 z hz (by omega),by rw[Nat.zero_add,hc _ (by omega)];exact hf 2 z hz (by omega)⟩
theorem zSg {w:World} {B:Nat} {vv vc vr vl:Value} {c:MCon} (h:ConR B w vv vc vr vl c):KArg w vv vc vr vl c:=⟨zKc h.1,zKc h.2.1,zSd h.2.2.1,zSe h.2.2.2⟩
theorem zSh {w:World} {B:Nat} {v:Value} {l:List MCon} (h:LCr B w v l):CArg w v l:=by
 obtain⟨cells,h1,h2⟩:=h;obtain⟨a,c,hv,hm,hr⟩:=zE0 h1;refine⟨a,c,hv,hm,fun i z hz=>?_⟩
 have hi:i<l.length:=(List.getElem?_eq_some_iff.1 hz).1;obtain⟨g,ha,hg,hc⟩:=hr i hi;obtain⟨vv,vc,vr,vl,hcl,ho⟩:=h2 i z hz;refine⟨g,0,vv,vc,vr,vl,ha,hg,?_,?_,?_,?_,?_,?_,zSg ho⟩
 ·rw[Nat.zero_add,hc _ (by omega)];exact hcl 0 (by omega)
 ·rw[Nat.zero_add,hc _ (by omega)];exact hcl 1 (by omega)
 ·rw[Nat.zero_add,hc _ (by omega)];exact hcl 2 (by omega)
 ·rw[Nat.zero_add,hc _ (by omega)];exact hcl 3 (by omega)
 ·rw[Nat.zero_add,hc _ (by omega)];exact hcl 4 (by omega)
 ·rw[Nat.zero_add,hc _ (by omega)];exact hcl 5 (by omega)
def ModR (B:Nat) (w:World) (vs cs:Value) (m:Mod):Prop:=w.ownsRow B 71 3 vs m.vars.length (m.vars.flatMap varC)∧LCr B w cs m.cons∧∀x∈m.vars,x.name.size≤maxLen
theorem ModR.marg {B:Nat} {w:World} {vs cs:Value} {m:Mod} (h:ModR B w vs cs m):MArg w vs cs m:=⟨zSf h.1 h.2.2,zSh h.2.1⟩
theorem ModR.fr {X:Nat→Prop} {B:Nat} {w w':World} {vs cs:Value} {m:Mod} (h:ModR B w vs cs m) (hf:Fr X w w') (hX:∀k,X k→k<B):ModR B w' vs cs m:=⟨zCT h.1 hf hX,h.2.1.fr hf hX,h.2.2⟩
theorem ModR.below {B:Nat} {w w':World} {vs cs:Value} {m:Mod} (h:ModR B w vs cs m) (hb:Below w.heap.size w w'):ModR B w' vs cs m:=h.fr (X:=fun _=>False) (Fr.below hb) (fun _ hk=>hk.elim)
theorem ModR.mono {B B':Nat} {w:World} {vs cs:Value} {m:Mod} (h:ModR B w vs cs m) (hb:B'≤B):ModR B' w vs cs m:=by
 obtain⟨h1,⟨cells,h2,h3⟩,h4⟩:=h;refine⟨zAi h1 hb,⟨cells,zAi h2 hb,fun i c hc=>?_⟩,h4⟩
 obtain⟨vv,vc,vr,vl,hcl,ho⟩:=h3 i c hc;exact⟨vv,vc,vr,vl,hcl,ho.mono hb⟩
def zEG:Mod:=⟨[],[],0,0⟩
def zEU (en:Int) (l:List Tok):Mod×Int×Int:=match zIc en l with
 | .ok m _=>(m,0,0)
 | .bad x e=>(zEG,x,e)
theorem zEC (B:Nat) (w:World):ModR B w (.slice none 0 0) (.slice none 0 0) zEG:=⟨World.ownsRow_nil _ _ _ _,LCr.none _ _,fun x hx=>by simp[zEG] at hx⟩
theorem zPE (w:World) (v:Value) (l:List Tok) (en:Int) (hv:TArg w.heap.size w v l) (W:World)
 (hW:W=((((w.alloc (.cells #[.slice none 0 0,.slice none 0 0,.int .i64 0,.int .i64 0] 25)).alloc (.cells #[.int .i64 0] 3)).alloc (.cells #[.int .i64 0] 30)).alloc (.map #[] 0)).alloc (.cells #[v,.int .i64 en,.map (some (w.heap.size+1+1+1))] 177)) :
 Rd w.heap.size (w.heap.size+1+1+1+1) (w.heap.size+1+1+1) en W l∧NmS W (w.heap.size+1+1+1) []∧zDu w.heap.size 0 0 W W∧Below w.heap.size w W∧W.heap.size=w.heap.size+5:=by
 obtain⟨w1,e1⟩:∃w1,w1=w.alloc (.cells #[.slice none 0 0,.slice none 0 0,.int .i64 0,.int .i64 0] 25):=⟨_,rfl⟩;rw[←e1] at hW;obtain⟨w2,e2⟩:∃w2,w2=w1.alloc (.cells #[.int .i64 0] 3):=⟨_,rfl⟩;rw[←e2] at hW;obtain⟨w3,e3⟩:∃w3,w3=w2.alloc (.cells #[.int .i64 0] 30):=⟨_,rfl⟩;rw[←e3] at hW;obtain⟨w4,e4⟩:∃w4,w4=w3.alloc (.map #[] 0):=⟨_,rfl⟩;rw[←e4] at hW;have s1:w1.heap.size=w.heap.size+1:=by rw[e1];simp
 have s2:w2.heap.size=w.heap.size+1+1:=by rw[e2];simp[s1]
 have s3:w3.heap.size=w.heap.size+1+1+1:=by rw[e3];simp[s2]
 have s4:w4.heap.size=w.heap.size+1+1+1+1:=by rw[e4];simp[s3]
 have s5:W.heap.size=w.heap.size+1+1+1+1+1:=by rw[hW];simp[s4]
 have b1:Below w.heap.size w w1:=by rw[e1];exact zAA _ _
 have b2:Below w1.heap.size w1 w2:=by rw[e2];exact zAA _ _
 have b3:Below w2.heap.size w2 w3:=by rw[e3];exact zAA _ _
 have b4:Below w3.heap.size w3 w4:=by rw[e4];exact zAA _ _
 have b5:Below w4.heap.size w4 W:=by rw[hW];exact zAA _ _
 have h1:w1.heap[w.heap.size]? = some (.cells #[.slice none 0 0,.slice none 0 0,.int .i64 0,.int .i64 0] 25):=by rw[e1];exact heap_alloc_new _ _
 have h2:w2.heap[w1.heap.size]? = some (.cells #[.int .i64 0] 3):=by rw[e2];exact heap_alloc_new _ _
 have h3:w3.heap[w2.heap.size]? = some (.cells #[.int .i64 0] 30):=by rw[e3];exact heap_alloc_new _ _
 have h5:W.heap[w4.heap.size]? = some (.cells #[v,.int .i64 en,.map (some (w.heap.size+1+1+1))] 177):=by rw[hW];exact heap_alloc_new _ _
 have hn:NmS w4 w3.heap.size []:=by rw[e4];exact World.ownsMap_made _ _ _ _
 have hb:Below w.heap.size w W:=b1.trans ((b2.mono (by omega)).trans ((b3.mono (by omega)).trans ((b4.mono (by omega)).trans (b5.mono (by omega)))))
 rw[s1] at h2;rw[s2] at h3;rw[s4] at h5;rw[s3] at hn;refine⟨⟨⟨by omega,hb.size,by omega⟩,v,h5,hv.old fun p hp=>hb.cell hp⟩,hn.old (b5.block _ (by omega)),⟨?_,?_,?_,Fr.refl _ _⟩,hb,by omega⟩
 ·exact (b5.block _ (by omega)).trans ((b4.block _ (by omega)).trans ((b3.block _ (by omega)).trans ((b2.block _ (by omega)).trans h1)))
 ·exact (b5.block _ (by omega)).trans ((b4.block _ (by omega)).trans ((b3.block _ (by omega)).trans h2))
 ·exact (b5.block _ (by omega)).trans ((b4.block _ (by omega)).trans h3)
theorem zDu.fr {X:Nat→Prop} {b:Nat} {x er:Int} {w0 w w':World} (h:zDu b x er w0 w) (hf:Fr X w w') (h0:¬X b) (h1:¬X (b+1)) (h2:¬X (b+2)):zDu b x er w' w' :=
 ⟨(hf.block _ (Array.getElem?_eq_some_iff.1 h.1).1 h0).trans h.1,(hf.block _ (Array.getElem?_eq_some_iff.1 h.2.1).1 h1).trans h.2.1,(hf.block _ (Array.getElem?_eq_some_iff.1 h.2.2.1).1 h2).trans h.2.2.1,Fr.refl _ _⟩
theorem zSi (v:Value) (l:List Tok) (en:Int) (w:World) (hv:TArg w.heap.size w v l) :
 Calls Tryz.prog 69 #[v,.int .i64 en] w fun e w'=>∃vs cs,e=.returned (.tuple #[modV vs cs (zEU en l).1,.int .i64 (zEU en l).2.1,.int .i64 (zEU en l).2.2])∧ModR w.heap.size w' vs cs (zEU en l).1∧Below w.heap.size w w':=by
 have HV:Hid (TArg w.heap.size w v l):=hv;obtain⟨a,c,rfl,_⟩:=hv;obtain⟨m0,x0,e0,hA⟩:∃m0 x0 e0,zEU en l=(m0,x0,e0):=⟨_,_,_,rfl⟩;have HA:Hid (zEU en l=(m0,x0,e0)):=hA;rw[hA];simp only;clear hA;have hmf:∀(fn:Fn) (first cap:Array Value) (w:World),(Instr.makeFunc fn first cap).run Tryz.prog w=.ok (.func fn first cap) w:=fun _ _ _ _=>rfl
 have hmm:=@run_makeMap Tryz.prog;go_enter_defers Tryz.func69,Tryz.ntmps69
 go_wp2_with fail
 obtain⟨W,hW⟩:∃W,W=((((w.alloc (.cells #[.slice none 0 0,.slice none 0 0,.int .i64 0,.int .i64 0] 25)).alloc (.cells #[.int .i64 0] 3)).alloc (.cells #[.int .i64 0] 30)).alloc (.map #[] 0)).alloc (.cells #[.slice a l.length c,.int .i64 en,.map (some (w.heap.size+1+1+1))] 177):=⟨_,rfl⟩;have HRW:Hid (Rd w.heap.size (w.heap.size+1+1+1+1) (w.heap.size+1+1+1) en W l∧NmS W (w.heap.size+1+1+1) []∧zDu w.heap.size 0 0 W W∧Below w.heap.size w W∧W.heap.size=w.heap.size+5):=zPE w _ l en HV.out W hW;rw[←hW];clear hW hmf hmm;refine (zPC w.heap.size (w.heap.size+1+1+1+1) (w.heap.size+1+1+1) en W l HRW.out.1 HRW.out.2.1 (by omega)).mono ?_
 intro e w1 hp;cases hs:zIc en l with
 | bad x er =>
   rw[hs] at hp;obtain⟨rfl,hfr⟩:=hp;have HPB:Hid (m0=zEG∧x0=x∧e0=er):=by have h:=HA.out;unfold zEU at h;rw[hs] at h;cases h;exact⟨rfl,rfl,rfl⟩
   have HF:Hid (Fr (XRM (w.heap.size+1+1+1+1) (w.heap.size+1+1+1)) W w1):=hfr;have HT1:Hid (zDu w.heap.size 0 0 w1 w1):=HRW.out.2.2.1.fr hfr (fun h=>by rcases h with h | h <;> omega) (fun h=>by rcases h with h | h <;> omega) (fun h=>by rcases h with h | h <;> omega)
   clear hs hfr;go_wp2
   refine leaves_cons (f:=123) (args:=#[.pointer (some ⟨w.heap.size,0,none⟩),.pointer (some ⟨w.heap.size+1,0,none⟩),.pointer (some ⟨w.heap.size+2,0,none⟩)]) (by simp) (by simp[go_sem]) ?_
   refine (zQz w.heap.size x er w1 HT1.out).mono ?_;rintro e u' w2 ⟨rfl,rfl,h0,h1,h2,hfr2⟩;have HE:Hid (Below w.heap.size w w2):=Fr.toBelow (((Fr.below HRW.out.2.2.2.1).trans (HF.out.weak fun k hk=>by rcases hk with rfl | rfl <;> omega)).trans (hfr2.weak fun k hk=>by omega))
   have r0:=blk9 h0 0 _ rfl;have r1:=blk9 h0 1 _ rfl;have r2:=blk9 h0 2 _ rfl;have r3:=blk9 h0 3 _ rfl;have r4:=blk9 h1 0 _ rfl;have r5:=blk9 h2 0 _ rfl;clear h0 h1 h2 hfr2;obtain⟨k0,k1,k2⟩:=HPB.out;subst k0 k1 k2;simp[Leaves,settle,results,Tryz.results69,go_sem,r0,r1,r2,r3,r4,r5];exact⟨_,_,rfl,zEC _ _,HE.out⟩
 | ok m r =>
   rw[hs] at hp;obtain⟨v,rfl,⟨vs,cs,rfl,hvo,hco,hsz,hvl,hcl⟩,hrd,hfr⟩:=hp;have HPB:Hid (m0=m∧x0=0∧e0=0):=by have h:=HA.out;unfold zEU at h;rw[hs] at h;cases h;exact⟨rfl,rfl,rfl⟩
   have HF:Hid (Fr (XRM (w.heap.size+1+1+1+1) (w.heap.size+1+1+1)) W w1):=hfr;have HT1:Hid (zDu w.heap.size 0 0 w1 w1):=HRW.out.2.2.1.fr hfr (fun h=>by rcases h with h | h <;> omega) (fun h=>by rcases h with h | h <;> omega) (fun h=>by rcases h with h | h <;> omega)
   have HVO:Hid (w1.ownsRow W.heap.size 71 3 vs m.vars.length (m.vars.flatMap varC)):=hvo;have HCO:Hid (LCr W.heap.size w1 cs m.cons):=hco;have HSZ:Hid (∀x∈m.vars,x.name.size≤maxLen):=hsz;obtain⟨a1,c1,hv1⟩:=zAB hvo;obtain⟨a2,c2,hv2⟩:=hco.form;subst hv1 hv2;obtain⟨h0,h1,h2,_⟩:=HT1.out;have r0:=blk9 h0 0 _ rfl;have r1:=blk9 h0 1 _ rfl;have r2:=blk9 h0 2 _ rfl;have r3:=blk9 h0 3 _ rfl;have r4:=blk9 h1 0 _ rfl;have r5:=blk9 h2 0 _ rfl;have z0:=frz9 h0 0;have z1:=frz9 h0 1;have z2:=frz9 h0 2;have z3:=frz9 h0 3;have z4:=frz9 h1 0;have z5:=frz9 h2 0;clear hs hfr hrd hvo hco hsz hvl hcl h0 h1 h2;unfold modV;go_wp2
   refine leaves_cons (f:=123) (args:=#[.pointer (some ⟨w.heap.size,0,none⟩),.pointer (some ⟨w.heap.size+1,0,none⟩),.pointer (some ⟨w.heap.size+2,0,none⟩)]) (by simp) (by simp[go_sem]) ?_
   refine (zPD w.heap.size _).mono ?_;rintro e u' w2 ⟨rfl,rfl,rfl⟩;obtain⟨k0,k1,k2⟩:=HPB.out;subst k0 k1 k2;simp[Leaves,settle,results,Tryz.results69,go_sem, *];have hsW:=HRW.out.2.2.2.2;have fE:Fr (fun k=>k=w.heap.size∨k=w.heap.size+1∨k=w.heap.size+2) w1 _:=((((((Fr.refl _ w1).setX (p:=⟨w.heap.size,0,none⟩) (Or.inl rfl) (.slice a1 m0.vars.length c1)).setX (p:=⟨w.heap.size,1,none⟩) (Or.inl rfl) (.slice a2 m0.cons.length c2)).setX (p:=⟨w.heap.size,2,none⟩) (Or.inl rfl) (.int .i64 m0.goal)).setX (p:=⟨w.heap.size,3,none⟩) (Or.inl rfl) (.int .i64 m0.var)).setX (p:=⟨w.heap.size+1,0,none⟩) (Or.inr (Or.inl rfl)) (.int .i64 0)).setX (p:=⟨w.heap.size+1+1,0,none⟩) (Or.inr (Or.inr rfl)) (.int .i64 0)
   refine⟨_,_,rfl,(ModR.fr (B:=W.heap.size) (m:=m0) ⟨HVO.out,HCO.out,HSZ.out⟩ fE (fun k hk=>by omega)).mono (by omega),?_⟩
   exact Fr.toBelow (((Fr.below HRW.out.2.2.2.1).trans (HF.out.weak fun k hk=>by rcases hk with rfl | rfl <;> omega)).trans (fE.weak fun k hk=>by omega))
theorem zHU (s:ByteArray) (a b:Nat):(s.extract a b).data.toList=(s.data.toList.drop a).take (b - a):=by
 rw[ByteArray.data_extract,Array.toList_extract]
theorem zFu (p:UInt8→Bool):∀(l:List UInt8),∀c∈l.take (l.takeWhile p).length,p c=true
 | [],c,h=>by simp at h
 | x :: l,c,h=>by
   by_cases hx:p x=true
   ·rw[List.takeWhile_cons_of_pos hx] at h
    simp only[List.length_cons,List.take_succ_cons,List.mem_cons] at h;rcases h with rfl | h
    ·exact hx
    ·exact zFu p l c h
   ·rw[List.takeWhile_cons_of_neg hx] at h
    simp at h
theorem zUE (s:ByteArray) (hs:s.size≤4000) (j:Nat) (hj:j<s.size) (he:zBE (zAj s j).kind (zAj s j).text=0):zJE (zAj s j):=by
 refine⟨Nat.le_trans (zJJ s j) hs,fun hk=>?_⟩
 have hk0:=zEX s j he;have hlj:j<s.data.toList.length:=by rw[zA5];exact hj
 have hgt:=zGI _ _ hlj hk0;have hle:=(zFb _ _ hlj).2;rw[zA5] at hle;have ht:zAj s j=⟨zAo s.data.toList j,j,s.extract j (zA8 s.data.toList j)⟩:=by unfold zAj;rw[if_neg hk0]
 rw[hk] at he;rw[ht] at he hk ⊢;simp only at he hk ⊢;have hsz:(s.extract j (zA8 s.data.toList j)).size=zA8 s.data.toList j - j:=zAx s _ _ hle;refine⟨⟨by omega,?_⟩,?_⟩
 ·unfold zBE at he
  rw[if_neg (by decide),if_pos rfl] at he
  split at he
  ·cases he
  ·omega
 ·have hk2:zAo s.data.toList j=2:=by omega
  have hL:¬isL (zBh s.data.toList j)=true:=by
   intro h;unfold zAo at hk2;rw[if_pos h] at hk2;cases hk2
  have hD:isD (zBh s.data.toList j)=true:=by
   unfold zAo at hk2;rw[if_neg hL] at hk2;by_cases h:isD (zBh s.data.toList j)=true
   ·exact h
   ·rw[if_neg h] at hk2;split at hk2 <;> cases hk2
  have hend:zA8 s.data.toList j=zAq isD s.data.toList j:=by unfold zA8;rw[if_neg hL,if_pos hD]
  intro c hc;rw[zHU,hend] at hc;unfold zAq at hc;rw[Nat.add_sub_cancel_left] at hc;have:=zFu isD _ c hc;unfold isD at this;simp at this;omega
theorem zPF (s:ByteArray) (hs:s.size≤4000):∀(f k:Nat) (acc:List Tok),(∀t∈acc,zJE t)→k≤s.size→acc.length≤k→(∀t∈(zDE f s k acc).1,zJE t)∧(zDE f s k acc).1.length≤s.size:=by
 intro f
 induction f with
 | zero=>intro k acc h1 h2 h3;exact⟨h1,by simp only[zDE];omega⟩
 | succ f ih =>
   intro k acc h1 h2 h3;have hk:=zHm false s.data.toList k (by rw[zA5];exact h2)
   by_cases h4:zAS false s.data.toList k<s.size
   ·by_cases h5:zBE (zAj s (zAS false s.data.toList k)).kind (zAj s (zAS false s.data.toList k)).text=0
    ·rw[zB1 f s k _ acc rfl h4 h5]
     have hlj:zAS false s.data.toList k<s.data.toList.length:=by rw[zA5];exact h4
     have hgt:=zGI _ _ hlj (zEX s _ h5);have hle:=(zFb _ _ hlj).2;rw[zA5] at hle;refine ih _ _ (fun t ht=>?_) hle (by simp;omega)
     rcases List.mem_append.1 ht with ht | ht
     ·exact h1 t ht
     ·rw[List.mem_singleton.1 ht];exact zUE s hs _ h4 h5
    ·rw[zCz f s k _ acc rfl h4 h5];exact⟨fun t ht=>(by cases ht),(by simp)⟩
   ·rw[zDy _ s k acc h4];exact⟨h1,by simp only;omega⟩
theorem zLq (s:ByteArray):(∀t∈(zAO s).1,zJE t)∧(zAO s).1.length≤4000:=by
 unfold zAO
 split
 ·exact⟨fun t ht=>(by cases ht),(by simp)⟩
 ·obtain⟨h1,h2⟩:=zPF s (by omega) (s.size+1) 0 [] (fun t ht=>(by cases ht)) (Nat.zero_le _) (Nat.le_refl _)
  exact⟨h1,by omega⟩
theorem zN7 {w:World} {B:Nat} {v:Value} {l:List Tok} (h:w.ownsRow B 158 3 v l.length (zAr l)) (hl:l.length≤4000) (ht:∀t∈l,zJE t):TArg w.heap.size w v l:=by
 obtain⟨a,c,hv,hm,hr⟩:=zE0 h;refine⟨a,c,hv,hm,⟨hl,ht⟩,fun i z hz=>?_⟩
 have hi:i<l.length:=(List.getElem?_eq_some_iff.1 hz).1;obtain⟨g,ha,hg,hc⟩:=hr i hi;have hf:=zFV zBH 3 (fun _=>rfl) l i
 exact⟨g,0,ha,hg,by rw[Nat.zero_add,hc _ (by omega)];exact hf 0 z hz (by omega),by rw[Nat.zero_add,hc _ (by omega)];exact hf 1 z hz (by omega),by rw[Nat.zero_add,hc _ (by omega)];exact hf 2 z hz (by omega)⟩
def zAy (s:ByteArray):Mod×Int×Int :=
 if (zAO s).2.2=0 then
  if (zEU s.size (zAO s).1).2.2=0 then
   if zAF (zEU s.size (zAO s).1).1=0 then ((zEU s.size (zAO s).1).1,0,0) else (zEG,0,zAF (zEU s.size (zAO s).1).1)
  else (zEG,(zEU s.size (zAO s).1).2.1,(zEU s.size (zAO s).1).2.2)
 else (zEG,(zAO s).2.1,(zAO s).2.2)
theorem zN8 {s:ByteArray} {ts:List Tok} {a:Nat} {m:Mod} {x:Int} (hs:zAO s=(ts,a,0)) (hr:zEU s.size ts=(m,x,0)) (hc:zAF m=0):zAy s=(m,0,0):=by
 unfold zAy;simp[hs,hr,hc]
theorem zIn {s:ByteArray} {ts:List Tok} {a:Nat} {m:Mod} {x:Int} (hs:zAO s=(ts,a,0)) (hr:zEU s.size ts=(m,x,0)) (hc:¬zAF m=0):zAy s=(zEG,0,zAF m):=by
 unfold zAy;simp[hs,hr,hc]
theorem zJ3 {s:ByteArray} {ts:List Tok} {a:Nat} {m:Mod} {x e:Int} (hs:zAO s=(ts,a,0)) (hr:zEU s.size ts=(m,x,e)) (he:¬e=0):zAy s=(zEG,x,e):=by
 unfold zAy;simp[hs,hr,he]
theorem zJ4 {s:ByteArray} {ts:List Tok} {a:Nat} {e:Int} (hs:zAO s=(ts,a,e)) (he:¬e=0):zAy s=(zEG,(a:Int),e):=by
 unfold zAy;simp[hs,he]
theorem ret4 {w w1:World} (h:Below w.heap.size w w1) (u0 u1 u2 u3:Value):Below w.heap.size w ((((w1.setCell ⟨w.heap.size,0,none⟩ u0).setCell ⟨w.heap.size,1,none⟩ u1).setCell ⟨w.heap.size,2,none⟩ u2).setCell ⟨w.heap.size,3,none⟩ u3) :=
 Fr.toBelow (((((Fr.below (X:=fun k=>w.heap.size≤k) h).setX (p:=⟨w.heap.size,0,none⟩) (Nat.le_refl _) u0).setX (p:=⟨w.heap.size,1,none⟩) (Nat.le_refl _) u1).setX (p:=⟨w.heap.size,2,none⟩) (Nat.le_refl _) u2).setX (p:=⟨w.heap.size,3,none⟩) (Nat.le_refl _) u3)
theorem zN9 {w w1:World} {B:Nat} {vs cs:Value} {m:Mod} (h:ModR B w1 vs cs m) (hB:w.heap.size<B) (u0 u1 u2 u3:Value):ModR w.heap.size ((((w1.setCell ⟨w.heap.size,0,none⟩ u0).setCell ⟨w.heap.size,1,none⟩ u1).setCell ⟨w.heap.size,2,none⟩ u2).setCell ⟨w.heap.size,3,none⟩ u3) vs cs m :=
 (h.fr (((((Fr.refl (fun k=>k<B) w1).setX (p:=⟨w.heap.size,0,none⟩) hB u0).setX (p:=⟨w.heap.size,1,none⟩) hB u1).setX (p:=⟨w.heap.size,2,none⟩) hB u2).setX (p:=⟨w.heap.size,3,none⟩) hB u3) (fun _ hk=>hk)).mono (Nat.le_of_lt hB)
theorem zLr (s:ByteArray) (hs:s.size≤maxLen) (w:World) :
 Calls Tryz.prog 28 #[.string s] w fun e w'=>∃vs cs,e=.returned (.tuple #[modV vs cs (zAy s).1,.int .i64 (zAy s).2.1,.int .i64 (zAy s).2.2])∧ModR w.heap.size w' vs cs (zAy s).1∧Below w.heap.size w w':=by
 obtain⟨m0,x0,e0,hA⟩:∃m0 x0 e0,zAy s=(m0,x0,e0):=⟨_,_,_,rfl⟩;have HA:Hid (zAy s=(m0,x0,e0)):=hA;rw[hA];simp only;clear hA;obtain⟨ts,at1,e1,hsc⟩:∃ts at1 e1,zAO s=(ts,at1,e1):=⟨_,_,_,rfl⟩;have HSC:Hid (zAO s=(ts,at1,e1)):=hsc;have HTK:Hid ((∀t∈ts,zJE t)∧ts.length≤4000):=by have h:=zLq s;rw[hsc] at h;exact h
 have HSS:Hid (s.size≤maxLen):=hs;clear hsc;unfold maxLen at hs;go_enter Tryz.func28,Tryz.ntmps28
 go_wp2_with fail
 have HBA:=zAA w (.cells #[.slice none 0 0,.slice none 0 0,.int .i64 0,.int .i64 0] 25);have HQ0:(w.alloc (.cells #[.slice none 0 0,.slice none 0 0,.int .i64 0,.int .i64 0] 25)).heap[w.heap.size]? = some (.cells #[.slice none 0 0,.slice none 0 0,.int .i64 0,.int .i64 0] 25):=heap_alloc_new _ _;refine (zFc s HSS.out _).mono ?_;rw[HSC.out];rintro e w1 ⟨v1,rfl,hown1,hb1⟩;have HO1:Hid (TArg w1.heap.size w1 v1 ts):=zN7 hown1 HTK.out.2 HTK.out.1;have HB1:Hid (Below w.heap.size w w1):=HBA.trans (hb1.mono (by simp))
 have HQ1:Hid (w1.heap[w.heap.size]? = some (.cells #[.slice none 0 0,.slice none 0 0,.int .i64 0,.int .i64 0] 25)):=(hb1.block _ (by simp)).trans HQ0
 obtain⟨av,cv,hv1⟩:=zAB hown1;subst hv1;clear hown1 hb1 HBA HQ0;by_cases he1:e1=0
 ·subst he1
  go_wp2_with fail
  refine (zSi _ ts _ w1 HO1.out).mono ?_;obtain⟨m2,x2,e2,hR⟩:∃m2 x2 e2,zEU s.size ts=(m2,x2,e2):=⟨_,_,_,rfl⟩;have HR:Hid (zEU s.size ts=(m2,x2,e2)):=hR;rw[hR];simp only;clear hR;rintro e w2 ⟨vs,cs,rfl,hma,hb2⟩;have HMA:Hid (ModR w1.heap.size w2 vs cs m2):=hma;have HWW:Hid (w.heap.size<w1.heap.size):=(Array.getElem?_eq_some_iff.1 HQ1.out).1;have HB2:Hid (Below w.heap.size w w2):=HB1.out.trans (hb2.mono HB1.out.size);have HQ2:Hid (w2.heap[w.heap.size]? = some (.cells #[.slice none 0 0,.slice none 0 0,.int .i64 0,.int .i64 0] 25)):=(hb2.block _ (Array.getElem?_eq_some_iff.1 HQ1.out).1).trans HQ1.out;obtain⟨a1,c1,hv2⟩:=zAB hma.1;obtain⟨a2,c2,hv3⟩:=hma.2.1.form;subst hv2 hv3;clear hma;clear hb2;by_cases he2:e2=0
  ·subst he2
   obtain⟨ce,hce⟩:∃ce,zAF m2=ce:=⟨_,rfl⟩;have HCE:Hid (zAF m2=ce):=hce;clear hce;unfold modV;go_wp2_with fail
   have hlt2:w.heap.size<w2.heap.size:=(Array.getElem?_eq_some_iff.1 HQ2.out).1;have HM3:Hid (ModR w1.heap.size (w2.alloc (.cells #[.slice a1 m2.vars.length c1,.slice a2 m2.cons.length c2,.int .i64 m2.goal,.int .i64 m2.var] 25)) (.slice a1 m2.vars.length c1) (.slice a2 m2.cons.length c2) m2):=HMA.out.below (zAA _ _);have HB3:Hid (Below w.heap.size w (w2.alloc (.cells #[.slice a1 m2.vars.length c1,.slice a2 m2.cons.length c2,.int .i64 m2.goal,.int .i64 m2.var] 25))):=HB2.out.trans ((zAA _ _).mono HB2.out.size);have HQ3:Hid ((w2.alloc (.cells #[.slice a1 m2.vars.length c1,.slice a2 m2.cons.length c2,.int .i64 m2.goal,.int .i64 m2.var] 25)).heap[w.heap.size]? = some (.cells #[.slice none 0 0,.slice none 0 0,.int .i64 0,.int .i64 0] 25)):=((zAA _ _).block _ hlt2).trans HQ2.out;have HC3:Hid ((w2.alloc (.cells #[.slice a1 m2.vars.length c1,.slice a2 m2.cons.length c2,.int .i64 m2.goal,.int .i64 m2.var] 25)).heap[w2.heap.size]? = some (.cells #[.slice a1 m2.vars.length c1,.slice a2 m2.cons.length c2,.int .i64 m2.goal,.int .i64 m2.var] 25)):=heap_alloc_new _ _;refine (zCD m2 _ _ _ HM3.out.marg).mono ?_;rw[HCE.out];rintro e w4 ⟨rfl,hb4⟩;have HM4:Hid (ModR w1.heap.size w4 (.slice a1 m2.vars.length c1) (.slice a2 m2.cons.length c2) m2):=HM3.out.below hb4;have HB4:Hid (Below w.heap.size w w4):=HB3.out.trans (hb4.mono HB3.out.size);have HQ4:Hid (w4.heap[w.heap.size]? = some (.cells #[.slice none 0 0,.slice none 0 0,.int .i64 0,.int .i64 0] 25)):=(hb4.block _ (Array.getElem?_eq_some_iff.1 HQ3.out).1).trans HQ3.out;have HC4:Hid (w4.heap[w2.heap.size]? = some (.cells #[.slice a1 m2.vars.length c1,.slice a2 m2.cons.length c2,.int .i64 m2.goal,.int .i64 m2.var] 25)):=(hb4.block _ (Array.getElem?_eq_some_iff.1 HC3.out).1).trans HC3.out;clear hb4 HM3 HB3 HQ3 HC3;have d0:=blk9 HC4.out 0 _ rfl;have d1:=blk9 HC4.out 1 _ rfl;have d2:=blk9 HC4.out 2 _ rfl;have d3:=blk9 HC4.out 3 _ rfl;have r0:=blk9 HQ4.out 0 _ rfl;have r1:=blk9 HQ4.out 1 _ rfl;have r2:=blk9 HQ4.out 2 _ rfl;have r3:=blk9 HQ4.out 3 _ rfl;have z0:=frz9 HQ4.out 0;have z1:=frz9 HQ4.out 1;have z2:=frz9 HQ4.out 2;have z3:=frz9 HQ4.out 3;by_cases hc:ce=0
   ·subst hc
    have HX:Hid (m0=m2∧x0=0∧e0=0):=by
     have h:=HA.out;rw[zN8 HSC.out HR.out HCE.out] at h;cases h
     exact⟨rfl,rfl,rfl⟩
    go_wp2
    refine bodyPost_ret (by simp[results,Tryz.results28,go_sem, *];try rfl) rfl ?_
    obtain⟨k0,k1,k2⟩:=HX.out;subst k0 k1 k2;exact⟨_,_,rfl,zN9 HM4.out HWW.out _ _ _ _,ret4 HB4.out _ _ _ _⟩
   ·have hcb:(ce != 0)=true:=by simpa using hc
    have HX:Hid (m0=zEG∧x0=0∧e0=ce):=by
     have h:=HA.out;rw[zIn HSC.out HR.out (by rw[HCE.out];exact hc),HCE.out] at h
     cases h
     exact⟨rfl,rfl,rfl⟩
    clear hc;go_wp2
    refine bodyPost_ret (by simp[results,Tryz.results28,go_sem, *];try rfl) rfl ?_
    obtain⟨k0,k1,k2⟩:=HX.out;subst k0 k1 k2;exact⟨_,_,rfl,zEC _ _,ret4 HB4.out _ _ _ _⟩
  ·have he2b:(e2 != 0)=true:=by simpa using he2
   have HX:Hid (m0=zEG∧x0=x2∧e0=e2):=by
    have h:=HA.out;rw[zJ3 HSC.out HR.out he2] at h;cases h
    exact⟨rfl,rfl,rfl⟩
   have r0:=blk9 HQ2.out 0 _ rfl;have r1:=blk9 HQ2.out 1 _ rfl;have r2:=blk9 HQ2.out 2 _ rfl;have r3:=blk9 HQ2.out 3 _ rfl;have z0:=frz9 HQ2.out 0;have z1:=frz9 HQ2.out 1;have z2:=frz9 HQ2.out 2;have z3:=frz9 HQ2.out 3;have hlt2:w.heap.size<w2.heap.size:=(Array.getElem?_eq_some_iff.1 HQ2.out).1;have HB3:Hid (Below w.heap.size w (w2.alloc (.cells #[.slice a1 m2.vars.length c1,.slice a2 m2.cons.length c2,.int .i64 m2.goal,.int .i64 m2.var] 25))):=HB2.out.trans ((zAA _ _).mono HB2.out.size);clear he2;unfold modV;go_wp2
   refine bodyPost_ret (by simp[results,Tryz.results28,go_sem, *];try rfl) rfl ?_
   obtain⟨k0,k1,k2⟩:=HX.out;subst k0 k1 k2;refine⟨_,_,rfl,zEC _ _,?_⟩;rw[←World.setCell_alloc_past _ _ _ _ (by simpa using hlt2),←World.setCell_alloc_past _ _ _ _ (by simpa using hlt2),←World.setCell_alloc_past _ _ _ _ (by simpa using hlt2),←World.setCell_alloc_past _ _ _ _ (by simpa using hlt2)]
   exact ret4 HB3.out _ _ _ _
 ·have he1b:(e1 != 0)=true:=by simpa using he1
  have HX:Hid (m0=zEG∧x0=(at1:Int)∧e0=e1):=by
   have h:=HA.out;rw[zJ4 HSC.out he1] at h;cases h
   exact⟨rfl,rfl,rfl⟩
  have r0:=blk9 HQ1.out 0 _ rfl;have r1:=blk9 HQ1.out 1 _ rfl;have r2:=blk9 HQ1.out 2 _ rfl;have r3:=blk9 HQ1.out 3 _ rfl;have z0:=frz9 HQ1.out 0;have z1:=frz9 HQ1.out 1;have z2:=frz9 HQ1.out 2;have z3:=frz9 HQ1.out 3;clear he1;go_wp2
  refine bodyPost_ret (by simp[results,Tryz.results28,go_sem, *];try rfl) rfl ?_
  obtain⟨k0,k1,k2⟩:=HX.out;subst k0 k1 k2;exact⟨_,_,rfl,zEC _ _,ret4 HB1.out _ _ _ _⟩
end Go.Proofs.YtdjbejlbmaiocagGreatDoor
