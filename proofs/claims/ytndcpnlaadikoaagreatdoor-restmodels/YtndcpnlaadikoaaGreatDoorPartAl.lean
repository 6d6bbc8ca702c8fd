/- What the proof leans on, part 12. -/
import Derived.Test.YtndcpnlaadikoaaGreatDoorPartAk
import Derived.Test.YtndcpnlaadikoaaGreatDoorPartAb
import Derived.Test.YtndcpnlaadikoaaGreatDoorPartAf
import Derived.Laws.OwnMore
set_option maxRecDepth 100000
set_option maxHeartbeats 1600000
namespace Go.Proofs.YtndcpnlaadikoaaGreatDoor
open Go.RowKit
theorem zMn (b:Nat) (v:Value):(#[.pointer (some ⟨b,0,none⟩),.pointer (some ⟨b+1,0,none⟩),.pointer (some ⟨b+2,0,none⟩)]:Array Value)++((Array.replicate 19 undef).setIfInBounds 3 v).setIfInBounds 0 v=#[.pointer (some ⟨b,0,none⟩),.pointer (some ⟨b+1,0,none⟩),.pointer (some ⟨b+2,0,none⟩),v,undef,undef,v,undef,undef,undef,undef,undef,undef,undef,undef,undef,undef,undef,undef,undef,undef,undef]:=by kernel_rfl
theorem zQi (x er:Int) (w:World):Sem.run Tryz.prog (Instr.typeAssert (.iface 204 (.agg #[.int .i64 x,.int .i64 er])) 20 204 true) w=.ok (.tuple #[.agg #[.int .i64 x,.int .i64 er],.bool true]) w:=by kernel_rfl
theorem zNi (b:Nat) (w:World) :
 CallsD Tryz.prog 137 #[.pointer (some ⟨b,0,none⟩),.pointer (some ⟨b+1,0,none⟩),.pointer (some ⟨b+2,0,none⟩)] .returning w fun e u' w'=>e=.returned (.tuple #[])∧u'=.returning∧w'=w:=by
 refine callsD_of_wpS Tryz.func137 rfl fun c₀ cs hu=>?_
 apply wpS_seq;apply wpS_region;simp[wpOpsS,go_sem,recoverD,hu,Tryz.ntmps137,Exit.thenS];rw[zMn];refine wpS_of_wp ?_;go_wp2
 cases c₀
 simp_all[bodyPostS,results,Tryz.results137]
def zC8 (b:Nat) (x er:Int) (w0 w:World):Prop :=
 w.heap[b]? = some (.cells #[.slice none 0 0,.slice none 0 0,.int .i64 0,.int .i64 0] 25)∧w.heap[b+1]? = some (.cells #[.int .i64 x] 3)∧w.heap[b+2]? = some (.cells #[.int .i64 er] 29)∧Fr (fun k=>k=b∨k=b+1∨k=b+2) w0 w
theorem zC8.zero {b:Nat} {x er:Int} {w0 w:World} (h:zC8 b x er w0 w) (i:Nat) (u:Value) (hcs:(#[.slice none 0 0,.slice none 0 0,.int .i64 0,.int .i64 0]:Array Value).setIfInBounds i u=#[.slice none 0 0,.slice none 0 0,.int .i64 0,.int .i64 0]):zC8 b x er w0 (w.setCell ⟨b,i,none⟩ u):=by
 obtain⟨h0,h1,h2,h3⟩:=h;refine⟨?_,?_,?_,h3.setX (p:=⟨b,i,none⟩) (Or.inl rfl) u⟩
 ·rw[heap_setCell_same w b i _ _ u h0,hcs]
 ·exact (Below.heap_setCell _ _ _ _ (show b+1≠b by omega)).trans h1
 ·exact (Below.heap_setCell _ _ _ _ (show b+2≠b by omega)).trans h2
theorem zC8.one {b:Nat} {x er y:Int} {w0 w:World} (h:zC8 b x er w0 w):zC8 b y er w0 (w.setCell ⟨b+1,0,none⟩ (.int .i64 y)):=by
 obtain⟨h0,h1,h2,h3⟩:=h;refine⟨?_,?_,?_,h3.setX (p:=⟨b+1,0,none⟩) (Or.inr (Or.inl rfl)) _⟩
 ·exact (Below.heap_setCell _ _ _ _ (show b≠b+1 by omega)).trans h0
 ·rw[heap_setCell_same w (b+1) 0 _ _ _ h1];rfl
 ·exact (Below.heap_setCell _ _ _ _ (show b+2≠b+1 by omega)).trans h2
theorem zC8.two {b:Nat} {x er y:Int} {w0 w:World} (h:zC8 b x er w0 w):zC8 b x y w0 (w.setCell ⟨b+2,0,none⟩ (.int .i64 y)):=by
 obtain⟨h0,h1,h2,h3⟩:=h;refine⟨?_,?_,?_,h3.setX (p:=⟨b+2,0,none⟩) (Or.inr (Or.inr rfl)) _⟩
 ·exact (Below.heap_setCell _ _ _ _ (show b≠b+2 by omega)).trans h0
 ·exact (Below.heap_setCell _ _ _ _ (show b+1≠b+2 by omega)).trans h1
 ·rw[heap_setCell_same w (b+2) 0 _ _ _ h2];rfl
theorem zC8.below {b:Nat} {x er:Int} {w0 w w':World} (h:zC8 b x er w0 w) (hb:Below w.heap.size w w'):zC8 b x er w0 w' :=
 ⟨(hb.block _ (Array.getElem?_eq_some_iff.1 h.1).1).trans h.1,(hb.block _ (Array.getElem?_eq_some_iff.1 h.2.1).1).trans h.2.1,(hb.block _ (Array.getElem?_eq_some_iff.1 h.2.2.1).1).trans h.2.2.1,h.2.2.2.trans (Fr.below hb)⟩
theorem zOz (b:Nat) (x er:Int) (w:World) (hT:zC8 b 0 0 w w) :
 CallsD Tryz.prog 137 #[.pointer (some ⟨b,0,none⟩),.pointer (some ⟨b+1,0,none⟩),.pointer (some ⟨b+2,0,none⟩)] (.panicking [{ v:=.iface 204 (.agg #[.int .i64 x,.int .i64 er]),recovered:=false }]) w fun e u' w'=>e=.returned (.tuple #[])∧u'=.panicking [{ v:=.iface 204 (.agg #[.int .i64 x,.int .i64 er]),recovered:=true }] ∧
  zC8 b x er w w':=by
 have HT:Hid (zC8 b 0 0 w w):=hT;obtain⟨h0,h1,h2,_⟩:=hT;have r0:=blk9 h0 0 _ rfl;have r1:=blk9 h0 1 _ rfl;have r2:=blk9 h0 2 _ rfl;have r3:=blk9 h0 3 _ rfl;have r4:=blk9 h1 0 _ rfl;have r5:=blk9 h2 0 _ rfl;have z0:=frz9 h0 0;have z1:=frz9 h0 1;have z2:=frz9 h0 2;have z3:=frz9 h0 3;have z4:=frz9 h1 0;have z5:=frz9 h2 0;have hl0:b<w.heap.size:=(Array.getElem?_eq_some_iff.1 h0).1;have hl1:b+1<w.heap.size:=(Array.getElem?_eq_some_iff.1 h1).1;have hl2:b+2<w.heap.size:=(Array.getElem?_eq_some_iff.1 h2).1;clear h0 h1 h2;refine callsD_of_wpS Tryz.func137 rfl fun c₀ cs hu=>?_
 apply wpS_seq;apply wpS_region;simp[wpOpsS,go_sem,recoverD,hu,Tryz.ntmps137,Exit.thenS];rw[zMn];refine wpS_of_wp ?_;have hta:=zQi x er;go_wp2_with fail
 go_region
 all_goals
  refine⟨rfl,_,rfl,_,results_none rfl _ _ _,rfl,rfl,?_⟩;refine zC8.below ?_ (Below.refl _ _).drew;refine zC8.below ?_ (zAA _ _);exact (((((HT.out.zero 0 _ rfl).zero 1 _ rfl).zero 2 _ rfl).zero 3 _ rfl).one (y:=x)).two (y:=er)
open Go.RowKit Go.Maps
theorem zDI {α:Type} (f:α→List Value) (s:Nat) (hf:∀x,(f x).length=s):∀(l:List α) (i k:Nat) (x:α),l[i]? = some x→k<s→(l.flatMap f)[i * s+k]? = (f x)[k]?
 | [],i,k,x,h,_=>by simp at h
 | y :: l,0,k,x,h,hk=>by
   simp at h;subst h;rw[List.flatMap_cons,Nat.zero_mul,Nat.zero_add,List.getElem?_append_left (by rw[hf];exact hk)]
 | y :: l,i+1,k,x,h,hk=>by
   have h2:l[i]? = some x:=by simpa using h
   rw[List.flatMap_cons,List.getElem?_append_right (by rw[hf,Nat.add_mul];omega),hf,show (i+1) * s+k - s=i * s+k by rw[Nat.add_mul];omega]
   exact zDI f s hf l i k x h2 hk
theorem zDZ {w:World} {B:Nat} {e:TypeId} {size n:Nat} {v:Value} {xs:List Value} (h:w.ownsRow B e size v n xs) :
 ∃a c,v=.slice a n c∧(n≤c∧c≤maxLen)∧∀i,i<n→∃g,a=some ⟨g,0,none⟩∧g<w.heap.size∧∀j,j<n * size→w.cell? ⟨g,j,none⟩=xs[j]? := by
 have h0:=h;rcases h.2 with ⟨rfl,rfl⟩ | ⟨g,cap,cur,rfl,_,hg,hc,hm,_⟩
 ·exact⟨none,0,rfl,⟨Nat.le_refl _,Nat.zero_le _⟩,fun i hi=>absurd hi (Nat.not_lt_zero _)⟩
 ·exact⟨_,_,rfl,⟨hc,hm⟩,fun i hi=>⟨g,rfl,(Array.getElem?_eq_some_iff.1 hg).1,fun j hj=>h0.cellAt j hj⟩⟩
theorem zJb {w:World} {B:Nat} {v:Value} {l:List Int} (h:w.ownsRow B 3 1 v l.length (l.map (Value.int .i64))):IArg w v l:=by
 obtain⟨a,c,hv,hm,hr⟩:=zDZ h;refine⟨a,c,hv,hm,fun i z hz=>?_⟩
 have hi:i<l.length:=(List.getElem?_eq_some_iff.1 hz).1;obtain⟨g,ha,hg,hc⟩:=hr i hi;exact⟨g,0,ha,hg,by rw[Nat.zero_add,hc i (by omega),List.getElem?_map,hz];rfl⟩
theorem zQj {w:World} {B base:Nat} {v:Value} {l:List (List Int)} (h:LSr B base w v l):RArg w v l:=by
 obtain⟨cells,h1,h2⟩:=h;obtain⟨a,c,hv,hm,hr⟩:=zDZ h1;refine⟨a,c,hv,hm,fun i z hz=>?_⟩
 have hi:i<l.length:=(List.getElem?_eq_some_iff.1 hz).1;obtain⟨g,ha,hg,hc⟩:=hr i hi;obtain⟨x,hx,ho⟩:=h2 i z hz;exact⟨g,0,x,ha,hg,by rw[Nat.zero_add,hc i (by omega),hx],zJb ho⟩
theorem zQk {w:World} {B:Nat} {v:Value} {l:List MLit} (h:w.ownsRow B 76 3 v l.length (l.flatMap litC)):LArg w v l:=by
 obtain⟨a,c,hv,hm,hr⟩:=zDZ h;refine⟨a,c,hv,hm,fun i z hz=>?_⟩
 have hi:i<l.length:=(List.getElem?_eq_some_iff.1 hz).1;obtain⟨g,ha,hg,hc⟩:=hr i hi;have hf:=zDI litC 3 (fun _=>rfl) l i
 exact⟨g,0,ha,hg,by rw[Nat.zero_add,hc _ (by omega)];exact hf 0 z hz (by omega),by rw[Nat.zero_add,hc _ (by omega)];exact hf 1 z hz (by omega),by rw[Nat.zero_add,hc _ (by omega)];exact hf 2 z hz (by omega)⟩
theorem zQl {w:World} {B:Nat} {v:Value} {l:List MVar} (h:w.ownsRow B 67 3 v l.length (l.flatMap varC)) (hs:∀x∈l,x.name.size≤maxLen):VArg w v l:=by
 obtain⟨a,c,hv,hm,hr⟩:=zDZ h;refine⟨a,c,hv,hm,fun i z hz=>⟨hs z (List.mem_of_getElem? hz),?_⟩⟩
 have hi:i<l.length:=(List.getElem?_eq_some_iff.1 hz).1;obtain⟨g,ha,hg,hc⟩:=hr i hi;have hf:=zDI varC 3 (fun _=>rfl) l i
 exact⟨g,0,ha,hg,by rw[Nat.zero_add,hc _ (by omega)];exact hf 0 z hz (by omega),by rw[Nat.zero_add,hc _ (by omega)];exact hf 1 z hz (by omega),by rw[Nat.zero_add,hc _ (by omega)];exact hf 2 z hz (by omega)⟩
theorem zQm {w:World} {B:Nat} {vv vc vr vl:Value} {c:MCon} (h:ConR B w vv vc vr vl c):KArg w vv vc vr vl c:=⟨zJb h.1,zJb h.2.1,zQj h.2.2.1,zQk h.2.2.2⟩
theorem zQn {w:World} {B:Nat} {v:Value} {l:List MCon} (h:LCr B w v l):CArg w v l:=by
 obtain⟨cells,h1,h2⟩:=h;obtain⟨a,c,hv,hm,hr⟩:=zDZ h1;refine⟨a,c,hv,hm,fun i z hz=>?_⟩
 have hi:i<l.length:=(List.getElem?_eq_some_iff.1 hz).1;obtain⟨g,ha,hg,hc⟩:=hr i hi;obtain⟨vv,vc,vr,vl,hcl,ho⟩:=h2 i z hz;refine⟨g,0,vv,vc,vr,vl,ha,hg,?_,?_,?_,?_,?_,?_,zQm ho⟩
 ·rw[Nat.zero_add,hc _ (by omega)];exact hcl 0 (by omega)
 ·rw[Nat.zero_add,hc _ (by omega)];exact hcl 1 (by omega)
 ·rw[Nat.zero_add,hc _ (by omega)];exact hcl 2 (by omega)
 ·rw[Nat.zero_add,hc _ (by omega)];exact hcl 3 (by omega)
 ·rw[Nat.zero_add,hc _ (by omega)];exact hcl 4 (by omega)
 ·rw[Nat.zero_add,hc _ (by omega)];exact hcl 5 (by omega)
def ModR (B:Nat) (w:World) (vs cs:Value) (m:Mod):Prop:=w.ownsRow B 67 3 vs m.vars.length (m.vars.flatMap varC)∧LCr B w cs m.cons∧∀x∈m.vars,x.name.size≤maxLen
theorem ModR.marg {B:Nat} {w:World} {vs cs:Value} {m:Mod} (h:ModR B w vs cs m):MArg w vs cs m:=⟨zQl h.1 h.2.2,zQn h.2.1⟩
theorem ModR.fr {X:Nat→Prop} {B:Nat} {w w':World} {vs cs:Value} {m:Mod} (h:ModR B w vs cs m) (hf:Fr X w w') (hX:∀k,X k→k<B):ModR B w' vs cs m:=⟨zDY h.1 hf hX,h.2.1.fr hf hX,h.2.2⟩
theorem ModR.below {B:Nat} {w w':World} {vs cs:Value} {m:Mod} (h:ModR B w vs cs m) (hb:Below w.heap.size w w'):ModR B w' vs cs m:=h.fr (X:=fun _=>False) (Fr.below hb) (fun _ hk=>hk.elim)
theorem ModR.mono {B B':Nat} {w:World} {vs cs:Value} {m:Mod} (h:ModR B w vs cs m) (hb:B'≤B):ModR B' w vs cs m:=by
 obtain⟨h1,⟨cells,h2,h3⟩,h4⟩:=h;refine⟨zBG h1 hb,⟨cells,zBG h2 hb,fun i c hc=>?_⟩,h4⟩
 obtain⟨vv,vc,vr,vl,hcl,ho⟩:=h3 i c hc;exact⟨vv,vc,vr,vl,hcl,ho.mono hb⟩
def zGB:Mod:=⟨[],[],0,0⟩
def zD3 (en:Int) (l:List Tok):Mod×Int×Int:=match zMh en l with
 | .ok m _=>(m,0,0)
 | .bad x e=>(zGB,x,e)
theorem zFe (B:Nat) (w:World):ModR B w (.slice none 0 0) (.slice none 0 0) zGB:=⟨World.ownsRow_nil _ _ _ _,LCr.none _ _,fun x hx=>by simp[zGB] at hx⟩
theorem zNj (w:World) (v:Value) (l:List Tok) (en:Int) (hv:TArg w.heap.size w v l) (W:World)
 (hW:W=((((w.alloc (.cells #[.slice none 0 0,.slice none 0 0,.int .i64 0,.int .i64 0] 25)).alloc (.cells #[.int .i64 0] 3)).alloc (.cells #[.int .i64 0] 29)).alloc (.map #[] 0)).alloc (.cells #[v,.int .i64 en,.map (some (w.heap.size+1+1+1))] 209)) :
 Rd w.heap.size (w.heap.size+1+1+1+1) (w.heap.size+1+1+1) en W l∧NmS W (w.heap.size+1+1+1) []∧zC8 w.heap.size 0 0 W W∧Below w.heap.size w W∧W.heap.size=w.heap.size+5:=by
 obtain⟨w1,e1⟩:∃w1,w1=w.alloc (.cells #[.slice none 0 0,.slice none 0 0,.int .i64 0,.int .i64 0] 25):=⟨_,rfl⟩;rw[←e1] at hW;obtain⟨w2,e2⟩:∃w2,w2=w1.alloc (.cells #[.int .i64 0] 3):=⟨_,rfl⟩;rw[←e2] at hW;obtain⟨w3,e3⟩:∃w3,w3=w2.alloc (.cells #[.int .i64 0] 29):=⟨_,rfl⟩;rw[←e3] at hW;obtain⟨w4,e4⟩:∃w4,w4=w3.alloc (.map #[] 0):=⟨_,rfl⟩;rw[←e4] at hW;have s1:w1.heap.size=w.heap.size+1:=by rw[e1];simp
 have s2:w2.heap.size=w.heap.size+1+1:=by rw[e2];simp[s1]
 have s3:w3.heap.size=w.heap.size+1+1+1:=by rw[e3];simp[s2]
 have s4:w4.heap.size=w.heap.size+1+1+1+1:=by rw[e4];simp[s3]
 have s5:W.heap.size=w.heap.size+1+1+1+1+1:=by rw[hW];simp[s4]
 have b1:Below w.heap.size w w1:=by rw[e1];exact zAA _ _
 have b2:Below w1.heap.size w1 w2:=by rw[e2];exact zAA _ _
 have b3:Below w2.heap.size w2 w3:=by rw[e3];exact zAA _ _
 have b4:Below w3.heap.size w3 w4:=by rw[e4];exact zAA _ _
 have b5:Below w4.heap.size w4 W:=by rw[hW];exact zAA _ _
 have h1:w1.heap[w.heap.size]? = some (.cells #[.slice none 0 0,.slice none 0 0,.int .i64 0,.int .i64 0] 25):=by rw[e1];exact heap_alloc_new _ _
 have h2:w2.heap[w1.heap.size]? = some (.cells #[.int .i64 0] 3):=by rw[e2];exact heap_alloc_new _ _
 have h3:w3.heap[w2.heap.size]? = some (.cells #[.int .i64 0] 29):=by rw[e3];exact heap_alloc_new _ _
 have h5:W.heap[w4.heap.size]? = some (.cells #[v,.int .i64 en,.map (some (w.heap.size+1+1+1))] 209):=by rw[hW];exact heap_alloc_new _ _
 have hn:NmS w4 w3.heap.size []:=by rw[e4];exact World.ownsMap_made _ _ _ _
 have hb:Below w.heap.size w W:=b1.trans ((b2.mono (by omega)).trans ((b3.mono (by omega)).trans ((b4.mono (by omega)).trans (b5.mono (by omega)))))
 rw[s1] at h2;rw[s2] at h3;rw[s4] at h5;rw[s3] at hn;refine⟨⟨⟨by omega,hb.size,by omega⟩,v,h5,hv.old fun p hp=>hb.cell hp⟩,hn.old (b5.block _ (by omega)),⟨?_,?_,?_,Fr.refl _ _⟩,hb,by omega⟩
 ·exact (b5.block _ (by omega)).trans ((b4.block _ (by omega)).trans ((b3.block _ (by omega)).trans ((b2.block _ (by omega)).trans h1)))
 ·exact (b5.block _ (by omega)).trans ((b4.block _ (by omega)).trans ((b3.block _ (by omega)).trans h2))
 ·exact (b5.block _ (by omega)).trans ((b4.block _ (by omega)).trans h3)
theorem zC8.fr {X:Nat→Prop} {b:Nat} {x er:Int} {w0 w w':World} (h:zC8 b x er w0 w) (hf:Fr X w w') (h0:¬X b) (h1:¬X (b+1)) (h2:¬X (b+2)):zC8 b x er w' w' :=
 ⟨(hf.block _ (Array.getElem?_eq_some_iff.1 h.1).1 h0).trans h.1,(hf.block _ (Array.getElem?_eq_some_iff.1 h.2.1).1 h1).trans h.2.1,(hf.block _ (Array.getElem?_eq_some_iff.1 h.2.2.1).1 h2).trans h.2.2.1,Fr.refl _ _⟩
theorem zQo (v:Value) (l:List Tok) (en:Int) (w:World) (hv:TArg w.heap.size w v l) :
 Calls Tryz.prog 75 #[v,.int .i64 en] w fun e w'=>∃vs cs,e=.returned (.tuple #[modV vs cs (zD3 en l).1,.int .i64 (zD3 en l).2.1,.int .i64 (zD3 en l).2.2])∧ModR w.heap.size w' vs cs (zD3 en l).1∧Below w.heap.size w w':=by
 have HV:Hid (TArg w.heap.size w v l):=hv;obtain⟨a,c,rfl,_⟩:=hv;obtain⟨m0,x0,e0,hA⟩:∃m0 x0 e0,zD3 en l=(m0,x0,e0):=⟨_,_,_,rfl⟩;have HA:Hid (zD3 en l=(m0,x0,e0)):=hA;rw[hA];simp only;clear hA;have hmf:∀(fn:Fn) (first cap:Array Value) (w:World),(Instr.makeFunc fn first cap).run Tryz.prog w=.ok (.func fn first cap) w:=fun _ _ _ _=>rfl
 have hmm:=@run_makeMap Tryz.prog;go_enter_defers Tryz.func75,Tryz.ntmps75
 go_wp2_with fail
 obtain⟨W,hW⟩:∃W,W=((((w.alloc (.cells #[.slice none 0 0,.slice none 0 0,.int .i64 0,.int .i64 0] 25)).alloc (.cells #[.int .i64 0] 3)).alloc (.cells #[.int .i64 0] 29)).alloc (.map #[] 0)).alloc (.cells #[.slice a l.length c,.int .i64 en,.map (some (w.heap.size+1+1+1))] 209):=⟨_,rfl⟩;have HRW:Hid (Rd w.heap.size (w.heap.size+1+1+1+1) (w.heap.size+1+1+1) en W l∧NmS W (w.heap.size+1+1+1) []∧zC8 w.heap.size 0 0 W W∧Below w.heap.size w W∧W.heap.size=w.heap.size+5):=zNj w _ l en HV.out W hW;rw[←hW];clear hW hmf hmm;refine (zNh w.heap.size (w.heap.size+1+1+1+1) (w.heap.size+1+1+1) en W l HRW.out.1 HRW.out.2.1 (by omega)).mono ?_
 intro e w1 hp;cases hs:zMh en l with
 | bad x er =>
   rw[hs] at hp;obtain⟨rfl,hfr⟩:=hp;have HPB:Hid (m0=zGB∧x0=x∧e0=er):=by have h:=HA.out;unfold zD3 at h;rw[hs] at h;cases h;exact⟨rfl,rfl,rfl⟩
   have HF:Hid (Fr (XRM (w.heap.size+1+1+1+1) (w.heap.size+1+1+1)) W w1):=hfr;have HT1:Hid (zC8 w.heap.size 0 0 w1 w1):=HRW.out.2.2.1.fr hfr (fun h=>by rcases h with h | h <;> omega) (fun h=>by rcases h with h | h <;> omega) (fun h=>by rcases h with h | h <;> omega)
   clear hs hfr;go_wp2
   refine leaves_cons (f:=137) (args:=#[.pointer (some ⟨w.heap.size,0,none⟩),.pointer (some ⟨w.heap.size+1,0,none⟩),.pointer (some ⟨w.heap.size+2,0,none⟩)]) (by simp) (by simp[go_sem]) ?_
   refine (zOz w.heap.size x er w1 HT1.out).mono ?_;rintro e u' w2 ⟨rfl,rfl,h0,h1,h2,hfr2⟩;have HE:Hid (Below w.heap.size w w2):=Fr.toBelow (((Fr.below HRW.out.2.2.2.1).trans (HF.out.weak fun k hk=>by rcases hk with rfl | rfl <;> omega)).trans (hfr2.weak fun k hk=>by omega))
   have r0:=blk9 h0 0 _ rfl;have r1:=blk9 h0 1 _ rfl;have r2:=blk9 h0 2 _ rfl;have r3:=blk9 h0 3 _ rfl;have r4:=blk9 h1 0 _ rfl;have r5:=blk9 h2 0 _ rfl;clear h0 h1 h2 hfr2;obtain⟨k0,k1,k2⟩:=HPB.out;subst k0 k1 k2;simp[Leaves,settle,results,Tryz.results75,go_sem,r0,r1,r2,r3,r4,r5];exact⟨_,_,rfl,zFe _ _,HE.out⟩
 | ok m r =>
   rw[hs] at hp;obtain⟨v,rfl,⟨vs,cs,rfl,hvo,hco,hsz,hvl,hcl⟩,hrd,hfr⟩:=hp;have HPB:Hid (m0=m∧x0=0∧e0=0):=by have h:=HA.out;unfold zD3 at h;rw[hs] at h;cases h;exact⟨rfl,rfl,rfl⟩
   have HF:Hid (Fr (XRM (w.heap.size+1+1+1+1) (w.heap.size+1+1+1)) W w1):=hfr;have HT1:Hid (zC8 w.heap.size 0 0 w1 w1):=HRW.out.2.2.1.fr hfr (fun h=>by rcases h with h | h <;> omega) (fun h=>by rcases h with h | h <;> omega) (fun h=>by rcases h with h | h <;> omega)
   have HVO:Hid (w1.ownsRow W.heap.size 67 3 vs m.vars.length (m.vars.flatMap varC)):=hvo;have HCO:Hid (LCr W.heap.size w1 cs m.cons):=hco;have HSZ:Hid (∀x∈m.vars,x.name.size≤maxLen):=hsz;obtain⟨a1,c1,hv1⟩:=zAC hvo;obtain⟨a2,c2,hv2⟩:=hco.form;subst hv1 hv2;obtain⟨h0,h1,h2,_⟩:=HT1.out;have r0:=blk9 h0 0 _ rfl;have r1:=blk9 h0 1 _ rfl;have r2:=blk9 h0 2 _ rfl;have r3:=blk9 h0 3 _ rfl;have r4:=blk9 h1 0 _ rfl;have r5:=blk9 h2 0 _ rfl;have z0:=frz9 h0 0;have z1:=frz9 h0 1;have z2:=frz9 h0 2;have z3:=frz9 h0 3;have z4:=frz9 h1 0;have z5:=frz9 h2 0;clear hs hfr hrd hvo hco hsz hvl hcl h0 h1 h2;unfold modV;go_wp2
   refine leaves_cons (f:=137) (args:=#[.pointer (some ⟨w.heap.size,0,none⟩),.pointer (some ⟨w.heap.size+1,0,none⟩),.pointer (some ⟨w.heap.size+2,0,none⟩)]) (by simp) (by simp[go_sem]) ?_
   refine (zNi w.heap.size _).mono ?_;rintro e u' w2 ⟨rfl,rfl,rfl⟩;obtain⟨k0,k1,k2⟩:=HPB.out;subst k0 k1 k2;simp[Leaves,settle,results,Tryz.results75,go_sem, *];have hsW:=HRW.out.2.2.2.2;have fE:Fr (fun k=>k=w.heap.size∨k=w.heap.size+1∨k=w.heap.size+2) w1 _:=((((((Fr.refl _ w1).setX (p:=⟨w.heap.size,0,none⟩) (Or.inl rfl) (.slice a1 m0.vars.length c1)).setX (p:=⟨w.heap.size,1,none⟩) (Or.inl rfl) (.slice a2 m0.cons.length c2)).setX (p:=⟨w.heap.size,2,none⟩) (Or.inl rfl) (.int .i64 m0.goal)).setX (p:=⟨w.heap.size,3,none⟩) (Or.inl rfl) (.int .i64 m0.var)).setX (p:=⟨w.heap.size+1,0,none⟩) (Or.inr (Or.inl rfl)) (.int .i64 0)).setX (p:=⟨w.heap.size+1+1,0,none⟩) (Or.inr (Or.inr rfl)) (.int .i64 0)
   refine⟨_,_,rfl,(ModR.fr (B:=W.heap.size) (m:=m0) ⟨HVO.out,HCO.out,HSZ.out⟩ fE (fun k hk=>by omega)).mono (by omega),?_⟩
   exact Fr.toBelow (((Fr.below HRW.out.2.2.2.1).trans (HF.out.weak fun k hk=>by rcases hk with rfl | rfl <;> omega)).trans (fE.weak fun k hk=>by omega))
theorem zG3 (l:MLit) (x:Int) (w:World) :
 Calls Tryz.prog 172 #[.agg #[.int .i64 l.var,.int .i64 l.op,.int .i64 l.n],.int .i64 x] w fun e w'=>e=.returned (.bool (litV x l))∧Below w.heap.size w w':=by
 obtain⟨R,hR⟩:∃R,litV x l=R:=⟨_,rfl⟩;rw[hR];have hE:R=if l.op=1 then decide (x≤l.n) else if l.op=2 then decide (l.n≤x) else if l.op=3 then x==l.n else if l.op=4 then x != l.n else false:=by
  rw[←hR];rfl
 clear hR;by_cases q1:l.op=1
 ·have HE:Hid (R=decide (x≤l.n)):=by rw[hE,if_pos q1];rfl
  rw[q1];clear hE q1;go_enter Tryz.func172,Tryz.ntmps172
  go_wp2
  go_ret
  exact⟨zAD HE.out.symm,zAA _ _⟩
 ·by_cases q2:l.op=2
  ·have HE:Hid (R=decide (l.n≤x)):=by rw[hE,if_neg q1,if_pos q2];rfl
   rw[q2];clear hE q1 q2;go_enter Tryz.func172,Tryz.ntmps172
   go_wp2
   go_ret
   exact⟨zAD HE.out.symm,zAA _ _⟩
  ·by_cases q3:l.op=3
   ·have HE:Hid (R=(x==l.n)):=by rw[hE,if_neg q1,if_neg q2,if_pos q3];rfl
    rw[q3];clear hE q1 q2 q3;go_enter Tryz.func172,Tryz.ntmps172
    go_wp2
    go_ret
    exact⟨zAD HE.out.symm,zAA _ _⟩
   ·by_cases q4:l.op=4
    ·have HE:Hid (R=(x != l.n)):=by rw[hE,if_neg q1,if_neg q2,if_neg q3,if_pos q4];rfl
     rw[q4];clear hE q1 q2 q3 q4;go_enter Tryz.func172,Tryz.ntmps172
     go_wp2
     go_ret
     exact⟨zAD HE.out.symm,zAA _ _⟩
    ·have HE:Hid (R=false):=by rw[hE,if_neg q1,if_neg q2,if_neg q3,if_neg q4];rfl
     have g1:(l.op==1)=false:=by simpa using q1
     have g2:(l.op==2)=false:=by simpa using q2
     have g3:(l.op==3)=false:=by simpa using q3
     have g4:(l.op==4)=false:=by simpa using q4
     clear hE q1 q2 q3 q4;go_enter Tryz.func172,Tryz.ntmps172
     go_wp2
     go_ret
     exact⟨zAD HE.out.symm,zAA _ _⟩
def zAf (vals:List Int) (v:Int):Int:=vals.getD v.toNat 0
def ownV (vars vals:List Int):List Int:=vars.map (zAf vals)
def sumV (consts own:List Int):Int:=(List.zipWith (· * ·) consts own).sum
def litB (vals:List Int) (l:MLit):Bool:=litV (zAf vals l.var) l
def maxV:List Int→Int
 | []=>0
 | a :: r=>r.foldl max a
def zAR (c:MCon) (vals:List Int):Bool :=
 if c.kind=1 then decide (sumV c.consts (ownV c.vars vals)≤c.n)
 else if c.kind=2 then sumV c.consts (ownV c.vars vals)==c.n
 else if c.kind=3 then sumV c.consts (ownV c.vars vals) != c.n
 else if c.kind=4 then decide (ownV c.vars vals).Nodup
 else if c.kind=5 then decide (0≤(ownV c.vars vals).getD 0 0)&&(decide ((ownV c.vars vals).getD 0 0<c.consts.length)&&(c.consts.getD ((ownV c.vars vals).getD 0 0).toNat 0==(ownV c.vars vals).getD 1 0))
 else if c.kind=6 then c.rows.any fun r=>decide (r=ownV c.vars vals)
 else if c.kind=7 then (ownV c.vars vals).getD 0 0 * (ownV c.vars vals).getD 1 0==(ownV c.vars vals).getD 2 0
 else if c.kind=8 then (ownV c.vars vals).getD 0 0==maxV ((ownV c.vars vals).drop 1)
 else if c.kind=9 then c.lits.any (litB vals)
 else if c.kind=10 then (ownV c.vars vals).getD 0 0==(if litB vals (c.lits.getD 0 ⟨0,0,0⟩) then 1 else 0)
 else false
theorem zFf (vals:List Int) (k:Nat) (x:Int) (h:vals[k]? = some x):zAf vals (k:Int)=x:=by
 unfold zAf;rw[Int.toNat_natCast,List.getD_eq_getElem?_getD,h];rfl
theorem zKM (b:Bool) (w:World):Calls Tryz.prog 171 #[.bool b] w fun e w'=>e=.returned (.int .i64 (if b then 1 else 0))∧w'=w:=by
 cases b
 ·go_enter Tryz.func171,Tryz.ntmps171
  go_wp2
  go_ret
  exact⟨rfl,rfl⟩
 ·go_enter Tryz.func171,Tryz.ntmps171
  go_wp2
  go_ret
  exact⟨rfl,rfl⟩
theorem Tryz.infoInt0:(Tryz.prog.info? 3).map (fun i=>(i.zero,i.size,i.bytes))=some (some (.int .i64 0),1,8):=by kernel_rfl
theorem Tryz.underInts0:Tryz.prog.underlying 42=some (.slice 3):=by kernel_rfl
theorem zO0 (n:Nat) (hn:n≤1000) (w:World):∃w',Sem.run Tryz.prog (Instr.makeSlice 42 (.int .i64 (n:Int)) (.int .i64 (n:Int))) w=.ok (.slice (some ⟨w.heap.size,0,none⟩) n n) w' ∧
 w'.ownsRow w.heap.size 3 1 (.slice (some ⟨w.heap.size,0,none⟩) n n) n (List.replicate n (.int .i64 0))∧Below w.heap.size w w':=by
 obtain⟨i0,hi,hz0,hz1,hz2⟩:=info_parts Tryz.infoInt0;obtain⟨w',hrun,hown,hg⟩:=run_makeSlice_full w w.heap.size 42 3 i0 (.int .i64 0) 1 Tryz.underInts0 hi hz0 hz1 .i64 .i64 n (by omega) (by rw[hz2];omega) (by unfold maxLen;omega) (Nat.le_refl _)
 refine⟨w',hrun,?_,(Below.refl _ _).grown hg (Nat.le_refl _) (fun k h=>by cases h)⟩
 have:(Value.int .i64 0).cells=#[.int .i64 0]:=rfl;rw[this,Nat.mul_one,toList_madeCells_one] at hown;exact hown
theorem zDa {w:World} {base:Nat} {v:Value} {r:List Int} (h:w.ownsRow base 3 1 v r.length (r.map (Value.int .i64))):IArg w v r:=by
 rcases h.2 with ⟨rfl,hn⟩ | ⟨g,cap,cur,rfl,hg,hh,hc1,hc2,_,_⟩
 ·have:r=[]:=List.eq_nil_of_length_eq_zero hn
  subst this;exact⟨none,0,rfl,⟨Nat.le_refl _,Nat.zero_le _⟩,fun i z hz=>by simp at hz⟩
 ·refine⟨_,cap,rfl,⟨hc1,hc2⟩,fun i z hz=>⟨g,0,rfl,(Array.getElem?_eq_some_iff.1 hh).1,?_⟩⟩
  have hi:i<r.length:=(List.getElem?_eq_some_iff.1 hz).1;rw[Nat.zero_add,h.cellAt i (by omega),List.getElem?_map,hz];rfl
theorem zKN (vars vals:List Int) (u v:Value) (w:World) (hu:IArg w u vars) (hv:IArg w v vals) (hn:vars.length≤4) (hr:∀x∈vars,0≤x∧x<vals.length) :
 Calls Tryz.prog 163 #[u,v] w fun e w'=>∃x,e=.returned x∧IArg w' x (ownV vars vals)∧Below w.heap.size w w':=by
 obtain⟨a,c,rfl,hm,h1⟩:=hu;obtain⟨a',c',rfl,hm',h2⟩:=hv;have HU:Hid (∀(i:Nat) (z:Int),vars[i]? = some z→∃b off,a=some ⟨b,off,none⟩∧b<w.heap.size∧w.cell? ⟨b,off+i,none⟩=some (.int .i64 z)):=h1;have HV:Hid (∀(i:Nat) (z:Int),vals[i]? = some z→∃b off,a'=some ⟨b,off,none⟩∧b<w.heap.size∧w.cell? ⟨b,off+i,none⟩=some (.int .i64 z)):=h2;have HR:Hid (∀x∈vars,0≤x∧x<vals.length):=hr;unfold maxLen at hm hm';obtain⟨hm1,hm⟩:=hm;obtain⟨hm1',hm'⟩:=hm';obtain⟨wm,hrun,hown,hbm⟩:=zO0 vars.length (by omega) w
 have HOWN:Hid (wm.ownsRow w.heap.size 3 1 (.slice (some ⟨w.heap.size,0,none⟩) vars.length vars.length) vars.length (List.replicate vars.length (.int .i64 0))):=hown;have HBM:Hid (Below w.heap.size w wm):=hbm;clear h1 h2 hr hown hbm;go_enter Tryz.func163,Tryz.ntmps163
 go_wp2_with fail
 clear hrun;go_loopw [13] (fun i wr=>∃(k:Nat) (cells:List Value),k≤vars.length∧i=.int .i64 k∧wr.ownsRow w.heap.size 3 1 (.slice (some ⟨w.heap.size,0,none⟩) vars.length vars.length) vars.length cells∧Hid (cells.take k=((ownV vars vals).take k).map (Value.int .i64))∧Below w.heap.size w wr) (fun i _=>vars.length - (intOf i).toNat)
 case atStart=>exact⟨0,_,by omega,rfl,HOWN.out,rfl,HBM.out⟩
 case round =>
  obtain⟨k,cells,hk,rfl,hown,htk,hbw⟩:=hrel;by_cases hlt:k<vars.length
  ·obtain⟨z,hz⟩:∃z,vars[k]? = some z:=⟨vars[k],by simp[hlt]⟩
   obtain⟨hz0,hz1⟩:=HR.out z (List.mem_of_getElem? hz);obtain⟨j,rfl⟩:∃j:Nat,z=(j:Int):=⟨z.toNat,by omega⟩
   have hjl:j<vals.length:=by omega
   obtain⟨x,hx⟩:∃x,vals[j]? = some x:=⟨vals[j],by simp[hjl]⟩
   have HO:Hid ((ownV vars vals)[k]? = some x):=by show _=_;unfold ownV;rw[List.getElem?_map,hz];show some _=_;rw[zFf vals j x hx]
   obtain⟨b,off,rfl,hb,hc⟩:=HU.out k _ hz;obtain⟨b',off',rfl,hb',hd⟩:=HV.out j x hx;have e1:=(hbw.cell (p:=⟨b,off+k,none⟩) hb).trans hc;have e2:=(hbw.cell (p:=⟨b',off'+j,none⟩) hb').trans hd;have hlen:cells.length=vars.length:=by have:=hown.1;omega
   obtain⟨y,hy⟩:∃y,cells[k]? = some y:=⟨cells[k]'(by omega),by simp⟩
   have e3:wr.cell? ⟨w.heap.size,k,none⟩=some y:=by rw[hown.cellAt k (by omega)];exact hy
   have e4:=hown.frozenAt k;have HST:Hid ((wr.setCell ⟨w.heap.size,k,none⟩ (.int .i64 x)).ownsRow w.heap.size 3 1 (.slice (some ⟨w.heap.size,0,none⟩) vars.length vars.length) vars.length (cells.set k (.int .i64 x))):=(hown.stored k _).1;have HTK:Hid ((cells.set k (.int .i64 x)).take (k+1)=((ownV vars vals).take (k+1)).map (Value.int .i64)):=by
    show _=_;rw[List.take_add_one,List.take_add_one,HO.out,List.map_append,List.getElem?_set_self (by omega),List.take_set_of_le (Nat.le_refl _),htk.out];rfl
   have HBW:Hid (Below w.heap.size w (wr.setCell ⟨w.heap.size,k,none⟩ (.int .i64 x))):=hbw.setCell (Nat.le_refl _) _;clear hz hx hc hd hb hb' hown htk hbw hz0 hz1 hlen hy;go_wp2
   go_roundw
   case rel=>exact⟨k+1,_,by omega,by go_num,HST.out,HTK,HBW.out⟩
   case measure=>simp[intOf];omega
  ·have hks:k=vars.length:=by omega
   have hlen:cells.length=vars.length:=by have:=hown.1;omega
   have HC:Hid (cells=(ownV vars vals).map (Value.int .i64)):=by
    have h:=htk.out;rwa [List.take_of_length_le (by omega),List.take_of_length_le (by unfold ownV;simp;omega)] at h
   have HF:Hid (IArg wr (.slice (some ⟨w.heap.size,0,none⟩) vars.length vars.length) (ownV vars vals)):=by
    rw[HC.out] at hown;have:vars.length=(ownV vars vals).length:=by simp[ownV]
    rw[this] at hown ⊢;exact zDa hown
   clear hks hlen hown htk;go_wp2
   go_ret
   exact⟨_,rfl,HF.out,hbw⟩
theorem zHQ (x y:Int) (h1:-1000≤x) (h2:x≤1000) (h3:-50≤y) (h4:y≤50):-50000≤x * y∧x * y≤50000:=by
 have key:(x * y).natAbs≤50000:=by
  rw[Int.natAbs_mul];have:=Nat.mul_le_mul (show x.natAbs≤1000 by omega) (show y.natAbs≤50 by omega)
  omega
 omega
def sumK (consts own:List Int) (k:Nat):Int:=((List.zipWith (· * ·) consts own).take k).sum
theorem zO1 (consts own:List Int) (k:Nat) (x y:Int) (hx:consts[k]? = some x) (hy:own[k]? = some y):sumK consts own (k+1)=sumK consts own k+x * y:=by
 unfold sumK;rw[List.take_add_one,List.getElem?_zipWith,hx,hy];simp[List.sum_append]
theorem zGC (consts own:List Int) (u v:Value) (w:World) (hu:IArg w u consts) (hv:IArg w v own) (hl:consts.length=own.length) (hn:consts.length≤8)
 (hc:∀x∈consts,-1000≤x∧x≤1000) (ho:∀x∈own,-50≤x∧x≤50) :
 Calls Tryz.prog 164 #[u,v] w fun e w'=>e=.returned (.int .i64 (sumV consts own))∧w'=w:=by
 obtain⟨a,c,rfl,hm,h1⟩:=hu;obtain⟨a',c',rfl,hm',h2⟩:=hv;have HU:Hid (∀(i:Nat) (z:Int),consts[i]? = some z→∃b off,a=some ⟨b,off,none⟩∧b<w.heap.size∧w.cell? ⟨b,off+i,none⟩=some (.int .i64 z)):=h1;have HV:Hid (∀(i:Nat) (z:Int),own[i]? = some z→∃b off,a'=some ⟨b,off,none⟩∧b<w.heap.size∧w.cell? ⟨b,off+i,none⟩=some (.int .i64 z)):=h2;have HL:Hid (consts.length=own.length):=hl;have HC:Hid (∀x∈consts,-1000≤x∧x≤1000):=hc;have HO:Hid (∀x∈own,-50≤x∧x≤50):=ho;obtain⟨R,hR⟩:∃R,sumV consts own=R:=⟨_,rfl⟩;rw[hR];have HR:Hid (sumV consts own=R):=hR;unfold maxLen at hm hm';obtain⟨hm1,hm⟩:=hm;obtain⟨hm1',hm'⟩:=hm';clear h1 h2 hl hc ho hR;go_enter Tryz.func164,Tryz.ntmps164
 go_wp2_with fail
 go_loop [5,10] (fun t i=>∃(k:Nat) (s:Int),k≤consts.length∧i=.int .i64 k∧t=.int .i64 s∧Hid (sumK consts own k=s)∧(-50000 * (k:Int)≤s∧s≤50000 * (k:Int))) (fun _ i=>consts.length - (intOf i).toNat)
 case atStart=>exact⟨0,0,by omega,rfl,rfl,rfl,by omega⟩
 case round =>
  obtain⟨k,s,hk,rfl,rfl,hs,hb1,hb2⟩:=hrel;by_cases hlt:k<consts.length
  ·have hlt':k<own.length:=by rw[←HL.out];exact hlt
   obtain⟨x,hx⟩:∃x,consts[k]? = some x:=⟨consts[k],by simp[hlt]⟩
   obtain⟨y,hy⟩:∃y,own[k]? = some y:=⟨own[k],by simp[hlt']⟩
   have HX:Hid (sumK consts own (k+1)=s+x * y):=by show _=_;rw[zO1 consts own k x y hx hy,hs.out]
   obtain⟨b,off,rfl,hb,hc⟩:=HU.out k x hx;obtain⟨b',off',rfl,hb',hd⟩:=HV.out k y hy;have hxb:=HC.out x (List.mem_of_getElem? hx);have hyb:=HO.out y (List.mem_of_getElem? hy);obtain⟨hp1,hp2⟩:=zHQ x y hxb.1 hxb.2 hyb.1 hyb.2;clear hx hy hb hb' hxb hyb;go_wp2
   go_round
   case rel=>exact⟨k+1,s+x * y,by omega,by go_num,by go_num,HX,by omega,by omega⟩
   case measure=>simp[intOf];omega
  ·have HN:Hid (s=R):=by
    show _=_;rw[←hs.out,←HR.out];unfold sumK sumV;rw[List.take_of_length_le (by rw[List.length_zipWith];omega)]
   go_wp2
   go_ret
   exact⟨zAI HN.out,rfl⟩
theorem zNk {α:Type} (a b:List α) (m:Nat) (x:α) (h:a.take m=b.take m) (ha:a[m]? = some x) (hb:b[m]? = some x):a.take (m+1)=b.take (m+1):=by
 rw[List.take_add_one,List.take_add_one,h,ha,hb]
theorem zO2 {α:Type} (a b:List α) (m:Nat) (h:a.take m=b.take m) (ha:¬m<a.length) (hl:a.length=b.length):a=b:=by
 rwa [List.take_of_length_le (by omega),List.take_of_length_le (by omega)] at h
theorem zO3 {α:Type} (a b:List α) (m:Nat) (x y:α) (ha:a[m]? = some x) (hb:b[m]? = some y) (h:x≠y):a≠b:=by
 intro e;subst e;rw[ha] at hb;cases hb;exact h rfl
theorem zO4 (l k:List Int) (v u:Value) (w:World) (hv:IArg w v l) (hu:IArg w u k) :
 Calls Tryz.prog 168 #[v,u] w fun e w'=>e=.returned (.bool (decide (l=k)))∧∃n,w'=w.drewN n:=by
 obtain⟨a,c,rfl,hm,hr⟩:=hv;obtain⟨a',c',rfl,hm',hr'⟩:=hu;have HV:Hid (∀(i:Nat) (z:Int),l[i]? = some z→∃b off,a=some ⟨b,off,none⟩∧b<w.heap.size∧w.cell? ⟨b,off+i,none⟩=some (.int .i64 z)):=hr;have HV':Hid (∀(i:Nat) (z:Int),k[i]? = some z→∃b off,a'=some ⟨b,off,none⟩∧b<w.heap.size∧w.cell? ⟨b,off+i,none⟩=some (.int .i64 z)):=hr';obtain⟨R,hR⟩:∃R,decide (l=k)=R:=⟨_,rfl⟩;rw[hR];have HR:Hid (decide (l=k)=R):=hR;unfold maxLen at hm hm';obtain⟨hm1,hm⟩:=hm;obtain⟨hm1',hm'⟩:=hm';clear hr hr' hR;by_cases hl:l.length=k.length
 ·have HL:Hid (l.length=k.length):=hl
  have g0:((l.length:Int) != (k.length:Int))=false:=by simp[hl]
  clear hl;go_enter Tryz.func168,Tryz.ntmps168
  go_wp2_with fail
  go_loopw [13] (fun i wr=>∃m:Nat,m≤l.length∧i=.int .i64 m∧Hid (l.take m=k.take m)∧∃n,wr=w.drewN n) (fun i _=>l.length - (intOf i).toNat)
  case atStart=>exact⟨0,by omega,rfl,rfl,0,rfl⟩
  case round =>
   obtain⟨m,hml,rfl,hall,nq,rfl⟩:=hrel;by_cases hlt:m<l.length
   ·have hlt':m<k.length:=by rw[←HL.out];exact hlt
    obtain⟨x,hx⟩:∃x,l[m]? = some x:=⟨l[m],by simp[hlt]⟩
    obtain⟨y,hy⟩:∃y,k[m]? = some y:=⟨k[m],by simp[hlt']⟩
    obtain⟨b,off,ha,hb,hc⟩:=HV.out m x hx;obtain⟨b',off',ha',hb',hd⟩:=HV'.out m y hy;have HX:Hid (l[m]? = some x):=hx;have HY:Hid (k[m]? = some y):=hy;subst ha;subst ha';clear hx hy;by_cases hq:x=y
    ·subst hq
     have HN:Hid (l.take (m+1)=k.take (m+1)):=zNk l k m x hall.out HX.out HY.out;go_wp2
     go_quiet (fail)
     go_wp2
     go_roundw
     case rel=>exact⟨m+1,by omega,by go_num,HN,_,rfl⟩
     case measure=>simp[intOf];omega
    ·have HN:Hid (R=false):=by rw[←HR.out];exact decide_eq_false (zO3 l k m x y HX.out HY.out hq)
     have hq2:(x != y)=true:=by simpa using hq
     clear hq;go_wp2
     go_quiet (fail)
     go_wp2
     go_ret
     exact⟨zAD HN.out.symm,_,zB4 _ _ _⟩
   ·have HN:Hid (R=true):=by rw[←HR.out];exact decide_eq_true (zO2 l k m hall.out hlt HL.out)
    go_wp2
    go_ret
    exact⟨zAD HN.out.symm,_,rfl⟩
 ·have HN:Hid (R=false):=by rw[←HR.out];exact decide_eq_false (fun h=>hl (by rw[h]))
  have g0:((l.length:Int) != (k.length:Int))=true:=by simp;omega
  clear hl;go_enter Tryz.func168,Tryz.ntmps168
  go_wp2
  go_ret
  exact⟨zAD HN.out.symm,0,rfl⟩
theorem zQp (a:Int) (r:List Int) (k:Nat) (x:Int) (hx:r[k]? = some x):(r.take (k+1)).foldl max a=max ((r.take k).foldl max a) x:=by
 rw[List.take_add_one,hx,List.foldl_append];rfl
theorem zO5 (p:Int) (r:List Int) (v:Value) (w:World) (hv:IArg w v (p :: r)) :
 Calls Tryz.prog 169 #[v] w fun e w'=>e=.returned (.int .i64 (r.foldl max p))∧w'=w:=by
 obtain⟨a,c,rfl,hm,h1⟩:=hv;have HU:Hid (∀(i:Nat) (z:Int),(p :: r)[i]? = some z→∃b off,a=some ⟨b,off,none⟩∧b<w.heap.size∧w.cell? ⟨b,off+i,none⟩=some (.int .i64 z)):=h1;obtain⟨b,off,rfl,hb,hc⟩:=h1 0 p rfl;rw[Nat.add_zero] at hc;obtain⟨R,hR⟩:∃R,r.foldl max p=R:=⟨_,rfl⟩;rw[hR];have HR:Hid (r.foldl max p=R):=hR;unfold maxLen at hm;obtain⟨hm1,hm⟩:=hm;obtain⟨n,hn⟩:∃n,(p :: r).length=n:=⟨_,rfl⟩;rw[hn] at hm1 ⊢;have HN:Hid (n=r.length+1):=by rw[←hn];rfl
 have hn1:1≤n:=by rw[←hn];simp
 clear h1 hR hn;go_enter Tryz.func169,Tryz.ntmps169
 go_wp2_with fail
 go_loop [3,4] (fun t i=>∃(k:Nat) (s:Int),k+1≤n∧i=.int .i64 ((k:Int)+1)∧t=.int .i64 s∧Hid ((r.take k).foldl max p=s)) (fun _ i=>n - (intOf i).toNat)
 case atStart=>exact⟨0,p,by omega,rfl,rfl,rfl⟩
 case round =>
  obtain⟨k,s,hk,rfl,rfl,hs⟩:=hrel;by_cases hlt:k+1<n
  ·have hlr:k<r.length:=by have:=HN.out;omega
   obtain⟨x,hx⟩:∃x,r[k]? = some x:=⟨r[k],by simp[hlr]⟩
   have HX:Hid ((r.take (k+1)).foldl max p=if s<x then x else s):=by show _=_;rw[zQp p r k x hx,hs.out];split <;> omega
   obtain⟨b2,off2,hab,hb2,hd⟩:=HU.out (k+1) x (by simpa using hx)
   cases hab
   clear hx hlr;go_wp2
   go_round
   case rel=>exact⟨k+1,_,by omega,by go_num,rfl,by first | exact HX | (have h9:=HX.out;show List.foldl max p (List.take (k+1) r)=max s x;rw[h9];split <;> omega)⟩
   case measure=>simp[intOf];omega
  ·have HF:Hid (s=R):=by
    show _=_;rw[←hs.out,←HR.out,List.take_of_length_le (by have:=HN.out;omega)]
   go_wp2
   go_ret
   exact⟨zAI HF.out,rfl⟩
end Go.Proofs.YtndcpnlaadikoaaGreatDoor
