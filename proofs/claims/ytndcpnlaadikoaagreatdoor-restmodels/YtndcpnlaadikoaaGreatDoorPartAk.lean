/- What the proof leans on, part 11. -/
import Derived.Test.YtndcpnlaadikoaaGreatDoorPartAj
set_option maxRecDepth 100000
set_option maxHeartbeats 6400000
namespace Go.Proofs.YtndcpnlaadikoaaGreatDoor
open Go.RowKit
def varC (v:MVar):List Value:=[.string v.name,.int .i64 v.lo,.int .i64 v.hi]
def conC (vv vc vr vl:Value) (c:MCon):List Value:=[.int .i64 c.kind,vv,vc,.int .i64 c.n,vr,vl]
theorem zIe {w:World} {b1 b2 n1 n2 s1 s2:Nat} {e1 e2:TypeId} {x v:Value} {xs vs:List Value} (h:w.ownsRow b1 e1 s1 x n1 xs) (k:w.ownsRow b2 e2 s2 v n2 vs) (he:e1≠e2):x.ownBlock=none∨x.ownBlock≠v.ownBlock:=by
 rcases h.2 with ⟨rfl,_⟩ | ⟨g,cap,cur,rfl,_,hg,_⟩
 ·exact .inl rfl
 ·refine .inr fun e=>?_
  rcases k.2 with ⟨rfl,_⟩ | ⟨g',cap',cur',rfl,_,hg',_⟩
  ·cases e
  ·have:g=g':=Option.some.inj e
   subst this;rw[hg] at hg'
   injection hg' with h2
   injection h2 with _ h3
   exact he h3
section
variable {B:Nat} {w w':World}
theorem LSr.kept {b2 n s:Nat} {e:TypeId} {v x:Value} {xs:List Value} {acc:List (List Int)} {o:Obj} (h:LSr B B w x acc) (k:w.ownsRow b2 e s v n xs) (he1:3≠e) (he2:42≠e) (hg:(w.alloc o).grownBy w' v.ownBlock):LSr B B w' x acc:=by
 obtain⟨cells,h1,h2⟩:=h;refine⟨cells,(h1.alloc _).kept hg (zIe h1 k he2),fun i r hr=>?_⟩
 obtain⟨y,hy,ho⟩:=h2 i r hr;exact⟨y,hy,(ho.alloc _).kept hg (zIe ho k he1)⟩
theorem ConR.kept {b2 n s:Nat} {e:TypeId} {v:Value} {xs:List Value} {vv vc vr vl:Value} {c:MCon} {o:Obj} (h:ConR B w vv vc vr vl c) (k:w.ownsRow b2 e s v n xs) (he1:3≠e) (he2:42≠e) (he3:76≠e) (hg:(w.alloc o).grownBy w' v.ownBlock):ConR B w' vv vc vr vl c :=
 ⟨(h.1.alloc _).kept hg (zIe h.1 k he1),(h.2.1.alloc _).kept hg (zIe h.2.1 k he1),h.2.2.1.kept k he1 he2 hg,(h.2.2.2.alloc _).kept hg (zIe h.2.2.2 k he3)⟩
end
def LCr (B:Nat) (w:World) (v:Value) (acc:List MCon):Prop :=
 ∃cells,w.ownsRow B 69 6 v acc.length cells∧∀(i:Nat) (c:MCon),acc[i]? = some c→∃vv vc vr vl,(∀j,j<6→cells[i * 6+j]? = (conC vv vc vr vl c)[j]?)∧ConR B w vv vc vr vl c
theorem LCr.none (B:Nat) (w:World):LCr B w (.slice Option.none 0 0) []:=⟨[],World.ownsRow_nil _ _ _ _,fun i r h=>by simp at h⟩
theorem LCr.form {B:Nat} {w:World} {v:Value} {acc:List MCon} (h:LCr B w v acc):∃a c,v=.slice a acc.length c:=by
 obtain⟨cells,h1,_⟩:=h;exact zAC h1
theorem LCr.fr {X:Nat→Prop} {B:Nat} {w w':World} {v:Value} {acc:List MCon} (h:LCr B w v acc) (hf:Fr X w w') (hX:∀k,X k→k<B):LCr B w' v acc:=by
 obtain⟨cells,h1,h2⟩:=h;refine⟨cells,zDY h1 hf hX,fun i r hr=>?_⟩
 obtain⟨vv,vc,vr,vl,hc,ho⟩:=h2 i r hr;exact⟨vv,vc,vr,vl,hc,ho.fr hf hX⟩
theorem ConR.set2 {B:Nat} {w:World} {vv vc vr vl:Value} {c:MCon} {t:TypeId} (h:ConR B w vv vc vr vl c) {C:Nat} {cs:Array Value} (hC:w.heap[C]? = some (.cells cs t)) (h1:t≠3) (h2:t≠42) (h3:t≠76) (i:Nat) (u:Value):ConR B (w.setCell ⟨C,i,Option.none⟩ u) vv vc vr vl c :=
 ⟨zAX h.1 hC h1 i u,zAX h.2.1 hC h1 i u,h.2.2.1.set hC h1 h2 i u,zAX h.2.2.2 hC h3 i u⟩
theorem LCr.set {B:Nat} {w:World} {v:Value} {acc:List MCon} (h:LCr B w v acc) {C:Nat} {cs:Array Value} (hC:w.heap[C]? = some (.cells cs 25)) (i:Nat) (u:Value):LCr B (w.setCell ⟨C,i,Option.none⟩ u) v acc:=by
 obtain⟨cells,h1,h2⟩:=h;refine⟨cells,zAX h1 hC (by decide) i u,fun j r hr=>?_⟩
 obtain⟨vv,vc,vr,vl,hc,ho⟩:=h2 j r hr;exact⟨vv,vc,vr,vl,hc,ho.set2 hC (by decide) (by decide) (by decide) i u⟩
theorem LCr.push {B:Nat} {w w':World} {v v' vv vc vr vl:Value} {c:MCon} {acc:List MCon} {cells:List Value} {o:Obj} (h:w.ownsRow B 69 6 v acc.length cells)
 (hc:∀(i:Nat) (c:MCon),acc[i]? = some c→∃vv vc vr vl,(∀j,j<6→cells[i * 6+j]? = (conC vv vc vr vl c)[j]?)∧ConR B w vv vc vr vl c) (hx:ConR B w vv vc vr vl c)
 (h':w'.ownsRow B 69 6 v' (acc.length+1) (cells++conC vv vc vr vl c)) (hg:(w.alloc o).grownBy w' v.ownBlock):LCr B w' v' (acc++[c]):=by
 have hlen:cells.length=acc.length * 6:=h.1;refine⟨cells++conC vv vc vr vl c,by rw[List.length_append];exact h',fun i r hr=>?_⟩
 by_cases hi:i<acc.length
 ·rw[List.getElem?_append_left hi] at hr
  obtain⟨x1,x2,x3,x4,hy,ho⟩:=hc i r hr;exact⟨x1,x2,x3,x4,fun j hj=>by rw[List.getElem?_append_left (by omega)];exact hy j hj,ho.kept h (by decide) (by decide) (by decide) hg⟩
 ·rw[List.getElem?_append_right (by omega)] at hr
  have hi0:i - acc.length=0:=by
   have:=(List.getElem?_eq_some_iff.1 hr).1;simp at this;omega
  rw[hi0] at hr;cases hr
  refine⟨vv,vc,vr,vl,fun j hj=>?_,hx.kept h (by decide) (by decide) (by decide) hg⟩
  rw[List.getElem?_append_right (by omega),show i * 6+j - cells.length=j by omega]
structure ModSt (N R M:Nat) (en:Int) (w0 w:World) (q:List Tok) (names:List ByteArray) (vs cs:Value) (vars:List MVar) (cons:List MCon):Prop where
 rd:Rd N R M en w q
 fr:Fr (XRM R M) w0 w
 nm:NmS w M names
 res:w.heap[w0.heap.size]? = some (.cells #[.slice none 0 0,.slice none 0 0,.int .i64 0,.int .i64 0] 25)
 mod:w.heap[w0.heap.size+1]? = some (.cells #[vs,cs,.int .i64 0,.int .i64 0] 25)
 Rw:R<w0.heap.size
 Nw:N≤w0.heap.size
 Mw:M<w0.heap.size
 NM:N≤M
 vown:w.ownsRow w0.heap.size 67 3 vs vars.length (vars.flatMap varC)
 cown:LCr w0.heap.size w cs cons
section
variable {N R M:Nat} {en:Int} {names names':List ByteArray} {w0:World} {w w':World} {q q':List Tok} {vs cs v':Value} {vars:List MVar} {cons:List MCon}
theorem ModSt.xlt (h:ModSt N R M en w0 w q names vs cs vars cons):∀k,XRM R M k→k<w0.heap.size:=fun k hk=>by
 have h1:=h.Rw;have h2:=h.Mw;rcases hk with rfl | rfl <;> omega
theorem ModSt.call (h:ModSt N R M en w0 w q names vs cs vars cons) (hf:Fr (XRM R M) w w') (hrd:Rd N R M en w' q') (hnm:NmS w' M names'):ModSt N R M en w0 w' q' names' vs cs vars cons where
 rd:=hrd
 fr:=h.fr.trans hf
 nm:=hnm
 res:=(hf.block _ (Array.getElem?_eq_some_iff.1 h.res).1 (fun hx=>by have:=h.xlt _ hx;omega)).trans h.res
 mod:=(hf.block _ (Array.getElem?_eq_some_iff.1 h.mod).1 (fun hx=>by have:=h.xlt _ hx;omega)).trans h.mod
 Rw:=h.Rw
 Nw:=h.Nw
 Mw:=h.Mw
 NM:=h.NM
 vown:=zDY h.vown hf h.xlt
 cown:=h.cown.fr hf h.xlt
theorem ModSt.callR (h:ModSt N R M en w0 w q names vs cs vars cons) (hf:Fr (fun k=>k=R) w w') (hrd:Rd N R M en w' q'):ModSt N R M en w0 w' q' names vs cs vars cons :=
 h.call hf.toRM hrd (h.nm.old (hf.block M h.nm.lt hrd.1.2.2))
theorem ModSt.below (h:ModSt N R M en w0 w q names vs cs vars cons) (hb:Below w.heap.size w w'):ModSt N R M en w0 w' q names vs cs vars cons:=h.callR (Fr.below hb) (h.rd.below hb)
theorem ModSt.base (h:ModSt N R M en w0 w q names vs cs vars cons):w0.heap.size≤w.heap.size:=h.fr.size
theorem zOv {α:Type} (f:α→List Value) (l:List α) (x:α):(l++[x]).flatMap f=l.flatMap f++f x:=by simp
theorem ModSt.grown (h:ModSt N R M en w0 w q names vs cs vars cons) {v:Value} {n s:Nat} {e:TypeId} {xs:List Value} {o:Obj} (hv:w.ownsRow w0.heap.size e s v n xs) (he:25≠e) (hg:(w.alloc o).grownBy w' v.ownBlock) (i:Nat) (vs2 cs2:Value) (vars2:List MVar) (cons2:List MCon)
 (hcs:(#[vs,cs,.int .i64 0,.int .i64 0]:Array Value).setIfInBounds i v'=#[vs2,cs2,.int .i64 0,.int .i64 0])
 (ho1:w'.ownsRow w0.heap.size 67 3 vs2 vars2.length (vars2.flatMap varC)) (ho2:LCr w0.heap.size w' cs2 cons2) :
 w'.heap[w0.heap.size+1]? = some (.cells #[vs,cs,.int .i64 0,.int .i64 0] 25)∧ModSt N R M en w0 (w'.setCell ⟨w0.heap.size+1,i,none⟩ v') q names vs2 cs2 vars2 cons2:=by
 have hlt:∀g,v.ownBlock=some g→w0.heap.size≤g∧g<w.heap.size:=hv.lt;have hap:∀(C:Nat) (cs:Array Value),w.heap[C]? = some (.cells cs 25)→some C≠v.ownBlock:=by
  intro C cs hC e1;rcases hv.2 with ⟨rfl,_⟩ | ⟨g,cap,cur,rfl,_,hh,_⟩
  ·cases e1
  ·have:C=g:=Option.some.inj e1
   subst this;rw[hh] at hC
   injection hC with h2
   injection h2 with _ h3
   exact he h3.symm
 have hlo:∀k,k<w0.heap.size→some k≠v.ownBlock:=fun k hk e1=>by have:=(hlt k e1.symm).1;omega
 have hkeep:∀k,k<w.heap.size→some k≠v.ownBlock→w'.heap[k]? = w.heap[k]? := fun k hk hne=>(hg.block k (by simp;omega) hne).trans ((zAA w o).block k hk)
 have hres:=(hkeep _ (Array.getElem?_eq_some_iff.1 h.res).1 (hap _ _ h.res)).trans h.res;have hmod:=(hkeep _ (Array.getElem?_eq_some_iff.1 h.mod).1 (hap _ _ h.mod)).trans h.mod;have hRw:=h.Rw;have hMw:=h.Mw;have hNw:=h.Nw;have hsz:=h.base;refine⟨hmod,?_⟩;exact {
  rd:=((h.rd.below (zAA w o)).grown hg (fun k hk=>by have:=(hlt k hk).1;omega)).set (p:=⟨w0.heap.size+1,i,none⟩) (by show w0.heap.size+1≠R;omega) (by show N≤w0.heap.size+1;omega) _
  fr:=((h.fr.alloc o).grown hg (fun k hk=>Or.inr (hlt k hk).1)).setNew (p:=⟨w0.heap.size+1,i,none⟩) (by show w0.heap.size≤w0.heap.size+1;omega) _
  nm:=(h.nm.old (hkeep M h.nm.lt (hlo M h.Mw))).old (Below.heap_setCell _ _ _ _ (by show M≠w0.heap.size+1;omega))
  res:=(Below.heap_setCell _ _ _ _ (by show w0.heap.size≠w0.heap.size+1;omega)).trans hres
  mod:=by rw[heap_setCell_same w' (w0.heap.size+1) i _ _ _ hmod,hcs]
  Rw:=h.Rw
  Nw:=h.Nw
  Mw:=h.Mw
  NM:=h.NM
  vown:=zAX ho1 hmod (by decide) i v'
  cown:=ho2.set hmod i v' }
theorem ModSt.pushVar (h:ModSt N R M en w0 w q names vs (.slice none 0 0) vars []) (x:MVar) {o:Obj} (hg:(w.alloc o).grownBy w' vs.ownBlock)
 (ho:w'.ownsRow w0.heap.size 67 3 v' (vars.length+1) (vars.flatMap varC++varC x)) :
 w'.heap[w0.heap.size+1]? = some (.cells #[vs,.slice none 0 0,.int .i64 0,.int .i64 0] 25)∧ModSt N R M en w0 (w'.setCell ⟨w0.heap.size+1,0,none⟩ v') q names v' (.slice none 0 0) (vars++[x]) [] :=
 h.grown h.vown (by decide) hg 0 v' (.slice none 0 0) (vars++[x]) [] rfl (by rw[zOv,List.length_append];exact ho) (LCr.none _ _)
theorem ModSt.pushCon (h:ModSt N R M en w0 w q names vs cs vars cons) {vv vc vr vl:Value} {c:MCon} (hc:ConR w0.heap.size w vv vc vr vl c) {cells:List Value} (hw:w.ownsRow w0.heap.size 69 6 cs cons.length cells)
 (hcells:∀(i:Nat) (c:MCon),cons[i]? = some c→∃vv vc vr vl,(∀j,j<6→cells[i * 6+j]? = (conC vv vc vr vl c)[j]?)∧ConR w0.heap.size w vv vc vr vl c) {o:Obj} (hg:(w.alloc o).grownBy w' cs.ownBlock)
 (ho:w'.ownsRow w0.heap.size 69 6 v' (cons.length+1) (cells++conC vv vc vr vl c)) :
 w'.heap[w0.heap.size+1]? = some (.cells #[vs,cs,.int .i64 0,.int .i64 0] 25)∧ModSt N R M en w0 (w'.setCell ⟨w0.heap.size+1,1,none⟩ v') q names vs v' vars (cons++[c]) :=
 h.grown hw (by decide) hg 1 vs v' vars (cons++[c]) rfl ((h.vown.alloc _).kept hg (zIe h.vown hw (by decide))) (LCr.push hw hcells hc ho hg)
end
theorem zLV {s:ByteArray} (h:s.data.toList=[]):s=ByteArray.empty:=by
 cases s with
 | mk d =>
   have:d=#[]:=by simpa using h
   rw[this];rfl
theorem zOw {en:Int} {l r:List Tok} {x:MVar} (h:zDz en l=.ok x r):x.name.data.toList≠[]:=by
 unfold zDz at h;obtain⟨_,q1,_,h2⟩:=PR.bind_ok h;obtain⟨n,q2,h3,h4⟩:=PR.bind_ok h2;obtain⟨_,_,_,h5⟩:=PR.bind_ok h4;obtain⟨_,_,_,h6⟩:=PR.bind_ok h5;obtain⟨_,_,_,h7⟩:=PR.bind_ok h6;obtain⟨_,_,_,h8⟩:=PR.bind_ok h7;obtain⟨_,_,_,h9⟩:=PR.bind_ok h8;cases h9
 unfold zC5 at h3;obtain⟨t,q,h10,h11⟩:=PR.bind_ok h3;cases h11
 unfold zBu at h10
 split at h10
 ·rename_i hb
  cases h10
  intro he;have he2:(zAN en q1).text.data.toList=[]:=he;rw[zLV he2,zIZ] at hb;cases hb
 ·cases h10
theorem zKK (en:Int):Eats (zC5 en):=zOh en (fun l=>zGw (zAN en l).text) (fun t _=>t.text)
theorem zNf {en:Int} {l r:List Tok} {x:MVar} (h:zDz en l=.ok x r):r.length+1≤l.length:=by
 unfold zDz at h;obtain⟨_,q1,e1,h2⟩:=PR.bind_ok h;obtain⟨n,q2,e2,h4⟩:=PR.bind_ok h2;obtain⟨_,q3,e3,h5⟩:=PR.bind_ok h4;obtain⟨_,q4,e4,h6⟩:=PR.bind_ok h5;obtain⟨_,q5,e5,h7⟩:=PR.bind_ok h6;obtain⟨_,q6,e6,h8⟩:=PR.bind_ok h7;obtain⟨_,q7,e7,h9⟩:=PR.bind_ok h8;cases h9
 have f1:=zBs zKH e1;have f2:=zKK en _ _ _ e2;have f3:=zBs zKI e3;have f4:=zB5 en _ _ _ e4;have f5:=zBs zId e5;have f6:=zB5 en _ _ _ e6;have f7:=zBs zDD e7;omega
theorem zA4 {α β:Type} {p:List Tok→PR α} {f:α→List Tok→PR β} (hp:Eats p) (hf:∀a,Eats (f a)):Eats fun l=>(p l).bind f:=by
 intro l x r h;obtain⟨a,q,h1,h2⟩:=PR.bind_ok h;have e1:=hp l a q h1;have e2:=hf a q x r h2;omega
theorem zD2 {α:Type} (a:α):Eats fun l=>.ok a l:=by
 intro l x r h;cases h
 exact Nat.le_refl _
theorem zOx (en:Int) (names:List ByteArray) (k:Int):Eats (zCp en names k):=by
 have en1:=zET en _ (zB5 en);have en2:=zET en _ (zER en names);have en3:=zB5 en;have en4:=zER en names;unfold zCp;intro l
 split
 ·exact zA4 en1 (fun cs=>zA4 en2 fun vs=>zA4 en3 fun n=>zD2 _) l
 split
 ·exact zA4 en2 (fun vs=>zD2 _) l
 split
 ·exact zA4 en1 (fun cs=>zA4 en4 fun a=>zA4 en4 fun b=>zD2 _) l
 split
 ·exact zA4 en2 (fun cs=>zA4 (zET en _ en1) fun a=>zD2 _) l
 split
 ·exact zA4 en4 (fun cs=>zA4 en4 fun a=>zA4 en4 fun b=>zD2 _) l
 split
 ·exact zA4 en4 (fun cs=>zA4 en2 fun a=>zD2 _) l
 split
 ·exact zA4 (zET en _ (zJV en names)) (fun cs=>zD2 _) l
 split
 ·exact zA4 en4 (fun cs=>zA4 (zJV en names) fun a=>zD2 _) l
 ·exact zD2 _ l
theorem zSL {en:Int} {names:List ByteArray} {l r:List Tok} {x:MCon} (h:conP en names l=.ok x r):r.length+1≤l.length:=by
 unfold conP at h;obtain⟨_,q1,e1,h2⟩:=PR.bind_ok h;obtain⟨n,q2,e2,h4⟩:=PR.bind_ok h2;obtain⟨_,q3,e3,h5⟩:=PR.bind_ok h4;obtain⟨_,q4,e4,h6⟩:=PR.bind_ok h5;cases h6
 have f1:=zBs zKJ e1;have f2:=zIY en _ _ _ _ e2;have f3:=zOx en names _ _ _ _ e3;have f4:=zBs zDD e4;omega
theorem Tryz.infoVar5:(Tryz.prog.info? 67).map (fun i=>(i.zero,i.size,i.bytes))=some (some (.agg #[.string ⟨#[]⟩,.int .i64 0,.int .i64 0]),3,32):=by kernel_rfl
theorem Tryz.underVars5:Tryz.prog.underlying 22=some (.slice 67):=by kernel_rfl
theorem Tryz.infoCon5:(Tryz.prog.info? 69).map (fun i=>(i.zero,i.size,i.bytes))=some (some (.agg #[.int .i64 0,.slice none 0 0,.slice none 0 0,.int .i64 0,.slice none 0 0,.slice none 0 0]),6,112):=by kernel_rfl
theorem Tryz.underCons5:Tryz.prog.underlying 23=some (.slice 69):=by kernel_rfl
theorem zOy (w:World) (z:MVar):∀(j:Nat) (u:Value),(varC z)[j]? = some u→(w.alloc (.cells #[.string z.name,.int .i64 z.lo,.int .i64 z.hi] 67)).cell? ((⟨w.heap.size,0,none⟩:Addr).add j)=some u:=by
 intro j u hj
 match j,hj with
 | 0,hj=>simp[varC] at hj;subst hj;simp[Addr.add]
 | 1,hj=>simp[varC] at hj;subst hj;simp[Addr.add]
 | 2,hj=>simp[varC] at hj;subst hj;simp[Addr.add]
theorem zKL (w:World) (vv vc vr vl:Value) (z:MCon):∀(j:Nat) (u:Value),(conC vv vc vr vl z)[j]? = some u→(w.alloc (.cells #[.int .i64 z.kind,vv,vc,.int .i64 z.n,vr,vl] 69)).cell? ((⟨w.heap.size,0,none⟩:Addr).add j)=some u:=by
 intro j u hj
 match j,hj with
 | 0,hj=>simp[conC] at hj;subst hj;simp[Addr.add]
 | 1,hj=>simp[conC] at hj;subst hj;simp[Addr.add]
 | 2,hj=>simp[conC] at hj;subst hj;simp[Addr.add]
 | 3,hj=>simp[conC] at hj;subst hj;simp[Addr.add]
 | 4,hj=>simp[conC] at hj;subst hj;simp[Addr.add]
 | 5,hj=>simp[conC] at hj;subst hj;simp[Addr.add]
def zQh (en:Int) (vs:List MVar) (l:List Tok):PR Mod :=
 (zJW en (vs.map MVar.name) (l.length+1) [] l).bind fun cs l=>(zNX en (vs.map MVar.name) l).bind fun g l=>if 0<l.length then .bad (zAN en l).place 1 else .ok ⟨vs,cs,g.1,g.2⟩ l
def endP (en:Int) (vs:List MVar) (cs:List MCon) (l:List Tok):PR Mod :=
 (zNX en (vs.map MVar.name) l).bind fun g l=>if 0<l.length then .bad (zAN en l).place 1 else .ok ⟨vs,cs,g.1,g.2⟩ l
def GM (B:Nat) (m:Mod) (v:Value) (w':World):Prop:=∃vs cs,v=modV vs cs m∧w'.ownsRow B 67 3 vs m.vars.length (m.vars.flatMap varC)∧LCr B w' cs m.cons∧(∀x∈m.vars,x.name.size≤maxLen)∧m.vars.length≤4000∧m.cons.length≤4000
theorem zNg (x:MVar):∀u∈varC x,u.oneCell'=true:=by
 intro u hu;simp only[varC,List.mem_cons,List.not_mem_nil,or_false] at hu;rcases hu with rfl | rfl | rfl <;> rfl
theorem zIf {B:Nat} {w:World} {vv vc vr vl:Value} {c:MCon} (h:ConR B w vv vc vr vl c):∀u∈conC vv vc vr vl c,u.oneCell'=true:=by
 obtain⟨a1,c1,rfl⟩:=zAC h.1;obtain⟨a2,c2,rfl⟩:=zAC h.2.1;obtain⟨a3,c3,rfl⟩:=h.2.2.1.form;obtain⟨a4,c4,rfl⟩:=zAC h.2.2.2;intro u hu;simp only[conC,List.mem_cons,List.not_mem_nil,or_false] at hu;rcases hu with rfl | rfl | rfl | rfl | rfl | rfl <;> rfl
theorem ModSt.endd {N R M:Nat} {en:Int} {names:List ByteArray} {w0 w:World} {q:List Tok} {vs cs:Value} {vars:List MVar} {cons:List MCon} (h:ModSt N R M en w0 w q names vs cs vars cons) (u2 u3 e0 e1 e2 e3:Value) (W:World)
 (hW:W=(((((w.setCell ⟨w0.heap.size+1,2,none⟩ u2).setCell ⟨w0.heap.size+1,3,none⟩ u3).setCell ⟨w0.heap.size,0,none⟩ e0).setCell ⟨w0.heap.size,1,none⟩ e1).setCell ⟨w0.heap.size,2,none⟩ e2).setCell ⟨w0.heap.size,3,none⟩ e3) :
 W.ownsRow w0.heap.size 67 3 vs vars.length (vars.flatMap varC)∧LCr w0.heap.size W cs cons∧Rd N R M en W q∧Fr (XRM R M) w0 W:=by
 subst hW;have hRw:=h.Rw;have hNw:=h.Nw;have hne:w0.heap.size≠R:=by omega
 have hne1:w0.heap.size+1≠R:=by omega
 have hN1:N≤w0.heap.size+1:=by omega
 have m0:∃cs,w.heap[w0.heap.size+1]? = some (.cells cs 25):=⟨_,h.mod⟩;have m1:=zD1 m0 2 u2;have k0:∃cs,((w.setCell ⟨w0.heap.size+1,2,none⟩ u2).setCell ⟨w0.heap.size+1,3,none⟩ u3).heap[w0.heap.size]? = some (.cells cs 25) :=
  ⟨_,(Below.heap_setCell _ _ _ _ (show w0.heap.size≠w0.heap.size+1 by omega)).trans ((Below.heap_setCell _ _ _ _ (show w0.heap.size≠w0.heap.size+1 by omega)).trans h.res)⟩
 have k1:=zD1 k0 0 e0;have k2:=zD1 k1 1 e1;have k3:=zD1 k2 2 e2;refine⟨?_,?_,?_,?_⟩
 ·exact zAX (zAX (zAX (zAX (zAX (zAX h.vown m0.choose_spec (by decide) 2 u2) m1.choose_spec (by decide) 3 u3) k0.choose_spec (by decide) 0 e0) k1.choose_spec (by decide) 1 e1) k2.choose_spec (by decide) 2 e2) k3.choose_spec (by decide) 3 e3
 ·exact (((((h.cown.set m0.choose_spec 2 u2).set m1.choose_spec 3 u3).set k0.choose_spec 0 e0).set k1.choose_spec 1 e1).set k2.choose_spec 2 e2).set k3.choose_spec 3 e3
 ·exact (((((h.rd.set (p:=⟨w0.heap.size+1,2,none⟩) hne1 hN1 _).set (p:=⟨w0.heap.size+1,3,none⟩) hne1 hN1 _).set (p:=⟨w0.heap.size,0,none⟩) hne h.Nw _).set (p:=⟨w0.heap.size,1,none⟩) hne h.Nw _).set (p:=⟨w0.heap.size,2,none⟩) hne h.Nw _).set (p:=⟨w0.heap.size,3,none⟩) hne h.Nw _
 ·exact (((((h.fr.setNew (p:=⟨w0.heap.size+1,2,none⟩) (Nat.le_succ _) _).setNew (p:=⟨w0.heap.size+1,3,none⟩) (Nat.le_succ _) _).setNew (p:=⟨w0.heap.size,0,none⟩) (Nat.le_refl _) _).setNew (p:=⟨w0.heap.size,1,none⟩) (Nat.le_refl _) _).setNew (p:=⟨w0.heap.size,2,none⟩) (Nat.le_refl _) _).setNew (p:=⟨w0.heap.size,3,none⟩) (Nat.le_refl _) _
theorem zNh (N R M:Nat) (en:Int) (w:World) (l:List Tok) (h:Rd N R M en w l) (hn:NmS w M []) (hNM:N≤M) :
 Calls Tryz.prog 138 #[.pointer (some ⟨R,0,none⟩)] w (zB7 (zMh en l) (GM w.heap.size) N R M en (XRM R M) w):=by
 have HB:Hid (Rd N R M en w l):=h;have HN:Hid (NmS w M []):=hn;have hMR:M≠R:=h.1.2.2;have hRw:R<w.heap.size:=by obtain⟨_,_,hR,_⟩:=h;exact (Array.getElem?_eq_some_iff.1 hR).1
 have hMw:M<w.heap.size:=hn.lt;have hNw:N≤w.heap.size:=h.1.2.1;have hll:=h.len;obtain⟨iV,hiV,hzV0,hzV1,hzV2⟩:=info_parts Tryz.infoVar5;obtain⟨iC,hiC,hzC0,hzC1,hzC2⟩:=info_parts Tryz.infoCon5;obtain⟨P,hP⟩:∃P,zMh en l=P:=⟨_,rfl⟩;have HP0:Hid (P=(zJ6 en (l.length+1) [] l).bind (zQh en)):=by show _=_;rw[←hP];rfl
 rw[hP];clear h hP hn;go_enter Tryz.func138,Tryz.ntmps138
 go_wp2_with fail
 obtain⟨W0,hW0⟩:∃W0,W0=(w.alloc (.cells #[.slice none 0 0,.slice none 0 0,.int .i64 0,.int .i64 0] 25)).alloc (.cells #[.slice none 0 0,.slice none 0 0,.int .i64 0,.int .i64 0] 25):=⟨_,rfl⟩;have hbW:Below w.heap.size w W0:=by rw[hW0];exact (zAA _ _).trans ((zAA _ _).mono (by simp))
 have HS0:Hid (ModSt N R M en w W0 l [] (.slice none 0 0) (.slice none 0 0) [] []):=by
  refine⟨HB.out.below hbW,Fr.below hbW,HN.out.old (hbW.block M hMw),?_,?_,hRw,hNw,hMw,hNM,World.ownsRow_nil _ _ _ _,LCr.none _ _⟩
  ·rw[hW0];exact ((zAA _ _).block _ (by simp)).trans (by show (w.heap.push _)[w.heap.size]? = _;simp)
  ·have hsz:w.heap.size+1=(w.alloc (.cells #[.slice none 0 0,.slice none 0 0,.int .i64 0,.int .i64 0] 25)).heap.size:=by simp
   rw[hW0,hsz];exact heap_alloc_new _ _
 rw[←hW0];clear hbW hW0;go_loopw [] (fun wr=>∃(f:Nat) (vars:List MVar) (q:List Tok) (vs:Value),Hid (P=(zJ6 en f vars q).bind (zQh en))∧Hid (ModSt N R M en w wr q (vars.map MVar.name) vs (.slice none 0 0) vars [])∧Hid (∀n∈vars.map MVar.name,n.data.toList≠[])∧Hid (∀x∈vars,x.name.size≤maxLen)∧q.length+1≤f∧vars.length+q.length≤4000) (fun wr=>zD0 R wr)
 case atStart=>exact⟨_,[],l,_,HP0,HS0,fun n hn=>by (simp at hn),fun x hx=>by (simp at hx),by omega,by simp;omega⟩
 case round =>
  obtain⟨f,vars,q,vs,HPV,HSV,HNE,HSZ,hf,hlen⟩:=hrel;obtain⟨g,rfl⟩:∃g,f=g+1:=⟨f - 1,by omega⟩
  have hf2:=zFD (zAN en q);obtain⟨av,cv,hv⟩:=zAC HSV.out.vown;subst hv;have HVW:Hid ((⟨#[118,97,114]⟩:ByteArray).toList=[118,97,114]):=by show _=_;simp[go_sem]
  cases hc:((zAN en q).text.toList==[118,97,114])
  ·have HPE:Hid (P=(zJW en (vars.map MVar.name) (q.length+1) [] q).bind (endP en vars)):=by show _=_;rw[HPV.out,zJ6,hc];rfl
   obtain⟨names,hnames⟩:∃names,vars.map MVar.name=names:=⟨_,rfl⟩;have HNM:Hid (vars.map MVar.name=names):=hnames;rw[hnames] at HPE HSV HNE;clear HPV hnames;go_wp2_with fail
   refine (zAS N R M en _ q HSV.out.rd).mono ?_;rintro e w6 ⟨rfl,hb6⟩;have HS6:Hid (ModSt N R M en w w6 q names (.slice av vars.length cv) (.slice none 0 0) vars []):=HSV.out.below hb6;have hvl:vars.length≤4000:=by omega
   unfold tokA;clear hb6 HSV;go_wp2_with fail
   clear hc hf2;go_loopw [] (fun wr=>∃(f:Nat) (cons:List MCon) (q:List Tok) (cs:Value),Hid (P=(zJW en names f cons q).bind (endP en vars))∧Hid (ModSt N R M en w wr q names (.slice av vars.length cv) cs vars cons)∧q.length+1≤f∧cons.length+q.length≤4000) (fun wr=>zD0 R wr)
   case atStart=>exact⟨_,[],q,_,HPE,HS6,by omega,by simp;omega⟩
   case round =>
    clear HPE HS6 hf hlen;obtain⟨f,cons,q,cs,HPV,HSV,hf,hlen⟩:=hrel;obtain⟨g,rfl⟩:∃g,f=g+1:=⟨f - 1,by omega⟩
    have hf2:=zFD (zAN en q);obtain⟨ac,cc,hv⟩:=HSV.out.cown.form;subst hv;have HVX:Hid ((⟨#[99,111,110]⟩:ByteArray).toList=[99,111,110]):=by show _=_;simp[go_sem]
    cases hc:((zAN en q).text.toList==[99,111,110])
    ·have HPE:Hid (P=endP en vars cons q):=by show _=_;rw[HPV.out,zJW,hc];rfl
     clear HPV;go_wp2_with fail
     refine (zAS N R M en _ q HSV.out.rd).mono ?_;rintro e w7 ⟨rfl,hb7⟩;have HS7:Hid (ModSt N R M en w w7 q names (.slice av vars.length cv) (.slice ac cons.length cc) vars cons):=HSV.out.below hb7;unfold tokA;clear hb7 HSV;go_wp2_with fail
     clear hc hf2;refine (zOs N R M en names w7 q HS7.out.rd HS7.out.nm HNE.out).mono ?_;intro e w8 hp;cases hs:zNX en names q with
     | bad x er =>
       rw[hs] at hp;obtain⟨rfl,hfr⟩:=hp;have hfr2:=HS7.out.fr.trans hfr.toRM;have HPB:Hid (P=.bad x er):=by show _=_;rw[HPE.out];unfold endP;rw[HNM.out,hs];rfl
       clear hs hfr;go_wp2
       exact⟨rfl,by rw[HPB.out];exact⟨rfl,hfr2⟩⟩
     | ok gg q5 =>
       rw[hs] at hp;obtain⟨v,rfl,rfl,hrd,hfr⟩:=hp;have HS8:Hid (ModSt N R M en w w8 q5 names (.slice av vars.length cv) (.slice ac cons.length cc) vars cons):=HS7.out.callR hfr hrd;have HPN:Hid (P=if 0<q5.length then .bad (zAN en q5).place 1 else .ok ⟨vars,cons,gg.1,gg.2⟩ q5):=by show _=_;rw[HPE.out];unfold endP;rw[HNM.out,hs];rfl
       have r2:=blk9 HS8.out.mod 2 _ rfl;have r3:=blk9 HS8.out.mod 3 _ rfl;have r0:=blk9 HS8.out.mod 0 _ rfl;have r1:=blk9 HS8.out.mod 1 _ rfl;have z2:=frz9 HS8.out.mod 2;have z3:=frz9 HS8.out.mod 3;have b0:=blk9 HS8.out.res 0 _ rfl;have b1:=blk9 HS8.out.res 1 _ rfl;have b2:=blk9 HS8.out.res 2 _ rfl;have b3:=blk9 HS8.out.res 3 _ rfl;have y0:=frz9 HS8.out.res 0;have y1:=frz9 HS8.out.res 1;have y2:=frz9 HS8.out.res 2;have y3:=frz9 HS8.out.res 3;obtain⟨_,vr,hR,ar,cr,rfl,⟨hcr1,hcr2⟩,_,_⟩:=HS8.out.rd;have cR:w8.cell? ⟨R,0,none⟩=some (.slice ar q5.length cr):=by rw[Lib.cell_of_heap hR];rfl
       have hRne:R≠w.heap.size+1:=by omega
       obtain⟨g1,hg1⟩:∃g1,gg.1=g1:=⟨_,rfl⟩;obtain⟨g2,hg2⟩:∃g2,gg.2=g2:=⟨_,rfl⟩;rw[hg1,hg2] at HPN ⊢;have HSE:Hid (Rd N R M en ((w8.setCell ⟨w.heap.size+1,2,none⟩ (.int .i64 g1)).setCell ⟨w.heap.size+1,3,none⟩ (.int .i64 g2)) q5∧Fr (XRM R M) w ((w8.setCell ⟨w.heap.size+1,2,none⟩ (.int .i64 g1)).setCell ⟨w.heap.size+1,3,none⟩ (.int .i64 g2))) :=
        ⟨(HS8.out.rd.set (p:=⟨w.heap.size+1,2,none⟩) (Ne.symm hRne) (show N≤w.heap.size+1 by omega) _).set (p:=⟨w.heap.size+1,3,none⟩) (Ne.symm hRne) (show N≤w.heap.size+1 by omega) _,(HS8.out.fr.setNew (p:=⟨w.heap.size+1,2,none⟩) (show w.heap.size≤w.heap.size+1 by omega) _).setNew (p:=⟨w.heap.size+1,3,none⟩) (show w.heap.size≤w.heap.size+1 by omega) _⟩
       clear hs hfr hrd HPE HS7 hR hg1 hg2 hcr1 hcr2;cases q5 with
       | nil =>
         have HPX:Hid (P=.ok ⟨vars,cons,g1,g2⟩ []):=by show _=_;rw[HPN.out];rfl
         go_wp2
         refine bodyPost_ret (by simp[results,Tryz.results138,go_sem, *];try rfl) rfl ?_
         rw[HPX.out];obtain⟨e1,e2,e3,e4⟩:=HS8.out.endd _ _ _ _ _ _ _ rfl;exact⟨_,rfl,⟨_,_,rfl,e1,e2,HSZ.out,hvl,by show cons.length≤4000;omega⟩,e3,e4⟩
       | cons t5 r5 =>
         have HPX:Hid (P=.bad t5.place 1):=by show _=_;rw[HPN.out];rfl
         have hl5:((t5 :: r5).length:Int)=(r5.length:Int)+1:=by simp
         go_wp2_with fail
         refine (zGA N R M en 1 _ (t5 :: r5) HSE.out.1).mono ?_;rintro e w9 ⟨rfl,hb9⟩;have hfr2:=HSE.out.2.trans (Fr.below hb9);go_wp2
         exact⟨rfl,by rw[HPX.out];exact⟨rfl,hfr2⟩⟩
    ·have HPE:Hid (P=((conP en names q).bind fun c l=>zJW en names g (cons++[c]) l).bind (endP en vars)):=by show _=_;rw[HPV.out,zJW,hc,if_pos rfl]
     clear HPV;go_wp2_with fail
     refine (zAS N R M en _ q HSV.out.rd).mono ?_;rintro e w7 ⟨rfl,hb7⟩;have HS7:Hid (ModSt N R M en w w7 q names (.slice av vars.length cv) (.slice ac cons.length cc) vars cons):=HSV.out.below hb7;have HM7:Hid (zD0 R wr=q.length):=zCl HSV.out.rd;unfold tokA;clear hb7 HSV;go_wp2_with fail
     have c1:w7.cell? ⟨w.heap.size+1,1,none⟩=some (.slice ac cons.length cc):=blk9 HS7.out.mod 1 _ rfl;have HSD:Hid (ModSt N R M en w w7.drew q names (.slice av vars.length cv) (.slice ac cons.length cc) vars cons):=HS7.out.below (Below.refl _ _).drew;have hnv:=zQg N R M en names w7.drew q HSD.out.rd HSD.out.nm HNE.out;cases hs:conP en names q with
     | bad x er =>
       have HPB:Hid (P=.bad x er):=by show _=_;rw[HPE.out,hs];rfl
       rw[hs] at hnv;clear hs hc hf2;refine wp_region_held_drew (S:=fun w'=>w'=w7.drew) (by kernel_rfl) rfl (fun hHeld=>?_)
       refine wpAnyH_take (i:=0) (v:=?v0b) rfl (by kernel_rfl) (by kernel_rfl) (by kernel_rfl) (fun _ _ _ h=>h) (Or.inl ⟨by rfl,?y0b⟩) rfl ?r0b
       case y0b=>intro wq hSw;subst hSw;go_simp;with_reducible rfl
       refine wpAnyH_take (i:=1) (v:=?v1b) rfl (by kernel_rfl) (by kernel_rfl) (by kernel_rfl) (fun _ _ _ h=>h) (Or.inl ⟨by rfl,?y1b⟩) rfl ?r1b
       case y1b=>intro wq hSw;subst hSw;go_simp;with_reducible rfl
       refine wpAnyH_take (i:=2) (v:=?v2b) rfl (by kernel_rfl) (by kernel_rfl) (by kernel_rfl) (fun _ _ _ h=>h) (Or.inl ⟨by rfl,?y2b⟩) rfl ?r2b
       case y2b=>intro wq hSw;subst hSw;go_simp;with_reducible rfl
       refine wpAnyH_ready (rs:=[3]) (by kernel_rfl) (by simp) ?_
       refine AllReadyH.cons rfl (fun K hK=>?_) AllReadyH.nil
       clear hK;go_simp
       refine hnv.mono ?_;rintro e w8 ⟨rfl,hfr⟩;have hfr2:=HSD.out.fr.trans hfr.toRM;clear hnv hfr;go_wp2
       exact⟨rfl,by rw[HPB.out];exact⟨rfl,hfr2⟩⟩
     | ok x q2 =>
       have hq2:q2.length+1≤q.length:=zSL hs;have HPN:Hid (P=(zJW en names g (cons++[x]) q2).bind (endP en vars)):=by show _=_;rw[HPE.out,hs];rfl
       rw[hs] at hnv;clear hs hc hf2 HPE;go_region_law
        (first
          | (rw[if_pos (by rfl)];refine wp_append_own _ _ _ 23 rfl w.heap.size 69 iC _ 6 112 Tryz.underCons5 hiC hzC0 hzC1 hzC2 rfl (by decide) _ _ _ rfl (hw8.alloc _) ⟨w8.heap.size,0,none⟩ 1 1 (conC _ _ _ _ x) rfl rfl (zKL w8 _ _ _ _ x) (zIf hcr) ?_ ?_ ?_ ?_;(unfold maxLen;omega);omega;(have:=HT.base;simp;omega);intro v9 w9 hown9 hg9 _;have HU:=HT.pushCon hcr hw8 hcells8 hg9 hown9;have d0:=blk9 HU.1 1 _ rfl;have z0:=frz9 HU.1 1;obtain⟨a9,b9,hv9⟩:=zAC hown9;subst hv9)
          | (rw[if_pos (by rfl)];go_simp;go_at_call 222;refine hnv.mono ?_;rintro e w8 ⟨v8,rfl,⟨vv,vc,vr,vl,rfl,hcr0⟩,hrd8,hfr8⟩;have HT:=HSD.out.callR hfr8 hrd8;have hcr:=hcr0.mono HSD.out.base;obtain⟨x1,y1,hx1⟩:=zAC hcr.1;obtain⟨x2,y2,hx2⟩:=zAC hcr.2.1;obtain⟨x3,y3,hx3⟩:=hcr.2.2.1.form;obtain⟨x4,y4,hx4⟩:=zAC hcr.2.2.2;subst hx1 hx2 hx3 hx4;obtain⟨cells8,hw8,hcells8⟩:=HT.cown;have c8:=blk9 HT.mod 1 _ rfl;have hl8:w.heap.size+1<w8.heap.size:=(Array.getElem?_eq_some_iff.1 HT.mod).1;unfold conV;dsimp only))
       all_goals
        have HS9:Hid (ModSt N R M en w (w9.setCell ⟨w.heap.size+1,1,none⟩ (.slice a9 (cons.length+1) b9)) q2 names (.slice av vars.length cv) (.slice a9 (cons.length+1) b9) vars (cons++[x])):=HU.2;have HM9:Hid (zD0 R (w9.setCell ⟨w.heap.size+1,1,none⟩ (.slice a9 (cons.length+1) b9))<zD0 R wr):=by show _<_;rw[zCl HS9.out.rd,HM7.out];omega
        clear HT HU HSD hnv hg9 hown9 d0 z0 c1 c8 hrd8 hfr8 HS7 hcr hcr0 hw8 hcells8;go_wp2
        go_roundw
        case rel=>exact⟨g,cons++[x],q2,_,HPN,HS9,by omega,by simp;omega⟩
        case measure=>exact HM9.out
  ·have HPE:Hid (P=((zDz en q).bind fun v l=>zJ6 en g (vars++[v]) l).bind (zQh en)):=by show _=_;rw[HPV.out,zJ6,hc,if_pos rfl]
   clear HPV;go_wp2_with fail
   refine (zAS N R M en _ q HSV.out.rd).mono ?_;rintro e w6 ⟨rfl,hb6⟩;have HS6:Hid (ModSt N R M en w w6 q (vars.map MVar.name) (.slice av vars.length cv) (.slice none 0 0) vars []):=HSV.out.below hb6;have HM6:Hid (zD0 R wr=q.length):=zCl HSV.out.rd;unfold tokA;clear hb6 HSV;go_wp2_with fail
   have c0:w6.cell? ⟨w.heap.size+1,0,none⟩=some (.slice av vars.length cv):=blk9 HS6.out.mod 0 _ rfl;have HSD:Hid (ModSt N R M en w w6.drew q (vars.map MVar.name) (.slice av vars.length cv) (.slice none 0 0) vars []):=HS6.out.below (Below.refl _ _).drew;have hnv:=zNd N R M en (vars.map MVar.name) w6.drew q HSD.out.rd HSD.out.nm (by simp;omega) hNM
   rw[List.length_map] at hnv;cases hs:zDz en q with
   | bad x er =>
     have HPB:Hid (P=.bad x er):=by show _=_;rw[HPE.out,hs];rfl
     rw[hs] at hnv;clear hs hc hf2;refine wp_region_held_drew (S:=fun w'=>w'=w6.drew) (by kernel_rfl) rfl (fun hHeld=>?_)
     refine wpAnyH_take (i:=0) (v:=?v0) rfl (by kernel_rfl) (by kernel_rfl) (by kernel_rfl) (fun _ _ _ h=>h) (Or.inl ⟨by rfl,?y0⟩) rfl ?r0
     case y0=>intro wq hSw;subst hSw;go_simp;with_reducible rfl
     refine wpAnyH_take (i:=1) (v:=?v1) rfl (by kernel_rfl) (by kernel_rfl) (by kernel_rfl) (fun _ _ _ h=>h) (Or.inl ⟨by rfl,?y1⟩) rfl ?r1
     case y1=>intro wq hSw;subst hSw;go_simp;with_reducible rfl
     refine wpAnyH_take (i:=2) (v:=?v2) rfl (by kernel_rfl) (by kernel_rfl) (by kernel_rfl) (fun _ _ _ h=>h) (Or.inl ⟨by rfl,?y2⟩) rfl ?r2
     case y2=>intro wq hSw;subst hSw;go_simp;with_reducible rfl
     refine wpAnyH_take (i:=3) (v:=?v3) rfl (by kernel_rfl) (by kernel_rfl) (by kernel_rfl) (fun _ _ _ h=>h) (Or.inl ⟨by rfl,?y3⟩) rfl ?r3
     case y3=>intro wq hSw;subst hSw;go_simp;with_reducible rfl
     refine wpAnyH_take (i:=4) (v:=?v4) rfl (by kernel_rfl) (by kernel_rfl) (by kernel_rfl) (fun _ _ _ h=>h) (Or.inl ⟨by rfl,?y4⟩) rfl ?r4
     case y4=>intro wq hSw;subst hSw;go_simp;with_reducible rfl
     refine wpAnyH_take (i:=5) (v:=?v5) rfl (by kernel_rfl) (by kernel_rfl) (by kernel_rfl) (fun _ _ _ h=>h) (Or.inl ⟨by rfl,?y5⟩) rfl ?r5
     case y5=>intro wq hSw;subst hSw;go_simp;with_reducible rfl
     refine wpAnyH_ready (rs:=[6]) (by kernel_rfl) (by simp) ?_
     refine AllReadyH.cons rfl (fun K hK=>?_) AllReadyH.nil
     clear hK;go_simp
     refine hnv.mono ?_;rintro e w7 ⟨rfl,hfr⟩;have hfr2:=HSD.out.fr.trans hfr;clear hnv hfr;go_wp2
     exact⟨rfl,by rw[HPB.out];exact⟨rfl,hfr2⟩⟩
   | ok x q2 =>
     have HNX:Hid (∀n∈(vars++[x]).map MVar.name,n.data.toList≠[]):=by
      intro n hn;rw[List.map_append,List.mem_append] at hn;rcases hn with hn | hn
      ·exact HNE.out n hn
      ·simp at hn;subst hn;exact zOw hs
     have hq2:q2.length+1≤q.length:=zNf hs;have HPN:Hid (P=(zJ6 en g (vars++[x]) q2).bind (zQh en)):=by show _=_;rw[HPE.out,hs];rfl
     rw[hs] at hnv;clear hs hc hf2 HPE;go_region_law
      (first
        | (rw[if_pos (by rfl)];refine wp_append_own _ _ _ 22 rfl w.heap.size 67 iV _ 3 32 Tryz.underVars5 hiV hzV0 hzV1 hzV2 rfl (by decide) _ _ _ rfl (HT.vown.alloc _) ⟨w7.heap.size,0,none⟩ 1 1 (varC x) rfl rfl (zOy w7 x) (zNg x) ?_ ?_ ?_ ?_;(unfold maxLen;omega);omega;(have:=HT.base;simp;omega);intro v8 w8 hown8 hg8 _;have HU:=HT.pushVar x hg8 hown8;have d0:=blk9 HU.1 0 _ rfl;have z0:=frz9 HU.1 0;obtain⟨a8,b8,hv8⟩:=zAC hown8;subst hv8)
        | (rw[if_pos (by rfl)];go_simp;go_at_call 221;refine hnv.mono ?_;rintro e w7 ⟨v7,rfl,⟨rfl,hsz7,hnm7⟩,hrd7,hfr7⟩;have HT:=HSD.out.call hfr7 hrd7 hnm7;have c7:=blk9 HT.mod 0 _ rfl;have hl7:w.heap.size+1<w7.heap.size:=(Array.getElem?_eq_some_iff.1 HT.mod).1;dsimp only))
     all_goals
      have HS9:Hid (ModSt N R M en w (w8.setCell ⟨w.heap.size+1,0,none⟩ (.slice a8 (vars.length+1) b8)) q2 ((vars++[x]).map MVar.name) (.slice a8 (vars.length+1) b8) (.slice none 0 0) (vars++[x]) []):=by
       have:=HU.2;rw[List.map_append];exact this
      have HSX:Hid (∀y∈vars++[x],y.name.size≤maxLen):=by
       intro y hy;rw[List.mem_append] at hy;rcases hy with hy | hy
       ·exact HSZ.out y hy
       ·simp at hy;subst hy;exact hsz7
      have HM9:Hid (zD0 R (w8.setCell ⟨w.heap.size+1,0,none⟩ (.slice a8 (vars.length+1) b8))<zD0 R wr):=by show _<_;rw[zCl HS9.out.rd,HM6.out];omega
      clear HT HU HSD hnv hg8 hown8 d0 z0 c0 c7 hrd7 hfr7 hnm7 hsz7 HS6;go_wp2
      go_roundw
      case rel=>exact⟨g,vars++[x],q2,_,HPN,HS9,HNX,HSX,by omega,by simp;omega⟩
      case measure=>exact HM9.out
end Go.Proofs.YtndcpnlaadikoaaGreatDoor
