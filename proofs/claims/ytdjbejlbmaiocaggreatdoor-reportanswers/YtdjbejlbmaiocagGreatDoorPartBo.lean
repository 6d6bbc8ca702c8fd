/- What the proof leans on, part 41. -/
import Derived.Test.YtdjbejlbmaiocagGreatDoorPartBn
import Derived.Test.YtdjbejlbmaiocagGreatDoorPartBg
import Derived.Test.YtdjbejlbmaiocagGreatDoorPartBf
namespace Go.Proofs.YtdjbejlbmaiocagGreatDoor
theorem s44:(ByteArray.empty.toList==(⟨#[44]⟩:ByteArray).toList)=false:=by decide +kernel
theorem s93:(ByteArray.empty.toList==(⟨#[93]⟩:ByteArray).toList)=false:=by decide +kernel
theorem s91:(ByteArray.empty.toList==(⟨#[91]⟩:ByteArray).toList)=false:=by decide +kernel
theorem t44:(⟨#[44]⟩:ByteArray).toList=[44]:=by rw[ByteArray.toList_eq]
theorem zDx {α:Type} (en:Int) (T:List Tok) (item:RP→α×RP) (f:Nat) (acc:List α) (p:RP):zCJ en T item f acc (false,p)=(acc,p):=by
 cases f <;> (unfold zCJ;rfl)
theorem zL7 {α:Type} (en:Int) (T:List Tok) (item:RP→α×RP) (f:Nat) (acc:List α) (p:RP):zCJ en T item (f+1) acc (true,p)=zCJ en T item f (acc++[(item p).1]) (zBK en T (item p).2):=by
 conv=>lhs;unfold zCJ
 rfl
theorem zRN {α:Type} {en:Int} {T:List Tok} {D:Prop} {f:RP→α×RP} {P:List Tok→PR α} (hf:Same en T (RD D) f P) (hE:Eats P) :
 ∀(n:Nat) (p:RP) (acc acc':List α) (fu gu:Nat),p.er=0→p.k≤T.length→(T.drop p.k).length≤n→n+1≤fu→n+1≤gu→(D→acc=acc') →
  zDp en T (RD D) (zCJ en T f fu acc (zBK en T p)) (zCV en P gu acc' (T.drop p.k)):=by
 intro n
 induction n with
 | zero =>
   intro p acc acc' fu gu hp hk hl hfu hgu ha;obtain⟨g,rfl⟩:∃g,gu=g+1:=⟨gu - 1,by omega⟩
   have h0:T.drop p.k=[]:=List.eq_nil_of_length_eq_zero (by omega)
   unfold zBK zCV;rw[zDC en T p hp,h0];have e:((zAI en []).text.toList==[44])=false:=by show (ByteArray.empty.toList==[44])=false;decide +kernel
   rw[e,if_neg (by simp),if_neg (by simp),zDx]
   have h:=(zED en T ⟨#[93]⟩ s93).bind (S:=RD D) (g:=fun _ p=>(acc,p)) (Q:=fun _ l=>.ok acc' l) (fun _ _ _=>rfl) (fun _ _ _ p hp hk=>⟨hp,rfl,hk,ha⟩)
   have:=h.same p hp hk;rw[h0] at this;exact this
 | succ n ih =>
   intro p acc acc' fu gu hp hk hl hfu hgu ha;obtain⟨g,rfl⟩:∃g,gu=g+1:=⟨gu - 1,by omega⟩
   obtain⟨f0,rfl⟩:∃f0,fu=f0+1:=⟨fu - 1,by omega⟩
   unfold zBK zCV;rw[zDC en T p hp];cases hq:((zAI en (T.drop p.k)).text.toList==[44])
   ·rw[if_neg (by simp),if_neg (by simp),zDx]
    have h:=(zED en T ⟨#[93]⟩ s93).bind (S:=RD D) (g:=fun _ p=>(acc,p)) (Q:=fun _ l=>.ok acc' l) (fun _ _ _=>rfl) (fun _ _ _ p hp hk=>⟨hp,rfl,hk,ha⟩)
    exact h.same p hp hk
   ·rw[if_pos rfl,if_pos rfl,zL7]
    have h1:=(zED en T ⟨#[44]⟩ s44).same p hp hk;have hin:p.k<T.length:=zIz en T p.k (fun he=>by rw[he] at hq;revert hq;decide +kernel)
    have hsk:zAP en ⟨#[44]⟩ (T.drop p.k)=.ok (zAI en (T.drop p.k)) (T.drop p.k).tail:=by unfold zAP zBm;rw[t44,hq,if_pos rfl]
    rw[hsk] at h1 ⊢;obtain⟨a1,a2,a3,_⟩:=h1
    dsimp only at a1 a2 a3
    show zDp en T (RD D) _ ((P (T.drop p.k).tail).bind _);rw[←a2];have hlen:(T.drop (zAU en T ⟨#[44]⟩ p).k).length≤n:=by rw[a2,List.length_tail];omega
    have h2:=hf.same _ a1 a3;cases hP:P (T.drop (zAU en T ⟨#[44]⟩ p).k) with
    | ok x l =>
      rw[hP] at h2;obtain⟨b1,b2,b3,b4⟩:=h2;have hl2:=hE _ x l hP;have:=ih (f (zAU en T ⟨#[44]⟩ p)).2 (acc++[(f (zAU en T ⟨#[44]⟩ p)).1]) (acc'++[x]) f0 g b1 b3 (by rw[b2];omega) (by omega) (by omega) (fun hD=>by rw[ha hD,b4 hD])
      rw[b2] at this;exact this
    | bad pl e =>
      rw[hP] at h2;obtain⟨b1,b2,b3,b4⟩:=h2;rw[zIv en T _ (by rw[b1];exact b2),zDx]
      exact⟨b1,b2,b3,b4⟩
theorem zGn {α:Type} {en:Int} {T:List Tok} {D:Prop} {f:RP→α×RP} {P:List Tok→PR α} (hf:Same en T (RD D) f P) (hE:Eats P):Same en T (RD D) (zAV en T f) (zAv en P):=by
 refine⟨zPJ en T f,fun p hp hk=>?_⟩
 unfold zAV zDA zAv;have h1:=(zED en T ⟨#[91]⟩ s91).same p hp hk;obtain⟨p1,hp1⟩:∃p1,zAU en T ⟨#[91]⟩ p=p1:=⟨_,rfl⟩;rw[hp1] at h1 ⊢;cases hs:zAP en ⟨#[91]⟩ (T.drop p.k) with
 | bad pl e =>
   rw[hs] at h1;obtain⟨b1,b2,b3,b4⟩:=h1;have hne:p1.er≠0:=by rw[b1];exact b2
   rw[zDB en T p1 hne,if_neg (by decide +kernel),decide_eq_false hne,zDx]
   exact⟨b1,b2,b3,b4⟩
 | ok t l =>
   rw[hs] at h1;obtain⟨a1,a2,a3,_⟩:=h1;show zDp en T (RD D) _ (if _ then _ else _)
   rw[←a2,zDC en T p1 a1];cases hq:((zAI en (T.drop p1.k)).text.toList==[93])
   ·rw[if_neg (by simp),if_neg (by simp),decide_eq_true a1,zL7]
    have h2:=hf.same p1 a1 a3;cases hP:P (T.drop p1.k) with
    | ok x l2 =>
      rw[hP] at h2;obtain⟨b1,b2,b3,b4⟩:=h2;have:=zRN hf hE l2.length (f p1).2 ([]++[(f p1).1]) [x] (T.length+1) (l2.length+1) b1 b3 (by rw[b2];exact Nat.le_refl _) (by rw[←b2,List.length_drop];omega) (Nat.le_refl _) (fun hD=>by rw[b4 hD];rfl)
      rw[b2] at this;exact this
    | bad pl e =>
      rw[hP] at h2;obtain⟨b1,b2,b3,b4⟩:=h2;rw[zIv en T _ (by rw[b1];exact b2),zDx]
      exact⟨b1,b2,b3,b4⟩
   ·rw[if_pos rfl,if_pos rfl,zDx]
    have h:=(zED en T ⟨#[93]⟩ s93).bind (S:=RD D) (g:=fun _ p=>(([]:List α),p)) (Q:=fun _ l=>.ok [] l) (fun _ _ _=>rfl) (fun _ _ _ p hp hk=>⟨hp,rfl,hk,fun _=>rfl⟩)
    exact h.same p1 a1 a3
theorem zRO:∀s∈opWL.tail,(ByteArray.empty.toList==s.toList)=false:=by
 intro s hs;simp only[opWL,List.tail_cons,List.mem_cons,List.not_mem_nil,or_false] at hs;rcases hs with rfl | rfl | rfl | rfl <;> decide +kernel
theorem zSv (en:Int) (T:List Tok) (hT:zGF T) (nm:List ByteArray) (hn:∀n∈nm,∀s:ByteArray,n.data.toList=s.data.toList→zAb s=true):Same en T (RD (zDU nm)) (litR en T nm) (litP en nm):=by
 have hw:Same en T Eq (fun p=>(1+(zAn en T p opWL.tail 0).1,(zAn en T p opWL.tail 0).2)) (zBO en opWL):=zKB en T hT opWL.tail zRO
 have h3:∀(v v' o:Int),RD (zDU nm) v v'→Same en T (RD (zDU nm)) (fun p=>((⟨v,o,(kR en T p).1⟩:MLit),(kR en T p).2)) (fun l=>(zAN en l).bind fun n l=>.ok (⟨v',o,n⟩:MLit) l):=fun v v' o hv =>
  (zGG en T hT).bind (S:=RD (zDU nm)) (g:=fun n p=>((⟨v,o,n⟩:MLit),p)) (Q:=fun n l=>.ok (⟨v',o,n⟩:MLit) l) (fun _ _ _=>rfl) (fun x y hxy p hp hk=>⟨hp,rfl,hk,fun hD=>by rw[hv hD,hxy]⟩)
 have h2:∀(v v':Int),RD (zDU nm) v v'→Same en T (RD (zDU nm)) (fun p=>((⟨v,1+(zAn en T p opWL.tail 0).1,(kR en T (zAn en T p opWL.tail 0).2).1⟩:MLit),(kR en T (zAn en T p opWL.tail 0).2).2)) (fun l=>(zBO en opWL l).bind fun op l=>(zAN en l).bind fun n l=>.ok (⟨v',op,n⟩:MLit) l):=fun v v' hv =>
  hw.bindS (S:=RD (zDU nm)) (g:=fun o p=>((⟨v,o,(kR en T p).1⟩:MLit),(kR en T p).2)) (Q:=fun o l=>(zAN en l).bind fun n l=>.ok (⟨v',o,n⟩:MLit) l) (fun o p hp=>zNF en T p hp) (fun x y hxy=>by rw[hxy];exact h3 v v' y hv)
 exact (zI1 en T nm hn).bindS (S:=RD (zDU nm)) (g:=fun v p=>((⟨v,1+(zAn en T p opWL.tail 0).1,(kR en T (zAn en T p opWL.tail 0).2).1⟩:MLit),(kR en T (zAn en T p opWL.tail 0).2).2))
  (Q:=fun v l=>(zBO en opWL l).bind fun op l=>(zAN en l).bind fun n l=>.ok (⟨v,op,n⟩:MLit) l) (fun v p hp=>by show (kR en T (zAn en T p opWL.tail 0).2).2=p;rw[zDw en T p hp];exact zNF en T p hp) h2
def zFZ (en:Int) (T:List Tok) (nm:List ByteArray) (k:Int) (p:RP):MCon×RP :=
 if k=1∨k=2∨k=3 then
  (⟨k,(zAV en T (vR en T nm) (zAV en T (kR en T) p).2).1,(zAV en T (kR en T) p).1,(kR en T (zAV en T (vR en T nm) (zAV en T (kR en T) p).2).2).1,[],[]⟩,(kR en T (zAV en T (vR en T nm) (zAV en T (kR en T) p).2).2).2)
 else if k=4 then (⟨k,(zAV en T (vR en T nm) p).1,[],0,[],[]⟩,(zAV en T (vR en T nm) p).2)
 else if k=5 then (⟨k,[(vR en T nm (zAV en T (kR en T) p).2).1,(vR en T nm (vR en T nm (zAV en T (kR en T) p).2).2).1],(zAV en T (kR en T) p).1,0,[],[]⟩,(vR en T nm (vR en T nm (zAV en T (kR en T) p).2).2).2)
 else if k=6 then (⟨k,(zAV en T (vR en T nm) p).1,[],0,(zAV en T (zAV en T (kR en T)) (zAV en T (vR en T nm) p).2).1,[]⟩,(zAV en T (zAV en T (kR en T)) (zAV en T (vR en T nm) p).2).2)
 else if k=7 then (⟨k,[(vR en T nm p).1,(vR en T nm (vR en T nm p).2).1,(vR en T nm (vR en T nm (vR en T nm p).2).2).1],[],0,[],[]⟩,(vR en T nm (vR en T nm (vR en T nm p).2).2).2)
 else if k=8 then (⟨k,[(vR en T nm p).1]++(zAV en T (vR en T nm) (vR en T nm p).2).1,[],0,[],[]⟩,(zAV en T (vR en T nm) (vR en T nm p).2).2)
 else if k=9 then (⟨k,[],[],0,[],(zAV en T (litR en T nm) p).1⟩,(zAV en T (litR en T nm) p).2)
 else if k=10 then (⟨k,[(vR en T nm p).1],[],0,[],[(litR en T nm (vR en T nm p).2).1]⟩,(litR en T nm (vR en T nm p).2).2)
 else (⟨k,[],[],0,[],[]⟩,p)
section
variable {en:Int} {T:List Tok} {D:Prop}
theorem end1 {α γ:Type} {f:RP→α×RP} {P:List Tok→PR α} (hf:Same en T (RD D) f P) (m m':α→γ) (hm:∀x,D→m x=m' x):Same en T (RD D) (fun p=>(m (f p).1,(f p).2)) (fun l=>(P l).bind fun x l=>.ok (m' x) l) :=
 hf.bind (g:=fun x p=>(m x,p)) (Q:=fun x l=>.ok (m' x) l) (fun _ _ _=>rfl) (fun x y hxy p hp hk=>⟨hp,rfl,hk,fun hD=>by rw[hm x hD,hxy hD]⟩)
theorem end2 {α β γ:Type} {f:RP→α×RP} {P:List Tok→PR α} {g:RP→β×RP} {Q:List Tok→PR β} (hf:Same en T (RD D) f P) (hg:Same en T (RD D) g Q) (m m':α→β→γ) (hm:∀x y,D→m x y=m' x y) :
 Same en T (RD D) (fun p=>(m (f p).1 (g (f p).2).1,(g (f p).2).2)) (fun l=>(P l).bind fun x l=>(Q l).bind fun y l=>.ok (m' x y) l) :=
 hf.bindS (g:=fun x p=>(m x (g p).1,(g p).2)) (Q:=fun x l=>(Q l).bind fun y l=>.ok (m' x y) l) (fun x p hp=>hg.still p hp) (fun x x' hx=>end1 hg (m x) (m' x') (fun y hD=>by rw[hx hD];exact hm x' y hD))
theorem end3 {α β δ γ:Type} {f:RP→α×RP} {P:List Tok→PR α} {g:RP→β×RP} {Q:List Tok→PR β} {h:RP→δ×RP} {O:List Tok→PR δ} (hf:Same en T (RD D) f P) (hg:Same en T (RD D) g Q) (hh:Same en T (RD D) h O) (m m':α→β→δ→γ) (hm:∀x y z,D→m x y z=m' x y z) :
 Same en T (RD D) (fun p=>(m (f p).1 (g (f p).2).1 (h (g (f p).2).2).1,(h (g (f p).2).2).2)) (fun l=>(P l).bind fun x l=>(Q l).bind fun y l=>(O l).bind fun z l=>.ok (m' x y z) l) :=
 hf.bindS (g:=fun x p=>(m x (g p).1 (h (g p).2).1,(h (g p).2).2)) (Q:=fun x l=>(Q l).bind fun y l=>(O l).bind fun z l=>.ok (m' x y z) l)
  (fun x p hp=>by show (h (g p).2).2=p;rw[hg.still p hp];exact hh.still p hp) (fun x x' hx=>end2 hg hh (m x) (m' x') (fun y z hD=>by rw[hx hD];exact hm x' y z hD))
end
theorem zL8 (en:Int) (T:List Tok) (hT:zGF T) (nm:List ByteArray) (hn:∀n∈nm,∀s:ByteArray,n.data.toList=s.data.toList→zAb s=true) (k:Int):Same en T (RD (zDU nm)) (zFZ en T nm k) (zB9 en nm k):=by
 have hK:=(zGG en T hT).weak (zDU nm);have hV:=zI1 en T nm hn;have hKs:=zGn hK (zBJ en);have hVs:=zGn hV (zEB en nm);have hRs:=zGn hKs (zCY en _ (zBJ en));have hL:=zSv en T hT nm hn;have hLs:=zGn hL (zGi en nm);unfold zFZ zB9;by_cases h1:k=1∨k=2∨k=3
 ·simp only[if_pos h1]
  exact end3 hKs hVs hK (fun cs vs n=>(⟨k,vs,cs,n,[],[]⟩:MCon)) _ (fun _ _ _ _=>rfl)
 simp only[if_neg h1];by_cases h4:k=4
 ·simp only[if_pos h4]
  exact end1 hVs (fun vs=>(⟨k,vs,[],0,[],[]⟩:MCon)) _ (fun _ _=>rfl)
 simp only[if_neg h4];by_cases h5:k=5
 ·simp only[if_pos h5]
  exact end3 hKs hV hV (fun cs a b=>(⟨k,[a,b],cs,0,[],[]⟩:MCon)) _ (fun _ _ _ _=>rfl)
 simp only[if_neg h5];by_cases h6:k=6
 ·simp only[if_pos h6]
  exact end2 hVs hRs (fun vs rs=>(⟨k,vs,[],0,rs,[]⟩:MCon)) _ (fun _ _ _=>rfl)
 simp only[if_neg h6];by_cases h7:k=7
 ·simp only[if_pos h7]
  exact end3 hV hV hV (fun a b c=>(⟨k,[a,b,c],[],0,[],[]⟩:MCon)) _ (fun _ _ _ _=>rfl)
 simp only[if_neg h7];by_cases h8:k=8
 ·simp only[if_pos h8]
  exact end2 hV hVs (fun a vs=>(⟨k,[a]++vs,[],0,[],[]⟩:MCon)) _ (fun _ _ _=>rfl)
 simp only[if_neg h8];by_cases h9:k=9
 ·simp only[if_pos h9]
  exact end1 hLs (fun ls=>(⟨k,[],[],0,[],ls⟩:MCon)) _ (fun _ _=>rfl)
 simp only[if_neg h9];by_cases h10:k=10
 ·simp only[if_pos h10]
  exact end2 hV hL (fun a t=>(⟨k,[a],[],0,[],[t]⟩:MCon)) _ (fun _ _ _=>rfl)
 simp only[if_neg h10];exact Same.pure (fun _=>rfl)
def conR (en:Int) (T:List Tok) (nm:List ByteArray) (p:RP):MCon×RP:=zFZ en T nm (1+(zAn en T p zBy.tail 0).1) (zAn en T p zBy.tail 0).2
theorem zPM:∀s∈zBy.tail,(ByteArray.empty.toList==s.toList)=false:=by
 intro s hs;simp only[zBy,List.tail_cons,List.mem_cons,List.not_mem_nil,or_false] at hs;rcases hs with rfl | rfl | rfl | rfl | rfl | rfl | rfl | rfl | rfl | rfl <;> decide +kernel
theorem zSw (en:Int) (T:List Tok) (hT:zGF T) (nm:List ByteArray) (hn:∀n∈nm,∀s:ByteArray,n.data.toList=s.data.toList→zAb s=true):Same en T (RD (zDU nm)) (conR en T nm) (fun l=>(zBO en zBy l).bind fun k l=>zB9 en nm k l) :=
 (zKB en T hT zBy.tail zPM).bindS (g:=fun k p=>zFZ en T nm k p) (Q:=fun k l=>zB9 en nm k l) (fun k=>(zL8 en T hT nm hn k).still) (fun x y hxy=>by rw[hxy];exact zL8 en T hT nm hn y)
open Go.RowKit
structure ConT (c:RC) (w0 w:World) (p:RP) (vv vc vr vl:Value) (k:MCon):Prop where
 st:RSt c p w
 fr:Fr (XR9 c.R) w0 w
 res:w.heap[w0.heap.size]? = some (.cells #[.int .i64 0,.slice none 0 0,.slice none 0 0,.int .i64 0,.slice none 0 0,.slice none 0 0] 73)
 con:w.heap[w0.heap.size+1]? = some (.cells #[.int .i64 k.kind,vv,vc,.int .i64 k.n,vr,vl] 73)
 Rw:c.R<w0.heap.size
 Nw:c.N≤w0.heap.size
 NBw:c.NB≤w0.heap.size
 own:ConR w0.heap.size w vv vc vr vl k
section
variable {c:RC} {w0 w w':World} {p p':RP} {vv vc vr vl:Value} {k:MCon}
theorem ConT.call (h:ConT c w0 w p vv vc vr vl k) (hf:Fr (XR9 c.R) w w') (hst:RSt c p' w'):ConT c w0 w' p' vv vc vr vl k where
 st:=hst
 fr:=h.fr.trans hf
 res:=(hf.block _ (Array.getElem?_eq_some_iff.1 h.res).1 (by have:=h.Rw;show ¬_=_;omega)).trans h.res
 con:=(hf.block _ (Array.getElem?_eq_some_iff.1 h.con).1 (by have:=h.Rw;show ¬_=_;omega)).trans h.con
 Rw:=h.Rw
 Nw:=h.Nw
 NBw:=h.NBw
 own:=h.own.fr hf (fun j hj=>by have h1:j=c.R:=hj;rw[h1];exact h.Rw)
theorem ConT.below (h:ConT c w0 w p vv vc vr vl k) (hb:Below w.heap.size w w'):ConT c w0 w' p vv vc vr vl k:=h.call (Fr.below hb) (h.st.below hb)
theorem ConT.base (h:ConT c w0 w p vv vc vr vl k):w0.heap.size≤w.heap.size:=h.fr.size
theorem ConT.put (h:ConT c w0 w p vv vc vr vl k) (i:Nat) (u:Value) (vv' vc' vr' vl':Value) (k':MCon) (hcs:(#[.int .i64 k.kind,vv,vc,.int .i64 k.n,vr,vl]:Array Value).setIfInBounds i u=#[.int .i64 k'.kind,vv',vc',.int .i64 k'.n,vr',vl'])
 (ho:ConR w0.heap.size w vv' vc' vr' vl' k'):ConT c w0 (w.setCell ⟨w0.heap.size+1,i,none⟩ u) p vv' vc' vr' vl' k' where
 st:=h.st.set (q:=⟨w0.heap.size+1,i,none⟩) (by have:=h.Rw;show w0.heap.size+1≠c.R;omega) (by have:=h.Nw;show c.N≤w0.heap.size+1;omega) (by have:=h.NBw;show c.NB≤w0.heap.size+1;omega) u
 fr:=h.fr.setNew (p:=⟨w0.heap.size+1,i,none⟩) (by show w0.heap.size≤w0.heap.size+1;omega) u
 res:=(Below.heap_setCell _ _ _ _ (by show w0.heap.size≠w0.heap.size+1;omega)).trans h.res
 con:=by rw[heap_setCell_same w _ i _ _ _ h.con,hcs]
 Rw:=h.Rw
 Nw:=h.Nw
 NBw:=h.NBw
 own:=ho.set h.con i u
theorem ConT.kind (h:ConT c w0 w p vv vc vr vl k) (n:Int):ConT c w0 (w.setCell ⟨w0.heap.size+1,0,none⟩ (.int .i64 n)) p vv vc vr vl { k with kind:=n } :=
 h.put 0 _ vv vc vr vl { k with kind:=n } rfl h.own
theorem ConT.vars (h:ConT c w0 w p vv vc vr vl k) {v:Value} {xs:List Int} (ho:w.ownsRow w0.heap.size 3 1 v xs.length (xs.map (Value.int .i64))):ConT c w0 (w.setCell ⟨w0.heap.size+1,1,none⟩ v) p v vc vr vl { k with vars:=xs } :=
 h.put 1 v v vc vr vl { k with vars:=xs } rfl ⟨ho,h.own.2.1,h.own.2.2.1,h.own.2.2.2⟩
theorem ConT.consts (h:ConT c w0 w p vv vc vr vl k) {v:Value} {xs:List Int} (ho:w.ownsRow w0.heap.size 3 1 v xs.length (xs.map (Value.int .i64))):ConT c w0 (w.setCell ⟨w0.heap.size+1,2,none⟩ v) p vv v vr vl { k with consts:=xs } :=
 h.put 2 v vv v vr vl { k with consts:=xs } rfl ⟨h.own.1,ho,h.own.2.2.1,h.own.2.2.2⟩
theorem ConT.n (h:ConT c w0 w p vv vc vr vl k) (n:Int):ConT c w0 (w.setCell ⟨w0.heap.size+1,3,none⟩ (.int .i64 n)) p vv vc vr vl { k with n:=n } :=
 h.put 3 _ vv vc vr vl { k with n:=n } rfl h.own
theorem ConT.rows (h:ConT c w0 w p vv vc vr vl k) {v:Value} {xs:List (List Int)} (ho:LSr w0.heap.size w0.heap.size w v xs):ConT c w0 (w.setCell ⟨w0.heap.size+1,4,none⟩ v) p vv vc v vl { k with rows:=xs } :=
 h.put 4 v vv vc v vl { k with rows:=xs } rfl ⟨h.own.1,h.own.2.1,ho,h.own.2.2.2⟩
theorem ConT.lits (h:ConT c w0 w p vv vc vr vl k) {v:Value} {xs:List MLit} (ho:w.ownsRow w0.heap.size 88 3 v xs.length (xs.flatMap litC)):ConT c w0 (w.setCell ⟨w0.heap.size+1,5,none⟩ v) p vv vc vr v { k with lits:=xs } :=
 h.put 5 v vv vc vr v { k with lits:=xs } rfl ⟨h.own.1,h.own.2.1,h.own.2.2.1,ho⟩
theorem ConT.varsLit (h:ConT c w0 w p vv vc vr vl k) (xs:List Int) (hx:xs.length≤100):ConT c w0 ((w.setCell ⟨w0.heap.size+1,1,none⟩ (.slice (some ⟨w.heap.size,0,none⟩) xs.length xs.length)).alloc (.cells (xs.map (Value.int .i64)).toArray 3)) p (.slice (some ⟨w.heap.size,0,none⟩) xs.length xs.length) vc vr vl { k with vars:=xs }:=by
 rw[←World.setCell_alloc_past _ _ _ _ (Array.getElem?_eq_some_iff.1 h.con).1];refine (h.below (zAA _ _)).vars ?_;have:=World.ownsRow_lit (e:=3) (size:=1) w (xs.map (Value.int .i64)).toArray xs.length h.base (by unfold maxLen;omega) (by simp)
 simpa using this
theorem ConT.grown {v:Value} {e:TypeId} {s n:Nat} {xs:List Value} {o:Obj} (h:ConT c w0 w p vv vc vr vl k) (hv:w.ownsRow w0.heap.size e s v n xs) (hg:(w.alloc o).grownBy w' v.ownBlock) (ho:ConR w0.heap.size w' vv vc vr vl k) (he:e≠73):ConT c w0 w' p vv vc vr vl k where
 st:=(h.st.below (zAA _ _)).grown hg (fun j hj=>by have h1:=(hv.lt j hj).1;have h2:=h.Rw;have h3:=h.Nw;have h4:=h.NBw;exact⟨by omega,by omega,by omega⟩)
 fr:=(h.fr.alloc _).grown hg (fun j hj=>Or.inr ((hv.lt j hj).1))
 res:=zA6 (((zAA w o).block _ (Array.getElem?_eq_some_iff.1 h.res).1).trans h.res) hg (hv.alloc _) (Ne.symm he)
 con:=zA6 (((zAA w o).block _ (Array.getElem?_eq_some_iff.1 h.con).1).trans h.con) hg (hv.alloc _) (Ne.symm he)
 Rw:=h.Rw
 Nw:=h.Nw
 NBw:=h.NBw
 own:=ho
theorem ConT.endd (h:ConT c w0 w p vv vc vr vl k) (u0 u1 u2 u3 u4 u5:Value) (W:World)
 (hW:W=(((((w.setCell ⟨w0.heap.size,0,none⟩ u0).setCell ⟨w0.heap.size,1,none⟩ u1).setCell ⟨w0.heap.size,2,none⟩ u2).setCell ⟨w0.heap.size,3,none⟩ u3).setCell ⟨w0.heap.size,4,none⟩ u4).setCell ⟨w0.heap.size,5,none⟩ u5) :
 ConR w0.heap.size W vv vc vr vl k∧RSt c p W∧Fr (XR9 c.R) w0 W:=by
 subst hW;have hne:w0.heap.size≠c.R:=by have:=h.Rw;omega
 have k0:∃cs,w.heap[w0.heap.size]? = some (.cells cs 73):=⟨_,h.res⟩;have k1:=zC9 k0 0 u0;have k2:=zC9 k1 1 u1;have k3:=zC9 k2 2 u2;have k4:=zC9 k3 3 u3;have k5:=zC9 k4 4 u4;refine⟨?_,?_,?_⟩
 ·exact (((((h.own.set k0.choose_spec 0 u0).set k1.choose_spec 1 u1).set k2.choose_spec 2 u2).set k3.choose_spec 3 u3).set k4.choose_spec 4 u4).set k5.choose_spec 5 u5
 ·exact (((((h.st.set (q:=⟨w0.heap.size,0,none⟩) hne h.Nw h.NBw _).set (q:=⟨w0.heap.size,1,none⟩) hne h.Nw h.NBw _).set (q:=⟨w0.heap.size,2,none⟩) hne h.Nw h.NBw _).set (q:=⟨w0.heap.size,3,none⟩) hne h.Nw h.NBw _).set (q:=⟨w0.heap.size,4,none⟩) hne h.Nw h.NBw _).set (q:=⟨w0.heap.size,5,none⟩) hne h.Nw h.NBw _
 ·exact (((((h.fr.setNew (p:=⟨w0.heap.size,0,none⟩) (Nat.le_refl _) _).setNew (p:=⟨w0.heap.size,1,none⟩) (Nat.le_refl _) _).setNew (p:=⟨w0.heap.size,2,none⟩) (Nat.le_refl _) _).setNew (p:=⟨w0.heap.size,3,none⟩) (Nat.le_refl _) _).setNew (p:=⟨w0.heap.size,4,none⟩) (Nat.le_refl _) _).setNew (p:=⟨w0.heap.size,5,none⟩) (Nat.le_refl _) _
end
theorem zPN:∀s∈zBy.tail,zBz s:=by
 intro s hs;simp only[zBy,List.tail_cons,List.mem_cons,List.not_mem_nil,or_false] at hs;rcases hs with rfl | rfl | rfl | rfl | rfl | rfl | rfl | rfl | rfl | rfl <;> (unfold zBz;rw[ByteArray.toList_eq,ByteArray.toList_eq];rfl)
end Go.Proofs.YtdjbejlbmaiocagGreatDoor
