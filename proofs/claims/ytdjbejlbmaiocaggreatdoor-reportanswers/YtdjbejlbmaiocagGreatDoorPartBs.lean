/- What the proof leans on, part 45. -/
import Derived.Test.YtdjbejlbmaiocagGreatDoorPartBr
import Derived.Test.YtdjbejlbmaiocagGreatDoorPartBh
import Derived.Test.YtdjbejlbmaiocagGreatDoorPartBp
set_option maxHeartbeats 400000
namespace Go.Proofs.YtdjbejlbmaiocagGreatDoor
theorem zRU (s:ByteArray) (j:Nat) (hj:j<s.size) (he:zBE (zAj s j).kind (zAj s j).text=0):(zAj s j).kind≠0∧((zAj s j).text.toList==ByteArray.empty.toList)=false∧((zAj s j).kind=2↔dig0 (zAj s j).text=true):=by
 have hk0:=zEX s j he;have hlj:j<s.data.toList.length:=by rw[zA5];exact hj
 have hgt:=zGI _ _ hlj hk0;have ht:zAj s j=⟨zAo s.data.toList j,j,s.extract j (zA8 s.data.toList j)⟩:=by unfold zAj;rw[if_neg hk0]
 have hx:(s.extract j (zA8 s.data.toList j)).data.toList=zBh s.data.toList j :: (s.data.toList.drop (j+1)).take (zA8 s.data.toList j - j - 1):=by
  rw[zHU,List.drop_eq_getElem_cons hlj,zCM _ _ hlj];obtain⟨n,hn⟩:∃n,zA8 s.data.toList j - j=n+1:=⟨zA8 s.data.toList j - j - 1,by omega⟩
  rw[hn,List.take_succ_cons];simp
 rw[ht];refine⟨by simp only;omega,?_,?_⟩
 ·show ((s.extract j (zA8 s.data.toList j)).toList==ByteArray.empty.toList)=false
  rw[ByteArray.toList_eq,hx];cases h:(zBh s.data.toList j :: (s.data.toList.drop (j+1)).take (zA8 s.data.toList j - j - 1)==ByteArray.empty.toList)
  ·rfl
  ·have:=beq_iff_eq.1 h
   rw[ByteArray.toList_eq] at this;cases this
 ·have hd:dig0 (s.extract j (zA8 s.data.toList j))=isD (zBh s.data.toList j):=by unfold dig0;rw[hx]
  show ((zAo s.data.toList j:Nat):Int)=2↔dig0 (s.extract j (zA8 s.data.toList j))=true;rw[hd];unfold zAo
  constructor
  ·intro h
   split at h
   ·simp at h
   ·split at h
    ·assumption
    ·split at h <;> simp at h
  ·intro h
   have hL:isL (zBh s.data.toList j)=false:=by
    cases hq:isL (zBh s.data.toList j)
    ·rfl
    ·unfold isL at hq
     unfold isD at h;simp at hq h;omega
   rw[hL,h];rfl
theorem zNP (s:ByteArray):∀(f k:Nat) (acc:List Tok),zGF acc→zGF (zDE f s k acc).1:=by
 intro f
 induction f with
 | zero=>intro k acc h;exact h
 | succ f ih =>
   intro k acc h;by_cases h4:zAS false s.data.toList k<s.size
   ·by_cases h5:zBE (zAj s (zAS false s.data.toList k)).kind (zAj s (zAS false s.data.toList k)).text=0
    ·rw[zB1 f s k _ acc rfl h4 h5]
     refine ih _ _ (fun t ht=>?_)
     rcases List.mem_append.1 ht with ht | ht
     ·exact h t ht
     ·rw[List.mem_singleton.1 ht];exact zRU s _ h4 h5
    ·rw[zCz f s k _ acc rfl h4 h5];exact fun t ht=>by cases ht
   ·rw[zDy _ s k acc h4];exact h
theorem zKD (s:ByteArray):zGF (zAO s).1:=by
 unfold zAO
 split
 ·exact fun t ht=>by cases ht
 ·exact zNP s _ _ _ (fun t ht=>by cases ht)
open Go.RowKit
theorem zRV (s:ByteArray) (hs:s.size≤maxLen) (w:World) :
 Calls Tryz.prog 57 #[.string s] w fun e w'=>∃v,e=.returned (.tuple #[v,.int .i64 (zAO s).2.1,.int .i64 (zAO s).2.2]) ∧
  w'.ownsRow w.heap.size 158 3 v (zAO s).1.length (zAr (zAO s).1)∧Below w.heap.size w w':=by
 by_cases h4:s.size≤4000
 ·exact zRF s h4 w
 ·have e:zAO s=([],0,2):=by unfold zAO;rw[if_pos (by omega)]
  rw[e];unfold maxLen at hs;have h5:4000<s.size:=by omega
  clear h4 e;go_enter Tryz.func57,Tryz.ntmps57
  go_wp2
  refine bodyPost_ret (by simp[results,Tryz.results57,go_sem, *];try rfl) rfl ?_
  exact⟨.slice none 0 0,rfl,World.ownsRow_nil _ _ _ _,Below.refl _ _⟩
section
variable {c:RC} {p:RP} {w:World}
theorem RSt.field (h:RSt c p w) (c':RC) (hN:c'.N=c.N) (hR:c'.R=c.R) (hT:c'.T=c.T) (i:Nat) (u:Value) (hnb:c'.NB≤w.heap.size)
 (hcs:∀v,(#[v,.int .i64 p.k,.int .i64 c.en,.int .i64 p.er,c.vv,c.vc,.int .i64 c.g,.int .i64 c.x]:Array Value).setIfInBounds i u=#[v,.int .i64 p.k,.int .i64 c'.en,.int .i64 p.er,c'.vv,c'.vc,.int .i64 c'.g,.int .i64 c'.x])
 (hnm:NArg c'.R c'.NB (w.setCell ⟨c.R,i,none⟩ u) c'.vv c'.nm):RSt c' p (w.setCell ⟨c.R,i,none⟩ u):=by
 obtain⟨h1,h2,hn,h3,hd,h4,v,hb,hTA⟩:=h;refine⟨by rw[hN,hR];exact h1,by rw[hN];simpa using h2,by simpa using hnb,by rw[hT];exact h3,by rw[hT];exact hd,hnm,v,?_,?_⟩
 ·rw[hR,heap_setCell_same w c.R i _ _ _ hb,hcs v]
 ·rw[hN,hT];exact hTA.old fun q hq=>World.cell?_of_block (Below.heap_setCell _ _ _ _ (by show q.block≠c.R;omega))
theorem RSt.setVc (h:RSt c p w) (u:Value):RSt { c with vc:=u } p (w.setCell ⟨c.R,5,none⟩ u) :=
 h.field { c with vc:=u } rfl rfl rfl 5 u h.nb (fun _=>rfl) (h.nms.fr h.nb (zE5 _ _ _ _))
theorem RSt.setG (h:RSt c p w) (n:Int):RSt { c with g:=n } p (w.setCell ⟨c.R,6,none⟩ (.int .i64 n)) :=
 h.field { c with g:=n } rfl rfl rfl 6 _ h.nb (fun _=>rfl) (h.nms.fr h.nb (zE5 _ _ _ _))
theorem RSt.setX (h:RSt c p w) (n:Int):RSt { c with x:=n } p (w.setCell ⟨c.R,7,none⟩ (.int .i64 n)) :=
 h.field { c with x:=n } rfl rfl rfl 7 _ h.nb (fun _=>rfl) (h.nms.fr h.nb (zE5 _ _ _ _))
theorem RSt.setVv (h:RSt c p w) {B:Nat} {o:Value} {vars:List MVar} (ho:w.ownsRow B 71 3 o vars.length (vars.flatMap varC)):RSt { c with vv:=o,nm:=vars.map MVar.name,NB:=w.heap.size } p (w.setCell ⟨c.R,4,none⟩ o):=by
 obtain⟨v9,hb9,_⟩:=h.blk;refine h.field { c with vv:=o,nm:=vars.map MVar.name,NB:=w.heap.size } rfl rfl rfl 4 _ (Nat.le_refl _) (fun v=>rfl) ?_
 obtain⟨a,cc,hv,hmm,hr⟩:=zE0 (zAu ho hb9 (by decide) 4 o)
 refine⟨a,cc,by simpa using hv,by simpa using hmm,fun i t ht=>?_⟩
 simp only[List.getElem?_map,Option.map_eq_some_iff] at ht;obtain⟨z,hz,rfl⟩:=ht;have hi:i<vars.length:=(List.getElem?_eq_some_iff.1 hz).1;obtain⟨g,ha,hg,hc⟩:=hr i hi;have hf:=zFV varC 3 (fun _=>rfl) vars i
 refine⟨g,0,ha,?_,by simpa using hg,by rw[Nat.zero_add,hc _ (by omega)];exact hf 0 z hz (by omega)⟩
 intro e;have hlt:=(zAu ho hb9 (by decide) 4 o)
 rcases hlt.2 with ⟨e1,e2⟩ | ⟨g',cap',cur',hv',_,hh,_⟩
 ·omega
 ·rw[hv'] at hv
  injection hv with e3
  rw[ha] at e3;have e4:g'=g:=by injection e3 with e5;injection e5
  rw[e4,e,heap_setCell_same w c.R 4 _ _ _ hb9] at hh
  injection hh with h1
  injection h1 with _ h2
  exact absurd h2 (by decide)
end
theorem zRW {w:World} {B:Nat} {e:TypeId} {size n:Nat} {v:Value} {xs:List Value} (h:w.ownsRow B e size v n xs) {C:Nat} (hC:v.ownBlock≠some C) (i:Nat) (u:Value):(w.setCell ⟨C,i,none⟩ u).ownsRow B e size v n xs:=by
 refine⟨h.1,?_⟩;rcases h.2 with hn | ⟨g,cap,cur,hv,hg,hh,r⟩
 ·exact .inl hn
 ·have hne:g≠C:=fun e1=>hC (by rw[hv,e1];rfl)
  exact .inr ⟨g,cap,cur,hv,hg,(Below.heap_setCell _ _ _ _ hne).trans hh,r⟩
structure VB (c:RC) (W w:World) (p:RP) (b:Nat) (nm:ByteArray) (lo hi:Int) (o:Value) (acc:List MVar):Prop where
 st:RSt c p w
 fr:Fr (XR9 c.R) W w
 box:w.heap[b]? = some (.cells #[.string nm,.int .i64 lo,.int .i64 hi] 71)
 bW:W.heap.size≤b
 Rw:c.R<W.heap.size
 Nw:c.N≤W.heap.size
 NBw:c.NB≤W.heap.size
 own:w.ownsRow W.heap.size 71 3 o acc.length (acc.flatMap varC)
 ap:o.ownBlock≠some b
section
variable {c:RC} {W w w':World} {p p':RP} {b:Nat} {nm:ByteArray} {lo hi:Int} {o:Value} {acc:List MVar}
theorem VB.call (h:VB c W w p b nm lo hi o acc) (hf:Fr (XR9 c.R) w w') (hst:RSt c p' w'):VB c W w' p' b nm lo hi o acc :=
 ⟨hst,h.fr.trans hf,(hf.block _ (Array.getElem?_eq_some_iff.1 h.box).1 (by have h1:=h.Rw;have h2:=h.bW;show ¬_=_;omega)).trans h.box,h.bW,h.Rw,h.Nw,h.NBw,zCT h.own hf (fun j hj=>by have h1:j=c.R:=hj;rw[h1];exact h.Rw),h.ap⟩
theorem VB.below (h:VB c W w p b nm lo hi o acc) (hb:Below w.heap.size w w'):VB c W w' p b nm lo hi o acc:=h.call (Fr.below hb) (h.st.below hb)
theorem VB.put (h:VB c W w p b nm lo hi o acc) (i:Nat) (u:Value) (lo' hi':Int) (hcs:(#[.string nm,.int .i64 lo,.int .i64 hi]:Array Value).setIfInBounds i u=#[.string nm,.int .i64 lo',.int .i64 hi']):VB c W (w.setCell ⟨b,i,none⟩ u) p b nm lo' hi' o acc where
 st:=h.st.set (q:=⟨b,i,none⟩) (by have h1:=h.Rw;have h2:=h.bW;show b≠c.R;omega) (by have h1:=h.Nw;have h2:=h.bW;show c.N≤b;omega) (by have h1:=h.NBw;have h2:=h.bW;show c.NB≤b;omega) u
 fr:=h.fr.setNew (p:=⟨b,i,none⟩) h.bW u
 box:=by rw[heap_setCell_same w _ i _ _ _ h.box,hcs]
 bW:=h.bW
 Rw:=h.Rw
 Nw:=h.Nw
 NBw:=h.NBw
 own:=zRW h.own h.ap i u
 ap:=h.ap
theorem VB.setLo (h:VB c W w p b nm lo hi o acc) (n:Int):VB c W (w.setCell ⟨b,1,none⟩ (.int .i64 n)) p b nm n hi o acc:=h.put 1 _ n hi rfl
theorem VB.setHi (h:VB c W w p b nm lo hi o acc) (n:Int):VB c W (w.setCell ⟨b,2,none⟩ (.int .i64 n)) p b nm lo n o acc:=h.put 2 _ lo n rfl
theorem VB.step (h:VB c W w p b nm lo hi o acc) (hk:p.k+1≤c.T.length):VB c W (w.setCell ⟨c.R,1,none⟩ (.int .i64 ((p.k+1:Nat):Int))) ⟨p.k+1,p.er⟩ b nm lo hi o acc :=
 h.call (zE5 _ _ _ _) (h.st.setAt (p.k+1) hk)
end
end Go.Proofs.YtdjbejlbmaiocagGreatDoor
