/- What the proof leans on, part 43. -/
import Derived.Test.YtndcpnlaadikoaaGreatDoorPartBp
import Derived.Test.YtndcpnlaadikoaaGreatDoorPartBn
namespace Go.Proofs.YtndcpnlaadikoaaGreatDoor
open Go.RowKit
theorem zEr {w2 Y w3:World} {A:Prop} (h:Below w2.heap.size w2 Y∧A) (hw:w3=Y):Below w2.heap.size w2 w3:=hw▸h.1
theorem zKk {w2 Y:World} {A:Prop} {v:Value} {l:List MLit} (h:Below w2.heap.size w2 Y∧A) (hl:LArg w2 v l):LArg Y v l:=LArg.below h.1 hl
set_option maxHeartbeats 3200000 in
set_option maxRecDepth 100000 in
theorem zFz (m:Mod) (a:Option Addr) (cap:Nat) (cs:Value) (w:World) :
 Calls Tryz.prog 38 #[.agg #[.slice a m.vars.length cap,cs,.int .i64 m.goal,.int .i64 m.var],.slice none 0 0] w fun e w'=>e=.returned (.int .i64 0)∧Below w.heap.size w w':=by
 go_enter Tryz.func38,Tryz.ntmps38
 go_wp2_with fail
 have HB0:Hid (Below w.heap.size w (w.alloc (.cells #[.slice a m.vars.length cap,cs,.int .i64 m.goal,.int .i64 m.var] 25))):=zAA _ _
 obtain⟨W,hW⟩:∃W,w.alloc (.cells #[.slice a m.vars.length cap,cs,.int .i64 m.goal,.int .i64 m.var] 25)=W:=⟨_,rfl⟩
 rw[hW] at HB0 ⊢
 clear hW
 go_loopw [5,6] (fun i _ wr=>i=.int .i64 0∧wr=W) (fun _ _ _=>0)
 case atStart=>exact⟨rfl,rfl⟩
 case round =>
  obtain⟨rfl,rfl⟩:=hrel
  go_wp2
  go_ret
  exact⟨rfl,HB0.out⟩
set_option maxHeartbeats 3200000 in
set_option maxRecDepth 100000 in
theorem zF0 (m:Mod) (l:List MStep) (vs cs v:Value) (w:World) (hma:MArg w vs cs m) (hv:zEM w v l) (h6:l.length≤6000) (hc:∀s∈l,claE m.vars s.cla=0) (hk:∀s∈l,s.kind=1→0≤s.con∧s.con<(m.cons.length:Int)) :
 Calls Tryz.prog 9 #[modV vs cs m,.slice none 0 0,v] w fun e w'=>e=.returned (.int .i64 0)∧Below w.heap.size w w':=by
 have HA:Hid (zEM w v l):=hv
 have HC:Hid (∀s∈l,claE m.vars s.cla=0):=hc
 have HK:Hid (∀s∈l,s.kind=1→0≤s.con∧s.con<(m.cons.length:Int)):=hk
 obtain⟨⟨a,cap,rfl,hm1,_⟩,⟨a0,c0,rfl,hm0,_⟩⟩:=hma
 have HM:Hid (m.vars.length≤maxLen):=Nat.le_trans hm1.1 hm1.2
 unfold maxLen at hm0
 obtain⟨hm01,hm0⟩:=hm0
 obtain⟨a2,c2,rfl,_,_⟩:=hv
 have h6':¬((6000:Int)<(l.length:Int)):=by omega
 have h6b:(decide ((6000:Int)<(l.length:Int)))=false:=decide_eq_false h6'
 unfold modV
 clear hc hk hm1
 go_enter Tryz.func9,Tryz.ntmps9
 go_wp2_with fail
 refine (zFz m a cap _ _).mono ?_
 rintro e w1 ⟨rfl,hb1⟩
 have HB0:Hid (Below w.heap.size w w1):=(zAA _ _).trans (hb1.mono (by simp))
 have HN0:Hid (w1.heap[w.heap.size]? = some (.cells #[.slice a m.vars.length cap,.slice a0 m.cons.length c0,.int .i64 m.goal,.int .i64 m.var] 25)):=(hb1.block _ (by simp)).trans (heap_alloc_new _ _)
 clear hb1
 go_wp2_with fail
 go_loopw [7,8] (fun _ i wr=>∃k:Nat,k≤l.length∧i=.int .i64 k∧Below w1.heap.size w1 wr) (fun _ i _=>l.length - (intOf i).toNat)
 case atStart=>exact⟨0,by omega,rfl,Below.refl _ _⟩
 case round =>
  obtain⟨k,hk,rfl,hbw⟩:=hrel
  have HBW:Hid (Below w1.heap.size w1 wr):=hbw
  have HBN:Hid (Below w.heap.size w wr):=HB0.out.trans (hbw.mono HB0.out.size)
  by_cases hlt:k<l.length
  ·obtain⟨x,hx⟩:∃x,l[k]? = some x:=⟨l[k],by simp[hlt]⟩
   have HX0:Hid (claE m.vars x.cla=0):=HC.out x (List.mem_of_getElem? hx)
   obtain⟨_,_,hs2,_,hr2⟩:=zEM.below HBN.out HA.out
   cases hs2
   obtain⟨b,off,xv,hb,hbl,h0,h1,h2,hxl⟩:=hr2 k x hx
   subst hb
   have HXL:Hid (LArg wr xv x.cla):=hxl
   obtain⟨a5,c5,rfl,_,_⟩:=hxl
   have hN:=(hbw.block _ (Array.getElem?_eq_some_iff.1 HN0.out).1).trans HN0.out
   have l0:=(Array.getElem?_eq_some_iff.1 hN).1
   have q0:=blk9 hN 0 _ rfl
   have q1:=blk9 hN 1 _ rfl
   have q2:=blk9 hN 2 _ rfl
   have q3:=blk9 hN 3 _ rfl
   clear hx hN hbw hr2 h0 h1
   go_wp2_with fail
   go_region_held3 (fun w'=>Below wr.heap.size wr w'∧w'.cell? ⟨w.heap.size,0,none⟩=some (.slice a m.vars.length cap)∧w'.cell? ⟨w.heap.size,1,none⟩=some (.slice a0 m.cons.length c0)∧w'.cell? ⟨w.heap.size,2,none⟩=some (.int .i64 m.goal)∧w'.cell? ⟨w.heap.size,3,none⟩=some (.int .i64 m.var)∧w'.cell? ⟨b,off+k * 3+2,none⟩=some (.slice a5 x.cla.length c5))
    ((refine (fun (hB:Below wr.heap.size wr _)=>⟨hB,(hB.cell (p:=⟨w.heap.size,0,none⟩) l0).trans q0,(hB.cell (p:=⟨w.heap.size,1,none⟩) l0).trans q1,(hB.cell (p:=⟨w.heap.size,2,none⟩) l0).trans q2,(hB.cell (p:=⟨w.heap.size,3,none⟩) l0).trans q3,(hB.cell (p:=⟨b,off+k * 3+2,none⟩) hbl).trans h2⟩:Below wr.heap.size wr _→_) ?_;first | exact (Below.refl _ _).drew | exact zAS (by assumption) hbq))
    ((go_at_call 39;refine (zIH m x.cla a cap _ _ _ HM.out (zKk (by assumption) HXL.out) HX0.out).mono ?_;rintro e w3 ⟨rfl,hbq⟩;have hB3:=zAS (by assumption) hbq))
   have HB3:Hid (Below w1.heap.size w1 w3):=HBW.out.trans (hB3.mono HBW.out.size)
   clear l0 q0 q1 q2 q3 h2 hbl hB3 hbq
   go_wp2
   go_roundw
   case rel=>exact⟨k+1,by omega,by go_num,HB3.out⟩
   case measure=>simp[intOf];omega
  ·clear hbw
   obtain⟨W,hW⟩:∃W:World,W=wr:=⟨_,rfl⟩
   go_wp2_with fail
   rw[←hW] at HBW HBN ⊢
   clear hW hlt hk
   go_loopw [9] (fun i wr=>∃k:Nat,k≤l.length∧i=.int .i64 k∧Below W.heap.size W wr) (fun i _=>l.length - (intOf i).toNat)
   case atStart=>exact⟨0,by omega,rfl,Below.refl _ _⟩
   case round =>
    obtain⟨k2,hk2,rfl,hbw⟩:=hrel
    have HBV:Hid (Below W.heap.size W wr):=hbw
    have HBM:Hid (Below w.heap.size w wr):=HBN.out.trans (hbw.mono HBN.out.size)
    by_cases hlt:k2<l.length
    ·obtain⟨x,hx⟩:∃x,l[k2]? = some x:=⟨l[k2],by simp[hlt]⟩
     have hxk:=HK.out x (List.mem_of_getElem? hx)
     obtain⟨_,_,hs2,_,hr2⟩:=zEM.below HBM.out HA.out
     cases hs2
     obtain⟨b,off,xv,hb,hbl,h0,h1,h2,hxl⟩:=hr2 k2 x hx
     subst hb
     have hbw1:=HBW.out.trans (hbw.mono HBW.out.size)
     have hN:=(hbw1.block _ (Array.getElem?_eq_some_iff.1 HN0.out).1).trans HN0.out
     have l0:=(Array.getElem?_eq_some_iff.1 hN).1
     have q1:=blk9 hN 1 _ rfl
     obtain⟨kd,cn,cla⟩:=x
     dsimp only at h0 h1 hxk
     clear hx hN hbw hr2 h2 hxl hbw1
     by_cases hkd:kd=1
     ·obtain⟨g1,g2⟩:=hxk hkd
      subst hkd
      have HBT:Hid ((decide ((0:Int)≤cn)&&decide (cn≤IntKind.i64.wrap ((m.cons.length:Int) - 1)))=true):=by show _=_;rw[show IntKind.i64.wrap ((m.cons.length:Int) - 1)=(m.cons.length:Int) - 1 by rw[IntKind.wrap_i64];omega,Bool.and_eq_true];simp;omega
      clear hxk
      go_wp2_with fail
      go_region_held3 (fun w'=>Below wr.heap.size wr w'∧w'.cell? ⟨w.heap.size,1,none⟩=some (.slice a0 m.cons.length c0)∧w'.cell? ⟨b,off+k2 * 3,none⟩=some (.int .i64 1)∧w'.cell? ⟨b,off+k2 * 3+1,none⟩=some (.int .i64 cn))
       ((refine (fun (hB:Below wr.heap.size wr _)=>⟨hB,(hB.cell (p:=⟨w.heap.size,1,none⟩) l0).trans q1,(hB.cell (p:=⟨b,off+k2 * 3,none⟩) hbl).trans h0,(hB.cell (p:=⟨b,off+k2 * 3+1,none⟩) hbl).trans h1⟩:Below wr.heap.size wr _→_) ?_;first | exact (Below.refl _ _).drew | exact zEr (by assumption) hw3))
       ((go_at_call 40;refine (zC6 _ _ _ _).mono ?_;rintro e w3 ⟨rfl,hw3⟩;rw[HBT.out];have hB3:=zEr (by assumption) hw3))
      clear l0 q1 h0 h1 hbl hB3 hw3
      go_wp2
      go_roundw
      case rel=>exact⟨k2+1,by omega,by go_num,HBV.out.drew⟩
      case measure=>simp[intOf];omega
     ·have g1:(kd==1)=false:=by simpa using hkd
      clear hxk
      go_wp2_with fail
      go_quiet (fail)
      go_wp2
      go_roundw
      case rel=>exact⟨k2+1,by omega,by go_num,below_drewN HBV.out _⟩
      case measure=>simp[intOf];omega
    ·clear hbw
     go_wp2
     go_ret
     exact⟨rfl,HBM.out⟩
theorem Tryz.infoCla8:(Tryz.prog.info? 28).map (fun i=>(i.zero,i.size,i.bytes))=some (some (.slice none 0 0),1,24):=by kernel_rfl
theorem Tryz.underClas8:Tryz.prog.underlying 26=some (.slice 28):=by kernel_rfl
def CRel (W:World) (cells:List Value) (L:List Cla):Prop:=cells.length=L.length∧∀(i:Nat) (t:Cla),L[i]? = some t→∃x,cells[i]? = some x∧LArg W x t
theorem CRel.nil (W:World):CRel W [] []:=⟨rfl,fun i t h=>by simp at h⟩
theorem CRel.snoc {W:World} {cells:List Value} {L:List Cla} (h:CRel W cells L) {x:Value} {t:Cla} (hx:LArg W x t):CRel W (cells++[x]) (L++[t]):=by
 refine⟨by simp[h.1],fun i u hu=>?_⟩
 by_cases hi:i<L.length
 ·rw[List.getElem?_append_left hi] at hu
  obtain⟨y,h1,h2⟩:=h.2 i u hu
  exact⟨y,by rw[List.getElem?_append_left (by rw[h.1];exact hi)];exact h1,h2⟩
 ·rw[List.getElem?_append_right (by omega)] at hu
  have hi0:i - L.length=0:=by
   have:=(List.getElem?_eq_some_iff.1 hu).1
   simp at this;omega
  rw[hi0] at hu
  have:u=t:=by simpa using hu.symm
  subst this
  exact⟨x,by rw[List.getElem?_append_right (by rw[h.1];omega),h.1,hi0];rfl,hx⟩
theorem CRel.arg {W w:World} {cells:List Value} {L:List Cla} (h:CRel W cells L) {base:Nat} {v:Value} (ho:w.ownsRow base 28 1 v cells.length cells) (hb:Below W.heap.size W w):zA8 w v L:=by
 rcases ho.2 with ⟨rfl,hn⟩ | ⟨g,cap,cur,rfl,hg,hh,hc1,hc2,_,_⟩
 ·have:L=[]:=List.eq_nil_of_length_eq_zero (by rw[←h.1];exact hn)
  subst this
  exact⟨none,0,rfl,⟨Nat.le_refl _,Nat.zero_le _⟩,fun i z hz=>by simp at hz⟩
 ·refine⟨_,cap,by rw[h.1],⟨by rw[←h.1];exact hc1,hc2⟩,fun i t ht=>?_⟩
  obtain⟨x,h1,h2⟩:=h.2 i t ht
  exact⟨g,0,x,rfl,(Array.getElem?_eq_some_iff.1 hh).1,by rw[Nat.zero_add,ho.cellAt i (by have:=(List.getElem?_eq_some_iff.1 h1).1;omega)];exact h1,LArg.below hb h2⟩
theorem zM6 (w:World) (T:TypeId):(w.alloc (.cells #[] T)).ownsRow w.heap.size T 1 (.slice (some ⟨w.heap.size,0,none⟩) 0 0) 0 [] :=
 ⟨rfl,.inr ⟨w.heap.size,0,#[],rfl,Nat.le_refl _,heap_alloc_new _ _,Nat.le_refl _,Nat.zero_le _,rfl,rfl⟩⟩
theorem zM7 {w:World} {x:Value} {t:Cla} (h:LArg w x t):x.oneCell'=true:=by
 obtain⟨a,c,rfl,_⟩:=h;rfl
theorem zEe {w:World} {ops:Array Oper} {rest:List Oper} {o:Oper} {a:Act} {Q:Exit→Act→World→Prop} (hgd:o.guard=none) (s x:Operand)
 (ho:o.op=.call { callee:=.builtin .append,args:=#[s,x],argTypes:=#[26,26] }) (base:Nat)
 (v:Value) (k:Nat) (cells:List Value) (hs:a.eval s=v) (hown:w.ownsRow base 28 1 v k cells)
 (g:Nat) (y:Value) (hy:y.oneCell'=true) (hx:a.eval x=.slice (some ⟨g,0,none⟩) 1 1) (hc:w.cell? ⟨g,0,none⟩=some y) (hk:k≤10000) (hbase:base≤w.heap.size)
 (h:∀v' w',w'.ownsRow base 28 1 v' (k+1) (cells++[y])→w.grownBy w' v.ownBlock→wpList Tryz.prog ops Q rest (a.put o.dst v') w'):wpList Tryz.prog ops Q (o :: rest) a w:=by
 obtain⟨i1,hi1,hy0,hy1,hy2⟩:=info_parts Tryz.infoCla8
 refine wpList_append_own w hgd s x 26 ho base 28 i1 (.slice none 0 0) 1 24 Tryz.underClas8 hi1 hy0 hy1 hy2 rfl (by decide) v k cells hs hown ⟨g,0,none⟩ 1 1 [y] hx rfl ?_ ?_ (by unfold maxLen;omega) (by omega) hbase ?_
 ·intro j u hj
  match j,hj with
  | 0,hj=>simp at hj;subst hj;rw[zDZ];exact hc
 ·intro u hu
  rcases List.mem_singleton.1 hu with rfl
  exact hy
 ·intro v' w' h1 h2 _
  exact h v' w' h1 h2
theorem zHA (w:World) (ty:TypeId) (base n c:Nat) (v:Value) (xs:List Value) (hown:w.ownsRow base 28 1 v n xs) :
 (Builtin.append_ #[26,26] ty #[v,.slice none 0 c]).run Tryz.prog w=.ok v w:=by
 obtain⟨i0,hi,hz0,hz1,hz2⟩:=info_parts Tryz.infoCla8
 rcases hown.2 with ⟨rfl,rfl⟩ | ⟨g,cap,cur,rfl,_,_,hnc,_⟩
 ·simp[Builtin.append_,run_underlying Tryz.underClas8,sizeOf,typeInfo,hi,Builtin.lenOf,Builtin.firstCells]
 ·simp[Builtin.append_,run_underlying Tryz.underClas8,sizeOf,typeInfo,hi,Builtin.lenOf,Builtin.firstCells,hnc,storeCells]
theorem zEQ {w:World} {ops:Array Oper} {rest:List Oper} {o:Oper} {a:Act} {Q:Exit→Act→World→Prop} (hgd:o.guard=none) (s x:Operand)
 (ho:o.op=.call { callee:=.builtin .append,args:=#[s,x],argTypes:=#[26,26] }) (base:Nat)
 (v:Value) (hs:a.eval s=v) (hown:w.ownsRow base 28 1 v 0 [])
 (W0:World) (hb0:Below W0.heap.size W0 w) (u:Value) (l:List Cla) (hx:a.eval x=u) (hl:zA8 W0 u l) (hn:l.length≤10000) (hbase:base≤w.heap.size)
 (h:∀v' w' cells,CRel W0 cells l→w'.ownsRow base 28 1 v' cells.length cells→w.grownBy w' v.ownBlock→wpList Tryz.prog ops Q rest (a.put o.dst v') w'):wpList Tryz.prog ops Q (o :: rest) a w:=by
 obtain⟨i0,hi,hz0,hz1,hz2⟩:=info_parts Tryz.infoCla8
 obtain⟨q,c,rfl,hm,hc⟩:=hl
 cases q with
 | none =>
   have hl0:l=[]:=by
    cases l with
    | nil=>rfl
    | cons z r=>obtain⟨b,off,_,hq,_⟩:=hc 0 z rfl;cases hq
   subst hl0
   refine wpList_plain hgd fun K hK=>?_
   have hr:=zHA w o.type base 0 c v _ hown
   unfold Oper.wp execOp
   simp only[ho,resolve,invoke,builtin,Sem.run_bind,Sem.run_pure,Result.andThen_ok,List.map_toArray,List.map_cons,List.map_nil,hs,hx,List.length_nil,hr]
   exact hK _ _ (h v w [] (CRel.nil _) hown ⟨rfl,rfl,rfl,Nat.le_refl _,fun _ _ _=>rfl⟩)
 | some ad =>
   have hget:∀(i:Nat) (t:Cla),l[i]? = some t→∃y,w.cell? (ad.add i)=some y∧LArg W0 y t:=fun i t ht=>by
    obtain⟨b,off,y,hq,h0,h1,h2⟩:=hc i t ht
    cases hq
    exact⟨y,by rw[zDZ];exact (hb0.cell (p:=⟨b,off+i,none⟩) h0).trans h1,h2⟩
   let news:List Value:=(List.range l.length).map fun i=>(w.cell? (ad.add i)).getD (.slice none 0 0)
   have hnl:news.length=l.length:=by simp[news]
   have hng:∀(i:Nat) (t:Cla),l[i]? = some t→∃y,news[i]? = some y∧w.cell? (ad.add i)=some y∧LArg W0 y t:=fun i t ht=>by
    obtain⟨y,h1,h2⟩:=hget i t ht
    have hi:=(List.getElem?_eq_some_iff.1 ht).1
    exact⟨y,by simp only[news,List.getElem?_map,List.getElem?_range hi,Option.map_some,h1,Option.getD_some],h1,h2⟩
   have hnb:∀(i:Nat) (y:Value),news[i]? = some y→w.cell? (ad.add i)=some y∧y.oneCell'=true:=fun i y hy=>by
    have hi:i<l.length:=by rw[←hnl];exact (List.getElem?_eq_some_iff.1 hy).1
    obtain⟨z,h1,h2,h3⟩:=hng i l[i] (by simp[hi])
    rw[hy] at h1
    cases h1
    exact⟨h2,zM7 h3⟩
   refine wpList_append_own w hgd s x 26 ho base 28 i0 (.slice none 0 0) 1 24 Tryz.underClas8 hi hz0 hz1 hz2 rfl (by decide) v 0 [] hs hown ad l.length c news hx (by rw[hnl,Nat.mul_one]) (fun j y hy=>(hnb j y hy).1) (fun y hy=>?_) (by unfold maxLen;omega) (by omega) hbase ?_
   ·obtain⟨i,hi⟩:=List.mem_iff_getElem?.1 hy
    exact (hnb i y hi).2
   ·intro v' w' h1 h2 h3
    refine h v' w' news ⟨hnl,fun i t ht=>?_⟩ ?_ h2
    ·obtain⟨y,g1,_,g3⟩:=hng i t ht
     exact⟨y,g1,g3⟩
    ·rw[List.nil_append,Nat.zero_add,←hnl] at h1
     exact h1
end Go.Proofs.YtndcpnlaadikoaaGreatDoor
