/- What the proof leans on, part 31. -/
import Derived.Test.YtndcpnlaadikoaaGreatDoorPartBd
import Derived.Test.YtndcpnlaadikoaaGreatDoorPartAg
import Derived.Test.YtndcpnlaadikoaaGreatDoorPartBc
import Derived.Test.YtndcpnlaadikoaaGreatDoorPartAj
import Derived.Deep.DeepCutAuto
import Derived.Deep.RegionHeld3
import Derived.Deep.Onto
namespace Go.Proofs.YtndcpnlaadikoaaGreatDoor
open Go.RowKit
set_option maxHeartbeats 1600000 in
set_option maxRecDepth 100000 in
theorem zEH (l:MLit) (x:Int) (w:World) :
 Calls Tryz.prog 110 #[.agg #[.int .i64 l.var,.int .i64 l.op,.int .i64 l.n],.int .i64 x] w fun e w'=>e=.returned (.bool (litV x l))∧Below w.heap.size w w':=by
 obtain⟨v,op,n⟩:=l
 obtain⟨R,hR⟩:∃R,litV x ⟨v,op,n⟩=R:=⟨_,rfl⟩
 rw[hR]
 have HR:Hid (litV x ⟨v,op,n⟩=R):=hR
 clear hR
 dsimp only
 by_cases h1:op=1
 ·subst h1
  have HE:Hid (R=decide (x≤n)):=HR.out.symm
  cases hq:decide (x≤n) <;> rw[hq] at HE
  all_goals
   go_enter Tryz.func110,Tryz.ntmps110
   go_wp2
   go_ret
   exact⟨zAB HE.out.symm,zAA _ _⟩
 ·have g1:(op==1)=false:=by simpa using h1
  by_cases h2:op=2
  ·subst h2
   have HE:Hid (R=decide (n≤x)):=HR.out.symm
   cases hq:decide (n≤x) <;> rw[hq] at HE
   all_goals
    go_enter Tryz.func110,Tryz.ntmps110
    go_wp2
    go_ret
    exact⟨zAB HE.out.symm,zAA _ _⟩
  ·have g2:(op==2)=false:=by simpa using h2
   by_cases h3:op=3
   ·subst h3
    have HE:Hid (R=(x==n)):=HR.out.symm
    cases hq:(x==n) <;> rw[hq] at HE
    all_goals
     go_enter Tryz.func110,Tryz.ntmps110
     go_wp2
     go_ret
     exact⟨zAB HE.out.symm,zAA _ _⟩
   ·have g3:(op==3)=false:=by simpa using h3
    by_cases h4:op=4
    ·subst h4
     have HE:Hid (R=(x != n)):=HR.out.symm
     cases hq:(x != n) <;> rw[hq] at HE
     all_goals
      go_enter Tryz.func110,Tryz.ntmps110
      go_wp2
      go_ret
      exact⟨zAB HE.out.symm,zAA _ _⟩
    ·have g4:(op==4)=false:=by simpa using h4
     have HE:Hid (R=false):=by
      show _=_
      rw[←HR.out];unfold litV;rw[if_neg h1,if_neg h2,if_neg h3,if_neg h4]
     go_enter Tryz.func110,Tryz.ntmps110
     go_wp2
     go_ret
     exact⟨zAB HE.out.symm,zAA _ _⟩
def zBT (W:World) (v:Value) (cells:List Value) (M:Sto) (k:Nat) (w:World):Prop :=
 w.ownsRow W.heap.size 42 1 v k cells∧(∀(j:Nat) (r:List Int),j<k→M[j]? = some r→∃x,cells[j]? = some x∧(IArg W x r∨w.ownsRow W.heap.size 3 1 x r.length (r.map (Value.int .i64))))∧Below W.heap.size W w
theorem zBT.nil (W:World) (M:Sto):zBT W (.slice none 0 0) [] M 0 W:=⟨World.ownsRow_nil _ _ _ _,fun j r hj=>by omega,Below.refl _ _⟩
theorem zBT.below {W:World} {k:Nat} {v:Value} {cells:List Value} {M:Sto} {w w':World} (h:zBT W v cells M k w) (hb:Below w.heap.size w w'):zBT W v cells M k w':=by
 refine⟨zAD h.1 hb,fun j r hj hr=>?_,h.2.2.trans (hb.mono h.2.2.size)⟩
 obtain⟨x,h1,h2⟩:=h.2.1 j r hj hr
 exact⟨x,h1,h2.imp id fun h3=>zAD h3 hb⟩
theorem zBT.push {W:World} {k:Nat} {v v' x:Value} {cells:List Value} {M:Sto} {r:List Int} {w w':World} (h:zBT W v cells M k w) (hr:M[k]? = some r) (hx:IArg W x r∨w.ownsRow W.heap.size 3 1 x r.length (r.map (Value.int .i64)))
 (hw:w'.ownsRow W.heap.size 42 1 v' (k+1) (cells++[x])) (hg:w.grownBy w' v.ownBlock):zBT W v' (cells++[x]) M (k+1) w':=by
 have hlen:cells.length=k:=by have:=h.1.1;omega
 have keep:∀{y:Value} {q:List Int},w.ownsRow W.heap.size 3 1 y q.length (q.map (Value.int .i64))→w'.ownsRow W.heap.size 3 1 y q.length (q.map (Value.int .i64)):=fun hy=>hy.kept hg (zH2 hy h.1 (by decide))
 refine⟨hw,fun j q hj hq=>?_,h.2.2.grown hg h.2.2.size (fun g hg2=>(h.1.lt g hg2).1)⟩
 by_cases hjk:j=k
 ·subst hjk
  rw[hr] at hq
  cases hq
  exact⟨x,by rw[List.getElem?_append_right (by omega),hlen];simp,hx.imp id keep⟩
 ·obtain⟨y,h1,h2⟩:=h.2.1 j q (by omega) hq
  exact⟨y,by rw[List.getElem?_append_left (by omega)];exact h1,h2.imp id keep⟩
theorem zBT.arg {W:World} {v:Value} {cells:List Value} {M:Sto} {w:World} (h:zBT W v cells M M.length w):RArg w v M:=by
 have row:∀{x:Value} {r:List Int},(IArg W x r∨w.ownsRow W.heap.size 3 1 x r.length (r.map (Value.int .i64)))→IArg w x r:=fun hx=>hx.elim (fun h1=>IArg.below h.2.2 h1) zCW
 rcases h.1.2 with ⟨rfl,hn⟩ | ⟨g,cap,cur,rfl,hg,hh,hc1,hc2,_,_⟩
 ·have:M=[]:=List.eq_nil_of_length_eq_zero hn
  subst this
  exact⟨none,0,rfl,⟨Nat.le_refl _,Nat.zero_le _⟩,fun i z hz=>by simp at hz⟩
 ·refine⟨_,cap,rfl,⟨hc1,hc2⟩,fun i r hr=>?_⟩
  have hi:i<M.length:=(List.getElem?_eq_some_iff.1 hr).1
  obtain⟨x,h1,h2⟩:=h.2.1 i r hi hr
  exact⟨g,0,x,rfl,(Array.getElem?_eq_some_iff.1 hh).1,by rw[Nat.zero_add,h.1.cellAt i (by omega)];exact h1,row h2⟩
def zB4 (n:Nat):Sto:=List.replicate n []
set_option maxHeartbeats 1600000 in
set_option maxRecDepth 100000 in
theorem zCa (n:Nat) (hn:n≤600) (w:World) :
 Calls Tryz.prog 157 #[.int .i64 (n:Int)] w fun e w'=>∃x,e=.returned x∧RArg w' x (zB4 n)∧Below w.heap.size w w':=by
 have HL:Hid ((zB4 n).length=n):=by show _=_;simp[zB4]
 go_enter Tryz.func157,Tryz.ntmps157
 go_wp2_with fail
 go_loopw [3,4] (fun o i wr=>∃(k:Nat) (cells:List Value),k≤n∧i=.int .i64 k∧zBT w o cells (zB4 n) k wr) (fun _ i _=>n - (intOf i).toNat)
 case atStart=>exact⟨0,[],by omega,rfl,zBT.nil _ _⟩
 case round =>
  obtain⟨k,cells,hk,rfl,hrow⟩:=hrel
  have HROW:Hid (zBT w u3 cells (zB4 n) k wr):=hrow
  obtain⟨ao,co,rfl⟩:=zAE hrow.1
  by_cases hlt:k<n
  ·have HMK:Hid ((zB4 n)[k]? = some []):=by show _=_;unfold zB4;rw[List.getElem?_replicate,if_pos hlt]
   have hout:=hrow.1
   have hsz:=hrow.2.2.size
   clear hrow
   go_wp2_with (at_builtin;refine zAm rfl _ _ rfl w.heap.size _ k cells rfl (hout.alloc _) wr.heap.size (.slice none 0 0) rfl rfl ?c1 ?c2 ?c3 ?_)
   case c1=>exact World.cell?_alloc_at _ _ _ 0 (by simp)
   case c2=>omega
   case c3=>simp;omega
   intro v3 w3 hown3 hgrow
   have HP3:Hid (zBT w v3 (cells++[.slice none 0 0]) (zB4 n) (k+1) w3):=(HROW.out.below (zAA _ _)).push HMK.out (Or.inr (World.ownsRow_nil _ _ _ _)) hown3 hgrow
   clear hown3 hgrow hout
   go_wp2
   go_roundw
   case rel=>exact⟨k+1,_,by omega,by go_num,HP3.out⟩
   case measure=>simp[intOf];omega
  ·have hke:k=n:=by omega
   have HF:Hid (RArg wr (.slice ao k co) (zB4 n)∧Below w.heap.size w wr):=by
    refine⟨?_,hrow.2.2⟩
    subst hke
    have h2:zBT w (.slice ao k co) cells (zB4 k) (zB4 k).length wr:=by rw[HL.out];exact hrow
    exact h2.arg
   clear hke hrow
   go_wp2
   go_ret
   exact⟨_,rfl,HF.out.1,HF.out.2⟩
theorem zAS {w2 Y w3:World} {A:Prop} (h:Below w2.heap.size w2 Y∧A) (hb:Below Y.heap.size Y w3):Below w2.heap.size w2 w3:=h.1.trans (hb.mono h.1.size)
def zCT (l:MLit) (k:Nat) (z:Int):Bool:=decide ((k:Int)≠l.var) || !litV z l
def zBk (s:Sto) (c:Cla):Sto:=c.foldl (fun s l=>zA6 s (zCT l)) s
theorem zKZ (s:Sto) (c:Cla) (l:MLit):zBk s (c++[l])=zA6 (zBk s c) (zCT l):=by unfold zBk;rw[List.foldl_append];rfl
theorem zLi (s:Sto):∀c:Cla,(zBk s c).length=s.length:=fun c=>by
 unfold zBk
 induction c generalizing s with
 | nil=>rfl
 | cons l r ih=>rw[List.foldl_cons,ih,zAQ]
theorem zLj (s:Sto) (p q:Nat→Int→Bool):zA6 (zA6 s p) q=zA6 s fun k z=>p k z&&q k z:=by
 refine zGh _ _ (by rw[zAQ,zAQ,zAQ]) fun k r t hr ht=>?_
 obtain⟨a,ha,rfl⟩:=zAl _ _ _ _ hr
 obtain⟨b,hb,rfl⟩:=zAl _ _ _ _ ha
 rw[zBY s _ k b hb] at ht
 cases ht
 rw[List.filter_filter]
 congr 1
 funext z
 exact Bool.and_comm _ _
theorem zCD (s:Sto) (c:Cla):zBk s c=zBW s c:=by
 unfold zBk zBW
 induction c generalizing s with
 | nil=>rw[List.foldl_nil];exact (zHR _ _ fun _ _ _ _ _=>rfl).symm
 | cons l r ih =>
   rw[List.foldl_cons,ih,zLj]
   congr 1
   funext k z
   unfold zCT oneB
   rw[List.any_cons,Bool.not_or,Bool.not_and]
   congr 2
   by_cases h:l.var=(k:Int)
   ·simp[h]
   ·have:(k:Int)≠l.var:=fun e=>h e.symm
    simp[h,this]
theorem zC4 (r:List Int) (p:Int→Bool) (k:Nat) (z:Int) (h:r[k]? = some z):(r.take (k+1)).filter p=(r.take k).filter p++(if p z then [z] else []):=by
 rw[List.take_add_one,h,List.filter_append]
 congr 1
 cases hp:p z <;> simp[hp]
set_option maxHeartbeats 6400000 in
set_option maxRecDepth 100000 in
theorem zH3 (s:Sto) (hs6:s.length≤6) (hrow:∀r∈s,r.length≤6) (c:Cla) (v u:Value) (w:World) (hv:RArg w v s) (hu:LArg w u c) :
 Calls Tryz.prog 95 #[v,u] w fun e w'=>∃x,e=.returned x∧RArg w' x (zBk s c)∧Below w.heap.size w w':=by
 have HR0:Hid (RArg w v s):=hv
 have HL0:Hid (LArg w u c):=hu
 have HLEN:Hid (∀d:Cla,(zBk s d).length=s.length):=zLi s
 have HSH:Hid (∀(d:Cla) (r:List Int),r∈zBk s d→r.length≤6):=fun d r hr=>by
  rw[zCD] at hr
  obtain⟨k,hk⟩:=List.mem_iff_getElem?.1 hr
  obtain⟨a,ha,rfl⟩:=zAl _ _ _ _ hk
  exact Nat.le_trans (List.length_filter_le _ _) (hrow a (List.mem_of_getElem? ha))
 obtain⟨a,ca,rfl,_,_⟩:=hv
 obtain⟨b,cb,rfl,hmb,_⟩:=hu
 unfold maxLen at hmb
 obtain⟨hmb1,hmb2⟩:=hmb
 obtain⟨i0,hi,hz0,hz1,hz2⟩:=info_parts Tryz.infoInt
 go_enter Tryz.func95,Tryz.ntmps95
 go_wp2_with fail
 go_loopw [5,6] (fun o i wr=>∃k:Nat,k≤c.length∧i=.int .i64 k∧RArg wr o (zBk s (c.take k))∧Below w.heap.size w wr) (fun _ i _=>c.length - (intOf i).toNat)
 case atStart=>exact⟨0,by omega,rfl,HR0.out,Below.refl _ _⟩
 case round =>
  obtain⟨k,hk,rfl,hro,hbw⟩:=hrel
  have HRO:Hid (RArg wr u5 (zBk s (c.take k))):=hro
  have HBW:Hid (Below w.heap.size w wr):=hbw
  obtain⟨D,hD⟩:∃D,zBk s (c.take k)=D:=⟨_,rfl⟩
  have HDL:Hid (D.length=s.length):=by show _=_;rw[←hD];exact HLEN.out _
  have HDS:Hid (∀r∈D,r.length≤6):=fun r hr=>by rw[←hD] at hr;exact HSH.out _ r hr
  rw[hD] at HRO hro
  obtain⟨ao,co,rfl,hmo,_⟩:=hro
  unfold maxLen at hmo
  obtain⟨hmo1,hmo2⟩:=hmo
  by_cases hlt:k<c.length
  ·obtain⟨l,hl⟩:∃l,c[k]? = some l:=⟨c[k],by simp[hlt]⟩
   have HNX:Hid (zBk s (c.take (k+1))=zA6 D (zCT l)):=by
    show _=_
    rw[List.take_add_one,hl,←hD];exact zKZ s _ l
   obtain⟨E,hE⟩:∃E,zA6 D (zCT l)=E:=⟨_,rfl⟩
   have HE:Hid (zA6 D (zCT l)=E):=hE
   have HEL:Hid (E.length=D.length):=by show _=_;rw[←hE];exact zAQ _ _
   rw[hE] at HNX
   obtain⟨lb,lo,hlb,hll,m0,m1,m2⟩:=LArg.nth HL0.out k l hl
   subst hlb
   have g0:=(hbw.cell (p:=⟨lb,lo+k * 3,none⟩) hll).trans m0
   have g1:=(hbw.cell (p:=⟨lb,lo+k * 3+1,none⟩) hll).trans m1
   have g2:=(hbw.cell (p:=⟨lb,lo+k * 3+2,none⟩) hll).trans m2
   have HG:Hid (∀Y,Below wr.heap.size wr Y→lb<Y.heap.size∧Y.cell? ⟨lb,lo+k * 3,none⟩=some (.int .i64 l.var)∧Y.cell? ⟨lb,lo+k * 3+1,none⟩=some (.int .i64 l.op)∧Y.cell? ⟨lb,lo+k * 3+2,none⟩=some (.int .i64 l.n)):=fun Y hY=>by
    have h0:=Nat.lt_of_lt_of_le hll HBW.out.size
    exact⟨Nat.lt_of_lt_of_le h0 hY.size,(hY.cell (p:=⟨lb,lo+k * 3,none⟩) h0).trans g0,(hY.cell (p:=⟨lb,lo+k * 3+1,none⟩) h0).trans g1,(hY.cell (p:=⟨lb,lo+k * 3+2,none⟩) h0).trans g2⟩
   obtain⟨W,hW⟩:∃W:World,W=wr:=⟨_,rfl⟩
   clear hl m0 m1 m2 hD hE g0 g1 g2
   go_wp2_with fail
   rw[←hW] at HRO HBW HG ⊢
   clear hW hbw hll
   go_loopw [7,8] (fun o i wr=>∃(j:Nat) (cells:List Value),j≤D.length∧i=.int .i64 j∧zBT W o cells E j wr) (fun _ i _=>D.length - (intOf i).toNat)
   case atStart=>exact⟨0,[],by omega,rfl,zBT.nil _ _⟩
   case round =>
    obtain⟨j,cells,hj,rfl,har⟩:=hrel
    have HAR:Hid (zBT W u7 cells E j wr):=har
    obtain⟨an,cn,rfl⟩:=zAE har.1
    have HBX:Hid (Below W.heap.size W wr):=har.2.2
    clear har
    by_cases hlj:j<D.length
    ·obtain⟨r,hr⟩:∃r,D[j]? = some r:=⟨D[j],by simp[hlj]⟩
     have HEJ:Hid (E[j]? = some (r.filter (zCT l j))):=by show _=_;rw[←HE.out];exact zBY _ _ _ _ hr
     have hr6:r.length≤6:=HDS.out r (List.mem_of_getElem? hr)
     obtain⟨_,_,hsl,_,hrr⟩:=HRO.out
     cases hsl
     obtain⟨ob,oo,xv,hob,hol,ocl,hix⟩:=hrr j r hr
     subst hob
     obtain⟨ax,cx,hxf,hmx,hxr⟩:=hix
     subst hxf
     unfold maxLen at hmx
     obtain⟨hmx1,hmx2⟩:=hmx
     have HOC:Hid (∀Y,Below wr.heap.size wr Y→ob<Y.heap.size∧Y.cell? ⟨ob,oo+j,none⟩=some (.slice ax r.length cx)):=fun Y hY =>
      ⟨Nat.lt_of_lt_of_le (Nat.lt_of_lt_of_le hol HBX.out.size) hY.size,(hY.cell (p:=⟨ob,oo+j,none⟩) (Nat.lt_of_lt_of_le hol HBX.out.size)).trans ((HBX.out.cell (p:=⟨ob,oo+j,none⟩) hol).trans ocl)⟩
     have HXR:Hid (∀(i:Nat) (z:Int),r[i]? = some z→∃b off,ax=some ⟨b,off,none⟩∧b<wr.heap.size∧∀Y,Below wr.heap.size wr Y→b<Y.heap.size∧Y.cell? ⟨b,off+i,none⟩=some (.int .i64 z)):=fun i z hz=>by
      obtain⟨b,off,h1,h2,h3⟩:=hxr i z hz
      have h4:=Nat.lt_of_lt_of_le h2 HBX.out.size
      exact⟨b,off,h1,h4,fun Y hY=>⟨Nat.lt_of_lt_of_le h4 hY.size,(hY.cell (p:=⟨b,off+i,none⟩) h4).trans ((HBX.out.cell (p:=⟨b,off+i,none⟩) h2).trans h3)⟩⟩
     have HGX:Hid (∀Y,Below wr.heap.size wr Y→lb<Y.heap.size∧Y.cell? ⟨lb,lo+k * 3,none⟩=some (.int .i64 l.var)∧Y.cell? ⟨lb,lo+k * 3+1,none⟩=some (.int .i64 l.op)∧Y.cell? ⟨lb,lo+k * 3+2,none⟩=some (.int .i64 l.n)):=fun Y hY=>HG.out Y (HBX.out.trans (hY.mono HBX.out.size))
     obtain⟨wo,hwo⟩:∃wo:World,wo=wr:=⟨_,rfl⟩
     clear hr hrr hxr ocl hol
     go_wp2_with fail
     rw[←hwo] at HAR HBX HOC HXR HGX ⊢
     clear hwo
     go_loopw [9,10] (fun o i wr=>∃q:Nat,q≤r.length∧i=.int .i64 q∧wr.ownsRow wo.heap.size 3 1 o ((r.take q).filter (zCT l j)).length (((r.take q).filter (zCT l j)).map (Value.int .i64))∧Below wo.heap.size wo wr) (fun _ i _=>r.length - (intOf i).toNat)
     case atStart=>exact⟨0,by omega,rfl,World.ownsRow_nil _ _ _ _,Below.refl _ _⟩
     case round =>
      obtain⟨q,hq,rfl,hown,hbq0⟩:=hrel
      have HBQ:Hid (Below wo.heap.size wo wr):=hbq0
      obtain⟨ol,oc⟩:=HOC.out _ hbq0
      obtain⟨acc,hacc⟩:∃acc,(r.take q).filter (zCT l j)=acc:=⟨_,rfl⟩
      have HAC:Hid ((r.take q).filter (zCT l j)=acc):=hacc
      have hal:acc.length≤6:=by rw[←hacc];exact Nat.le_trans (List.length_filter_le _ _) (by rw[List.length_take];omega)
      rw[hacc] at hown
      have HOW:Hid (wr.ownsRow wo.heap.size 3 1 u9 acc.length (acc.map (Value.int .i64))):=hown
      obtain⟨al,cl,hof⟩:=zAE hown
      subst hof
      clear hacc
      by_cases hlq:q<r.length
      ·obtain⟨z,hz⟩:∃z,r[q]? = some z:=⟨r[q],by simp[hlq]⟩
       obtain⟨bx,ox,hbx,hbl,hxc⟩:=HXR.out q z hz
       subst hbx
       obtain⟨zl,zc⟩:=hxc _ hbq0
       obtain⟨ll,k0,k1,k2⟩:=HGX.out _ hbq0
       have HTK:Hid ((r.take (q+1)).filter (zCT l j)=acc++(if zCT l j z then [z] else [])):=by show _=_;rw[←HAC.out];exact zC4 r _ q z hz
       clear hxc hz hbq0
       obtain⟨B,hB⟩:∃B,zCT l j z=B:=⟨_,rfl⟩
       have HB:Hid (zCT l j z=B):=hB
       rw[hB] at HTK
       clear hB
       go_wp2_with fail
       go_cut [54] (fun bv wx=>Hid (bv=.bool B∧Below wr.heap.size wr wx))
       case first =>
        by_cases hvar:(j:Int)=l.var
        ·have HLB:Hid (B=!litV z l):=by
          show _=_
          rw[←HB.out];unfold zCT
          simp[hvar]
         rw[←hvar] at k0
         have g:((j:Int) != (j:Int))=false:=by simp
         obtain⟨vr,op,n⟩:=l
         dsimp only at hvar k1 k2
         subst hvar
         go_region_held3 (fun w'=>Below wr.heap.size wr w'∧w'.cell? ⟨lb,lo+k * 3,none⟩=some (.int .i64 (j:Int))∧w'.cell? ⟨lb,lo+k * 3+1,none⟩=some (.int .i64 op)∧w'.cell? ⟨lb,lo+k * 3+2,none⟩=some (.int .i64 n)∧w'.cell? ⟨ob,oo+j,none⟩=some (.slice (some ⟨bx,ox,none⟩) r.length cx)∧w'.cell? ⟨bx,ox+q,none⟩=some (.int .i64 z))
          ((refine (fun (hB:Below wr.heap.size wr _)=>⟨hB,(hB.cell (p:=⟨lb,lo+k * 3,none⟩) ll).trans k0,(hB.cell (p:=⟨lb,lo+k * 3+1,none⟩) ll).trans k1,(hB.cell (p:=⟨lb,lo+k * 3+2,none⟩) ll).trans k2,(hB.cell (p:=⟨ob,oo+j,none⟩) ol).trans oc,(hB.cell (p:=⟨bx,ox+q,none⟩) zl).trans zc⟩:Below wr.heap.size wr _→_) ?_;first | exact (Below.refl _ _).drew | exact zAS (by assumption) hbq))
          ((go_at_call 110;refine (zEH ⟨(j:Int),op,n⟩ z _).mono ?_;rintro e w3 ⟨rfl,hbq⟩;have hB3:=zAS (by assumption) hbq))
         go_wp2_with fail
         go_meet
         exact⟨by rw[HLB.out],hB3⟩
        ·have HLB:Hid (B=true):=by
          show _=_
          rw[←HB.out];unfold zCT
          simp[hvar]
         have g:((j:Int) != l.var)=true:=by simpa using hvar
         go_quiet (fail)
         go_wp2_with fail
         go_meet
         exact⟨by rw[HLB.out],below_drewN (Below.refl _ _) _⟩
       case rest =>
        obtain⟨rfl,hbc⟩:=hcut.out
        have ol2:=Nat.lt_of_lt_of_le ol hbc.size
        have zl2:=Nat.lt_of_lt_of_le zl hbc.size
        have oc2:=(hbc.cell (p:=⟨ob,oo+j,none⟩) ol).trans oc
        have zc2:=(hbc.cell (p:=⟨bx,ox+q,none⟩) zl).trans zc
        have hown2:=zAD HOW.out hbc
        have HBC:Hid (Below wo.heap.size wo wc):=HBQ.out.trans (hbc.mono HBQ.out.size)
        have HOW2:=(show Hid _ from hown2)
        clear hcut hbc hown oc zc ol zl k0 k1 k2 ll
        cases B
        ·have HT2:Hid ((r.take (q+1)).filter (zCT l j)=acc):=by
          show _=_
          rw[HTK.out];simp
         clear HTK hown2
         go_wp2
         go_roundw
         case rel=>exact⟨q+1,by omega,by go_num,by rw[HT2.out];exact HOW2.out,HBC.out⟩
         case measure=>simp[intOf];omega
        ·have HT2:Hid ((r.take (q+1)).filter (zCT l j)=acc++[z]):=by
          show _=_
          rw[HTK.out];simp
         clear HTK
         go_wp2_with (at_builtin;refine wpList_append_own _ rfl _ _ 42 rfl wo.heap.size 3 i0 (.int .i64 0) 1 8 Tryz.underlying42 hi hz0 hz1 hz2 rfl (by decide) _ _ _ rfl (hown2.alloc _) ⟨wc.heap.size,0,none⟩ 1 1 [.int .i64 z] rfl rfl ?c1 ?c2 ?c3 ?c4 ?c5 ?_)
         case c1=>exact zC0 wc z
         case c2=>intro u hu;rcases List.mem_singleton.1 hu with rfl;rfl
         case c3=>unfold maxLen;omega
         case c4=>omega
         case c5=>have:=HBC.out.size;simp;omega
         intro v3 w3 hown3 hgrow _
         have HO3:Hid (w3.ownsRow wo.heap.size 3 1 v3 ((r.take (q+1)).filter (zCT l j)).length (((r.take (q+1)).filter (zCT l j)).map (Value.int .i64))):=by
          show w3.ownsRow _ _ _ _ _ _
          rw[HT2.out,List.length_append,List.map_append];exact hown3
         have HB3:Hid (Below wo.heap.size wo w3):=(HBC.out.alloc HBC.out.size _).grown hgrow (by have:=HBC.out.size;simp;omega) (fun g h=>(hown2.lt g h).1)
         clear hown3 hgrow hown2
         go_wp2
         go_roundw
         case rel=>exact⟨q+1,by omega,by go_num,HO3.out,HB3.out⟩
         case measure=>simp[intOf];omega
      ·have HFI:Hid (r.filter (zCT l j)=acc):=by show _=_;rw[←HAC.out,List.take_of_length_le (by omega)]
       have HA2:Hid (zBT W (.slice an j cn) cells E j wr):=HAR.out.below HBQ.out
       have HOL:Hid (wr.ownsRow W.heap.size 3 1 (.slice al acc.length cl) acc.length (acc.map (Value.int .i64))):=World.ownsRow.mono HOW.out HBX.out.size
       have hout:=HA2.out.1
       have hsz:=HA2.out.2.2.size
       clear hown hbq0
       go_wp2_with (at_builtin;refine zAm rfl _ _ rfl W.heap.size _ j cells rfl (hout.alloc _) wr.heap.size (.slice al acc.length cl) rfl rfl ?c1 ?c2 ?c3 ?_)
       case c1=>exact World.cell?_alloc_at _ _ _ 0 (by simp)
       case c2=>have:=HDL.out;omega
       case c3=>simp;omega
       intro v3 w3 hown3 hgrow
       have HP3:Hid (zBT W v3 (cells++[.slice al acc.length cl]) E (j+1) w3):=(HA2.out.below (zAA _ _)).push (by rw[HEJ.out,HFI.out]) (Or.inr (HOL.out.alloc _)) hown3 hgrow
       clear hown3 hgrow hout
       go_wp2
       go_roundw
       case rel=>exact⟨j+1,_,by omega,by go_num,HP3.out⟩
       case measure=>simp[intOf];omega
    ·have hje:j=E.length:=by have:=HEL.out;omega
     have HF:Hid (RArg wr (.slice an j cn) E∧Below w.heap.size w wr):=by
      refine⟨?_,HBW.out.trans (HBX.out.mono HBW.out.size)⟩
      have h:=HAR.out
      subst hje
      exact h.arg
     clear hje
     go_wp2
     go_roundw
     case rel=>exact⟨k+1,by omega,by go_num,by rw[HNX.out];exact HF.out.1,HF.out.2⟩
     case measure=>simp[intOf];omega
  ·have HF:Hid (RArg wr (.slice ao D.length co) (zBk s c)):=by
    show RArg _ _ _
    have h:=HRO.out
    rw[←hD,List.take_of_length_le (by omega)] at h
    rw[←hD,List.take_of_length_le (by omega)]
    exact h
   clear hD
   go_wp2
   go_ret
   exact⟨_,rfl,HF.out,HBW.out⟩
end Go.Proofs.YtndcpnlaadikoaaGreatDoor
