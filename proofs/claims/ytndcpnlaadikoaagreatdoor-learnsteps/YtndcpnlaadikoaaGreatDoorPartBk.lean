/- What the proof leans on, part 37. -/
import Derived.Test.YtndcpnlaadikoaaGreatDoorPartBf
import Derived.Test.YtndcpnlaadikoaaGreatDoorPartBi
namespace Go.Proofs.YtndcpnlaadikoaaGreatDoor
open Go.RowKit
def zBl (s:Sto):Cla→List Int→List Int
 | [],acc=>acc
 | l :: r,acc=>zBl s r (if zBE s l&&!hasB acc l.var then acc++[l.var] else acc)
theorem zGW (s:Sto) (l:MLit):∀(c:Cla) (acc:List Int),zBl s (c++[l]) acc=if zBE s l&&!hasB (zBl s c acc) l.var then zBl s c acc++[l.var] else zBl s c acc
 | [],acc=>rfl
 | x :: r,acc=>by rw[List.cons_append];unfold zBl;exact zGW s l r _
theorem zH8 (s:Sto) (v:Int):∀(c:Cla) (acc:List Int),v∈zBl s c acc↔v∈acc∨∃l∈c,zBE s l=true∧l.var=v
 | [],acc=>by simp[zBl]
 | x :: r,acc=>by
   unfold zBl
   rw[zH8 s v r]
   cases hx:zBE s x with
   | false=>simp[hx]
   | true =>
     cases hb:hasB acc x.var with
     | true =>
       have:=(zDy _ _).1 hb
       simp only[Bool.not_true,Bool.and_false,Bool.false_eq_true,if_false]
       constructor
       ·rintro (h | ⟨l,hl,h⟩)
        ·exact Or.inl h
        ·exact Or.inr ⟨l,List.mem_cons_of_mem _ hl,h⟩
       ·rintro (h | ⟨l,hl,h1,h2⟩)
        ·exact Or.inl h
        ·rcases List.mem_cons.1 hl with rfl | hl
         ·left;rw[←h2];exact this
         ·exact Or.inr ⟨l,hl,h1,h2⟩
     | false =>
       simp only[Bool.not_false,Bool.and_self,if_true,List.mem_append,List.mem_singleton]
       constructor
       ·rintro ((h | h) | ⟨l,hl,h⟩)
        ·exact Or.inl h
        ·exact Or.inr ⟨x,List.mem_cons_self ..,hx,h.symm⟩
        ·exact Or.inr ⟨l,List.mem_cons_of_mem _ hl,h⟩
       ·rintro (h | ⟨l,hl,h1,h2⟩)
        ·exact Or.inl (Or.inl h)
        ·rcases List.mem_cons.1 hl with rfl | hl
         ·exact Or.inl (Or.inr h2.symm)
         ·exact Or.inr ⟨l,hl,h1,h2⟩
theorem zFf (s:Sto):∀(c:Cla) (acc:List Int),acc.Nodup→(zBl s c acc).Nodup
 | [],acc,h=>h
 | x :: r,acc,h=>by
   unfold zBl
   refine zFf s r _ ?_
   cases hx:zBE s x&&!hasB acc x.var with
   | false=>exact h
   | true =>
     simp only[Bool.and_eq_true,Bool.not_eq_true'] at hx
     simp only[if_true]
     rw[List.nodup_append]
     refine⟨h,by simp,fun a ha b hb he=>?_⟩
     rw[List.mem_singleton.1 hb] at he
     rw[he] at ha
     have:=(zDy _ _).2 ha
     rw[hx.2] at this;cases this
theorem zH9 (s:Sto):∀(c:Cla) (acc:List Int),(zBl s c acc).length≤acc.length+c.length
 | [],acc=>by simp[zBl]
 | x :: r,acc=>by
   unfold zBl
   have:=zH9 s r (if zBE s x&&!hasB acc x.var then acc++[x.var] else acc)
   have h2:(if zBE s x&&!hasB acc x.var then acc++[x.var] else acc).length≤acc.length+1:=by split <;> simp
   simp only[List.length_cons]
   omega
def zCs (c:Cla) (v0:Int) (k:Nat) (z:Int):Bool:=decide ((k:Int)≠v0) || oneB c k z
def zI2 (s:Sto) (c:Cla):Sto :=
 if zAG s then s else match zBl s c [] with
  | []=>zB4 s.length
  | [v0]=>zA6 s (zCs c v0)
  | _=>s
theorem zMz (s:Sto) (c:Cla):zI2 s c=zA0 s c:=by
 unfold zI2
 cases hf:zAG s with
 | true =>
   unfold zA0
   rw[hf]
   rfl
 | false =>
   simp only[Bool.false_eq_true,if_false]
   have hm:=fun v=>zH8 s v c []
   have hnd:=zFf s c [] List.nodup_nil
   match hq:zBl s c [] with
   | [] =>
     rw[hq] at hm
     have hno:c.any (zBE s)=false:=by
      rw[List.any_eq_false]
      intro l hl hlv
      have:=(hm l.var).2 (Or.inr ⟨l,hl,hlv,rfl⟩)
      cases this
     rw[zHS s c hf hno]
     refine zGh _ _ (by rw[zAQ];simp[zB4]) fun k r q hr hq2=>?_
     obtain⟨a,_,rfl⟩:=zAl _ _ _ _ hq2
     unfold zB4 at hr
     have hk:k<s.length:=by have:=(List.getElem?_eq_some_iff.1 hr).1;simpa using this
     rw[List.getElem?_replicate,if_pos hk] at hr
     cases hr
     simp
   | [v0] =>
     rw[hq] at hm
     obtain⟨t,ht,htl,htv⟩:∃l∈c,zBE s l=true∧l.var=v0:=by
      rcases (hm v0).1 (by simp) with h | h
      ·cases h
      ·exact h
     have hno:c.any (fun l=>!decide (l.var=t.var)&&zBE s l)=false:=by
      rw[List.any_eq_false]
      intro l hl hx
      simp only[Bool.and_eq_true,Bool.not_eq_true',decide_eq_false_iff_not] at hx
      have:=(hm l.var).2 (Or.inr ⟨l,hl,hx.2,rfl⟩)
      exact hx.1 ((List.mem_singleton.1 this).trans htv.symm)
     rw[zGi s c hf t ht htl hno,htv]
     rfl
   | v0 :: v1 :: rest =>
     rw[hq] at hm hnd
     have hne:v0≠v1:=fun e=>by
      rw[e] at hnd
      simp at hnd
     obtain⟨t,ht,htl,htv⟩:∃l∈c,zBE s l=true∧l.var=v0:=by
      rcases (hm v0).1 (by simp) with h | h
      ·cases h
      ·exact h
     obtain⟨t1,ht1,htl1,htv1⟩:∃l∈c,zBE s l=true∧l.var=v1:=by
      rcases (hm v1).1 (by simp) with h | h
      ·cases h
      ·exact h
     refine (zHT s c hf t ht htl (List.any_eq_true.2 ⟨t1,ht1,?_⟩)).symm
     have:¬t1.var=t.var:=by rw[htv,htv1];exact fun e=>hne e.symm
     simp[this,htl1]
theorem zM0 (c:Cla) (k:Nat) (z:Int) (i:Nat) (l:MLit) (h:c[i]? = some l):oneB (c.take (i+1)) k z=(oneB (c.take i) k z || (decide (l.var=(k:Int))&&litV z l)):=by
 unfold oneB
 exact zDU c _ i l h
set_option maxHeartbeats 12800000 in
set_option maxRecDepth 100000 in
theorem zLs (s:Sto) (hs6:s.length≤6) (hrow:∀r∈s,r.length≤6) (c:Cla) (hc40:c.length≤40) (hin:zKB s c) (v u:Value) (w:World) (hv:RArg w v s) (hu:LArg w u c) :
 Calls Tryz.prog 161 #[v,u] w fun e w'=>∃x,e=.returned x∧RArg w' x (zI2 s c)∧Below w.heap.size w w':=by
 have HV:Hid (∀Y,Below w.heap.size w Y→RArg Y v s):=fun Y h=>RArg.below h hv
 have HU:Hid (∀Y,Below w.heap.size w Y→LArg Y u c):=fun Y h=>LArg.below h hu
 have HIN:Hid (∀l∈c,0≤l.var∧l.var<(s.length:Int)):=hin
 have HRW:Hid (∀r∈s,r.length≤6):=hrow
 obtain⟨a,ca,rfl,hma,_⟩:=hv
 obtain⟨b,cb,rfl,hmb,_⟩:=hu
 unfold maxLen at hma hmb
 obtain⟨hma1,hma2⟩:=hma
 obtain⟨hmb1,hmb2⟩:=hmb
 obtain⟨i0,hi,hz0,hz1,hz2⟩:=info_parts Tryz.infoInt
 obtain⟨R,hR⟩:∃R,zI2 s c=R:=⟨_,rfl⟩
 have HR:Hid (zI2 s c=R):=hR
 rw[hR]
 clear hR hin hrow
 cases hf:zAG s
 ·have HR2:Hid (R=match zBl s c [] with | []=>zB4 s.length | [v0]=>zA6 s (zCs c v0) | _=>s):=by
   show _=_;rw[←HR.out];unfold zI2;rw[hf];rfl
  have HHF:Hid (∀Y,RArg Y (.slice a s.length ca) s→Calls Tryz.prog 93 #[.slice a s.length ca] Y fun e w'=>e=.returned (.bool false)∧w'=Y):=fun Y hY=>by
   have:=zAk s _ Y hY
   rw[hf] at this;exact this
  clear hf HR
  go_enter Tryz.func161,Tryz.ntmps161
  go_wp2_with fail
  refine (HHF.out w (HV.out _ (Below.refl _ _))).mono ?_
  rintro e w1 ⟨rfl,rfl⟩
  go_wp2_with fail
  go_loopw [5,6] (fun o i wr=>∃k:Nat,k≤c.length∧i=.int .i64 k∧wr.ownsRow w1.heap.size 3 1 o (zBl s (c.take k) []).length ((zBl s (c.take k) []).map (Value.int .i64))∧Below w1.heap.size w1 wr) (fun _ i _=>c.length - (intOf i).toNat)
  case atStart=>exact⟨0,by omega,rfl,World.ownsRow_nil _ _ _ _,Below.refl _ _⟩
  case round =>
   obtain⟨k,hk,rfl,hown,hbw⟩:=hrel
   obtain⟨V,hV⟩:∃V,zBl s (c.take k) []=V:=⟨_,rfl⟩
   have HVV:Hid (zBl s (c.take k) []=V):=hV
   have hVl:V.length≤40:=by
    rw[←hV]
    have:=zH9 s (c.take k) []
    rw[List.length_take] at this
    simp at this
    omega
   rw[hV] at hown
   have HOW:Hid (wr.ownsRow w1.heap.size 3 1 u5 V.length (V.map (Value.int .i64))):=hown
   have HBW:Hid (Below w1.heap.size w1 wr):=hbw
   obtain⟨av,cv,rfl⟩:=zAE hown
   clear hV
   by_cases hlt:k<c.length
   ·obtain⟨l,hl⟩:∃l,c[k]? = some l:=⟨c[k],by simp[hlt]⟩
    have HNX:Hid (zBl s (c.take (k+1)) []=if zBE s l&&!hasB V l.var then V++[l.var] else V):=by
     show _=_
     rw[List.take_add_one,hl,←HVV.out];exact zGW s l _ _
    obtain⟨lb,lo,hlb,hll,m0,m1,m2⟩:=LArg.nth (HU.out _ hbw) k l hl
    subst hlb
    obtain⟨hin0,hin1⟩:=HIN.out l (List.mem_of_getElem? hl)
    obtain⟨var,op,n⟩:=l
    dsimp only at m0 m1 m2 hin0 hin1 HNX
    clear hl
    go_wp2_with fail
    refine (zLk s ⟨var,op,n⟩ hin0 hin1 _ wr (HV.out _ HBW.out)).mono ?_
    rintro e w2 ⟨⟨z,rfl,hz⟩,hb2⟩
    have HOW2:Hid (w2.ownsRow w1.heap.size 3 1 (.slice av V.length cv) V.length (V.map (Value.int .i64))):=zAD HOW.out hb2
    have HB2:Hid (Below w1.heap.size w1 w2):=HBW.out.trans (hb2.mono HBW.out.size)
    have hll2:=Nat.lt_of_lt_of_le hll hb2.size
    have m02:=(hb2.cell (p:=⟨lb,lo+k * 3,none⟩) hll).trans m0
    clear hb2 hown hbw m0 m1 m2 hll
    cases hLV:zBE s ⟨var,op,n⟩
    ·rw[hLV] at HNX hz
     have HN2:Hid (zBl s (c.take (k+1)) []=V):=by show _=_;rw[HNX.out];rfl
     clear HNX hLV
     go_wp2
     go_roundw
     case rel=>exact⟨k+1,by omega,by go_num,by rw[HN2.out];exact HOW2.out,HB2.out⟩
     case measure=>simp[intOf];omega
    ·rw[hLV] at HNX hz
     clear hLV
     go_wp2_with fail
     refine (zGV V _ var _ (zCW HOW2.out)).mono ?_
     rintro e w3 ⟨rfl,rfl⟩
     cases hHB:hasB V var
     ·rw[hHB] at HNX
      have HN2:Hid (zBl s (c.take (k+1)) []=V++[var]):=by show _=_;rw[HNX.out];rfl
      have hown2:=HOW2.out
      clear HNX hHB
      go_wp2_with (at_builtin;refine wpList_append_own _ rfl _ _ 42 rfl w1.heap.size 3 i0 (.int .i64 0) 1 8 Tryz.underlying42 hi hz0 hz1 hz2 rfl (by decide) _ _ _ rfl (hown2.alloc _) ⟨w3.heap.size,0,none⟩ 1 1 [.int .i64 var] rfl rfl ?c1 ?c2 ?c3 ?c4 ?c5 ?_)
      case c1=>exact zC0 w3 var
      case c2=>intro u hu;rcases List.mem_singleton.1 hu with rfl;rfl
      case c3=>unfold maxLen;omega
      case c4=>omega
      case c5=>have:=HB2.out.size;simp;omega
      intro v4 w4 hown4 hgrow _
      have HO4:Hid (w4.ownsRow w1.heap.size 3 1 v4 (zBl s (c.take (k+1)) []).length ((zBl s (c.take (k+1)) []).map (Value.int .i64))):=by
       show w4.ownsRow _ _ _ _ _ _
       rw[HN2.out,List.length_append,List.map_append];exact hown4
      have HB4:Hid (Below w1.heap.size w1 w4):=(HB2.out.alloc HB2.out.size _).grown hgrow (by have:=HB2.out.size;simp;omega) (fun g h=>(hown2.lt g h).1)
      clear hown4 hgrow hown2
      go_wp2
      go_roundw
      case rel=>exact⟨k+1,by omega,by go_num,HO4.out,HB4.out⟩
      case measure=>simp[intOf];omega
     ·rw[hHB] at HNX
      have HN2:Hid (zBl s (c.take (k+1)) []=V):=by show _=_;rw[HNX.out];rfl
      clear HNX hHB
      go_wp2
      go_roundw
      case rel=>exact⟨k+1,by omega,by go_num,by rw[HN2.out];exact HOW2.out,HB2.out⟩
      case measure=>simp[intOf];omega
   ·have HVE:Hid (zBl s c []=V):=by show _=_;rw[←HVV.out,List.take_of_length_le (by omega)]
    rw[HVE.out] at HR2
    clear hown HVV HVE
    have hcase:V=[]∨(∃v0,V=[v0])∨2≤V.length:=by
     match V with
     | []=>exact Or.inl rfl
     | [v0]=>exact Or.inr (Or.inl ⟨v0,rfl⟩)
     | _ :: _ :: _=>exact Or.inr (Or.inr (by simp))
    rcases hcase with rfl | ⟨v0,rfl⟩ | h2
    ·have HR3:Hid (R=zB4 s.length):=HR2.out
     go_wp2_with fail
     refine (zCa s.length (by omega) _).mono ?_
     rintro e w5 ⟨x,rfl,hx,hb5⟩
     have HX:Hid (RArg w5 x (zB4 s.length)):=hx
     have HB5:Hid (Below w1.heap.size w1 w5):=HBW.out.trans (hb5.mono HBW.out.size)
     obtain⟨ax,cx,rfl,_,_⟩:=hx
     clear hb5 hbw
     go_wp2
     go_ret
     rw[HR3.out]
     exact⟨_,rfl,HX.out,HB5.out⟩
    ·have HR3:Hid (R=zA6 s (zCs c v0)):=HR2.out
     rw[List.length_singleton] at HOW ⊢
     obtain⟨E,hE⟩:∃E,zA6 s (zCs c v0)=E:=⟨_,rfl⟩
     have HE:Hid (zA6 s (zCs c v0)=E):=hE
     have HEL:Hid (E.length=s.length):=by show _=_;rw[←hE];exact zAQ _ _
     rw[hE] at HR3
     obtain⟨vb,hvb⟩:∃vb,av=some ⟨vb,0,none⟩:=by
      rcases HOW.out.2 with ⟨h,_⟩ | ⟨g,cap,cur,h,_⟩
      ·cases h
      ·injection h with h1 _ _
       exact⟨g,h1⟩
     subst hvb
     have HVC:Hid (∀Y,Below wr.heap.size wr Y→vb<Y.heap.size∧Y.cell? ⟨vb,0,none⟩=some (.int .i64 v0)):=fun Y hY=>by
      have h:=zAD HOW.out hY
      exact⟨(h.lt vb rfl).2,(h.cellAt 0 (by simp)).trans rfl⟩
     obtain⟨W,hW⟩:∃W:World,W=wr:=⟨_,rfl⟩
     clear hE HR2
     go_wp2_with fail
     rw[←hW] at HOW HBW HVC ⊢
     clear hW hbw
     go_loopw [7,8] (fun o i wr=>∃(j:Nat) (cells:List Value),j≤s.length∧i=.int .i64 j∧zBT W o cells E j wr) (fun _ i _=>s.length - (intOf i).toNat)
     case atStart=>exact⟨0,[],by omega,rfl,zBT.nil _ _⟩
     case round =>
      obtain⟨j,cells,hj,rfl,har⟩:=hrel
      have HAR:Hid (zBT W u7 cells E j wr):=har
      obtain⟨an,cn,rfl⟩:=zAE har.1
      have HBX:Hid (Below W.heap.size W wr):=har.2.2
      clear har
      by_cases hlj:j<s.length
      ·obtain⟨r,hr⟩:∃r,s[j]? = some r:=⟨s[j],by simp[hlj]⟩
       have HEJ:Hid (E[j]? = some (r.filter (zCs c v0 j))):=by show _=_;rw[←HE.out];exact zBY _ _ _ _ hr
       have hr6:r.length≤6:=HRW.out r (List.mem_of_getElem? hr)
       have HBZ:Hid (Below w1.heap.size w1 wr):=HBW.out.trans (HBX.out.mono HBW.out.size)
       obtain⟨_,_,hsl,_,hrr⟩:=HV.out _ HBZ.out
       cases hsl
       obtain⟨ob,oo,xv,hob,hol,ocl,hix⟩:=hrr j r hr
       subst hob
       obtain⟨ax,cx,hxf,hmx,hxr⟩:=hix
       subst hxf
       unfold maxLen at hmx
       obtain⟨hmx1,hmx2⟩:=hmx
       have HOC:Hid (∀Y,Below wr.heap.size wr Y→ob<Y.heap.size∧Y.cell? ⟨ob,oo+j,none⟩=some (.slice ax r.length cx)):=fun Y hY =>
        ⟨Nat.lt_of_lt_of_le hol hY.size,(hY.cell (p:=⟨ob,oo+j,none⟩) hol).trans ocl⟩
       have HXR:Hid (∀(i:Nat) (z:Int),r[i]? = some z→∃b off,ax=some ⟨b,off,none⟩∧∀Y,Below wr.heap.size wr Y→b<Y.heap.size∧Y.cell? ⟨b,off+i,none⟩=some (.int .i64 z)):=fun i z hz=>by
        obtain⟨b,off,h1,h2,h3⟩:=hxr i z hz
        exact⟨b,off,h1,fun Y hY=>⟨Nat.lt_of_lt_of_le h2 hY.size,(hY.cell (p:=⟨b,off+i,none⟩) h2).trans h3⟩⟩
       have HVX:Hid (∀Y,Below wr.heap.size wr Y→vb<Y.heap.size∧Y.cell? ⟨vb,0,none⟩=some (.int .i64 v0)):=fun Y hY=>HVC.out Y (HBX.out.trans (hY.mono HBX.out.size))
       have HUX:Hid (∀Y,Below wr.heap.size wr Y→LArg Y (.slice b c.length cb) c):=fun Y hY=>HU.out Y (HBZ.out.trans (hY.mono HBZ.out.size))
       obtain⟨wo,hwo⟩:∃wo:World,wo=wr:=⟨_,rfl⟩
       clear hr hrr hxr ocl hol
       go_wp2_with fail
       rw[←hwo] at HAR HBX HOC HXR HVX HUX HBZ ⊢
       clear hwo
       go_loopw [9,10] (fun o i wr=>∃q:Nat,q≤r.length∧i=.int .i64 q∧wr.ownsRow wo.heap.size 3 1 o ((r.take q).filter (zCs c v0 j)).length (((r.take q).filter (zCs c v0 j)).map (Value.int .i64))∧Below wo.heap.size wo wr) (fun _ i _=>r.length - (intOf i).toNat)
       case atStart=>exact⟨0,by omega,rfl,World.ownsRow_nil _ _ _ _,Below.refl _ _⟩
       case round =>
        obtain⟨q,hq,rfl,hown,hbq0⟩:=hrel
        have HBQ:Hid (Below wo.heap.size wo wr):=hbq0
        obtain⟨ol,oc⟩:=HOC.out _ hbq0
        obtain⟨acc,hacc⟩:∃acc,(r.take q).filter (zCs c v0 j)=acc:=⟨_,rfl⟩
        have HAC:Hid ((r.take q).filter (zCs c v0 j)=acc):=hacc
        have hal:acc.length≤6:=by rw[←hacc];exact Nat.le_trans (List.length_filter_le _ _) (by rw[List.length_take];omega)
        rw[hacc] at hown
        have HOWW:Hid (wr.ownsRow wo.heap.size 3 1 u9 acc.length (acc.map (Value.int .i64))):=hown
        obtain⟨al,cl,hof⟩:=zAE hown
        subst hof
        clear hacc
        by_cases hlq:q<r.length
        ·obtain⟨z,hz⟩:∃z,r[q]? = some z:=⟨r[q],by simp[hlq]⟩
         obtain⟨bx,ox,hbx,hxc⟩:=HXR.out q z hz
         subst hbx
         obtain⟨vl,vc⟩:=HVX.out _ hbq0
         have HTK:Hid ((r.take (q+1)).filter (zCs c v0 j)=acc++(if zCs c v0 j z then [z] else [])):=by show _=_;rw[←HAC.out];exact zC4 r _ q z hz
         obtain⟨H0,hH0⟩:∃H0,((j:Int) != v0)=H0:=⟨_,rfl⟩
         have HH0:Hid (zCs c v0 j z=(H0 || oneB c j z)):=by
          show _=_
          rw[←hH0];unfold zCs
          congr 1
          by_cases e:(j:Int)=v0 <;> simp[e]
         have HZC:Hid (∀Y,Below wo.heap.size wo Y→bx<Y.heap.size∧Y.cell? ⟨bx,ox+q,none⟩=some (.int .i64 z)):=hxc
         obtain⟨wp,hwp⟩:∃wp:World,wp=wr:=⟨_,rfl⟩
         clear hxc hz hbq0
         go_wp2_with fail
         rw[←hwp] at HBQ HOWW ⊢
         clear hwp vl vc ol oc hown
         go_loopw [11,12] (fun y i wr=>∃p:Nat,p≤c.length∧i=.int .i64 p∧y=.bool (H0 || oneB (c.take p) j z)∧Below wp.heap.size wp wr) (fun _ i _=>c.length - (intOf i).toNat)
         case atStart=>exact⟨0,by omega,rfl,by simp[oneB],Below.refl _ _⟩
         case round =>
          obtain⟨p,hp,rfl,rfl,hbp⟩:=hrel
          have HBP:Hid (Below wp.heap.size wp wr):=hbp
          have HBQ2:Hid (Below wo.heap.size wo wr):=HBQ.out.trans (hbp.mono HBQ.out.size)
          obtain⟨ol,oc⟩:=HOC.out _ HBQ2.out
          obtain⟨zl,zc⟩:=HZC.out _ HBQ2.out
          obtain⟨Hc,hHc⟩:∃Hc,(H0 || oneB (c.take p) j z)=Hc:=⟨_,rfl⟩
          have HHC:Hid ((H0 || oneB (c.take p) j z)=Hc):=hHc
          rw[hHc]
          clear hHc hbp
          by_cases hlp:p<c.length
          ·obtain⟨l,hl⟩:∃l,c[p]? = some l:=⟨c[p],by simp[hlp]⟩
           have HNX:Hid ((H0 || oneB (c.take (p+1)) j z)=(Hc || (decide (l.var=(j:Int))&&litV z l))):=by
            show _=_
            rw[zM0 c j z p l hl,←Bool.or_assoc,HHC.out]
           obtain⟨lb,lo,hlb,ll,k0,k1,k2⟩:=LArg.nth (HUX.out _ HBQ2.out) p l hl
           subst hlb
           obtain⟨Hn,hHn⟩:∃Hn,(H0 || oneB (c.take (p+1)) j z)=Hn:=⟨_,rfl⟩
           have HHN:Hid ((H0 || oneB (c.take (p+1)) j z)=Hn):=hHn
           rw[hHn] at HNX
           clear hl hHn
           go_wp2_with fail
           cases Hc
           ·by_cases hvar:l.var=(j:Int)
            ·have HN2:Hid (Hn=litV z l):=by show _=_;rw[HNX.out];simp[hvar]
             obtain⟨vr,op,n⟩:=l
             dsimp only at hvar k0 k1 k2
             subst hvar
             have g:((j:Int)==(j:Int))=true:=by simp
             go_region_held3 (fun w'=>Below wr.heap.size wr w'∧w'.cell? ⟨lb,lo+p * 3,none⟩=some (.int .i64 (j:Int))∧w'.cell? ⟨lb,lo+p * 3+1,none⟩=some (.int .i64 op)∧w'.cell? ⟨lb,lo+p * 3+2,none⟩=some (.int .i64 n)∧w'.cell? ⟨ob,oo+j,none⟩=some (.slice (some ⟨bx,ox,none⟩) r.length cx)∧w'.cell? ⟨bx,ox+q,none⟩=some (.int .i64 z))
              ((refine (fun (hB:Below wr.heap.size wr _)=>⟨hB,(hB.cell (p:=⟨lb,lo+p * 3,none⟩) ll).trans k0,(hB.cell (p:=⟨lb,lo+p * 3+1,none⟩) ll).trans k1,(hB.cell (p:=⟨lb,lo+p * 3+2,none⟩) ll).trans k2,(hB.cell (p:=⟨ob,oo+j,none⟩) ol).trans oc,(hB.cell (p:=⟨bx,ox+q,none⟩) zl).trans zc⟩:Below wr.heap.size wr _→_) ?_;first | exact (Below.refl _ _).drew | exact zAS (by assumption) hbq))
              ((go_at_call 110;refine (zEH ⟨(j:Int),op,n⟩ z _).mono ?_;rintro e w3 ⟨rfl,hbq⟩;have hB3:=zAS (by assumption) hbq))
             have HBC:Hid (Below wp.heap.size wp w3):=HBP.out.trans (hB3.mono HBP.out.size)
             clear hB3 hbq ol oc zl zc ll k0 k1 k2
             go_wp2
             go_roundw
             case rel=>exact⟨p+1,by omega,by go_num,by rw[HHN.out,HN2.out],HBC.out⟩
             case measure=>simp[intOf];omega
            ·have HN2:Hid (Hn=false):=by show _=_;rw[HNX.out];simp[hvar]
             have g:(l.var==(j:Int))=false:=by simpa using hvar
             go_quiet (fail)
             go_wp2
             go_roundw
             case rel=>exact⟨p+1,by omega,by go_num,by rw[HHN.out,HN2.out],below_drewN HBP.out _⟩
             case measure=>simp[intOf];omega
           ·have HN2:Hid (Hn=true):=by show _=_;rw[HNX.out];simp
            go_quiet (fail)
            go_wp2
            go_roundw
            case rel=>exact⟨p+1,by omega,by go_num,by rw[HHN.out,HN2.out],below_drewN HBP.out _⟩
            case measure=>simp[intOf];omega
          ·have HUB:Hid (zCs c v0 j z=Hc):=by show _=_;rw[HH0.out,←HHC.out,List.take_of_length_le (by omega)]
           rw[HUB.out] at HTK
           have hown2:=zAD HOWW.out HBP.out
           have HOW2:Hid (wr.ownsRow wo.heap.size 3 1 (.slice al acc.length cl) acc.length (acc.map (Value.int .i64))):=hown2
           cases Hc
           ·have HT2:Hid ((r.take (q+1)).filter (zCs c v0 j)=acc):=by
             show _=_
             rw[HTK.out];simp
            clear HTK hown2
            go_wp2
            go_roundw
            case rel=>exact⟨q+1,by omega,by go_num,by rw[HT2.out];exact HOW2.out,HBQ2.out⟩
            case measure=>simp[intOf];omega
           ·have HT2:Hid ((r.take (q+1)).filter (zCs c v0 j)=acc++[z]):=by
             show _=_
             rw[HTK.out];simp
            clear HTK
            go_wp2_with (at_builtin;refine wpList_append_own _ rfl _ _ 42 rfl wo.heap.size 3 i0 (.int .i64 0) 1 8 Tryz.underlying42 hi hz0 hz1 hz2 rfl (by decide) _ _ _ rfl (hown2.alloc _) ⟨wr.heap.size,0,none⟩ 1 1 [.int .i64 z] rfl rfl ?c1 ?c2 ?c3 ?c4 ?c5 ?_)
            case c1=>exact zC0 wr z
            case c2=>intro u hu;rcases List.mem_singleton.1 hu with rfl;rfl
            case c3=>unfold maxLen;omega
            case c4=>omega
            case c5=>have:=HBQ2.out.size;simp;omega
            intro v3 w3 hown3 hgrow _
            have HO3:Hid (w3.ownsRow wo.heap.size 3 1 v3 ((r.take (q+1)).filter (zCs c v0 j)).length (((r.take (q+1)).filter (zCs c v0 j)).map (Value.int .i64))):=by
             show w3.ownsRow _ _ _ _ _ _
             rw[HT2.out,List.length_append,List.map_append];exact hown3
            have HB3:Hid (Below wo.heap.size wo w3):=(HBQ2.out.alloc HBQ2.out.size _).grown hgrow (by have:=HBQ2.out.size;simp;omega) (fun g h=>(hown2.lt g h).1)
            clear hown3 hgrow hown2
            go_wp2
            go_roundw
            case rel=>exact⟨q+1,by omega,by go_num,HO3.out,HB3.out⟩
            case measure=>simp[intOf];omega
        ·have HFI:Hid (r.filter (zCs c v0 j)=acc):=by show _=_;rw[←HAC.out,List.take_of_length_le (by omega)]
         have HA2:Hid (zBT W (.slice an j cn) cells E j wr):=HAR.out.below HBQ.out
         have HOL:Hid (wr.ownsRow W.heap.size 3 1 (.slice al acc.length cl) acc.length (acc.map (Value.int .i64))):=World.ownsRow.mono HOWW.out HBX.out.size
         have hout:=HA2.out.1
         have hsz:=HA2.out.2.2.size
         clear hown hbq0
         go_wp2_with (at_builtin;refine zAm rfl _ _ rfl W.heap.size _ j cells rfl (hout.alloc _) wr.heap.size (.slice al acc.length cl) rfl rfl ?c1 ?c2 ?c3 ?_)
         case c1=>exact World.cell?_alloc_at _ _ _ 0 (by simp)
         case c2=>omega
         case c3=>simp;omega
         intro v3 w3 hown3 hgrow
         have HP3:Hid (zBT W v3 (cells++[.slice al acc.length cl]) E (j+1) w3):=(HA2.out.below (zAA _ _)).push (by rw[HEJ.out,HFI.out]) (Or.inr (HOL.out.alloc _)) hown3 hgrow
         clear hown3 hgrow hout
         go_wp2
         go_roundw
         case rel=>exact⟨j+1,_,by omega,by go_num,HP3.out⟩
         case measure=>simp[intOf];omega
      ·have hje:j=E.length:=by have:=HEL.out;omega
       have HF:Hid (RArg wr (.slice an j cn) E∧Below w1.heap.size w1 wr):=by
        refine⟨?_,HBW.out.trans (HBX.out.mono HBW.out.size)⟩
        have h:=HAR.out
        subst hje
        exact h.arg
       clear hje
       go_wp2
       go_ret
       rw[HR3.out]
       exact⟨_,rfl,HF.out.1,HF.out.2⟩
    ·have HR3:Hid (R=s):=by
      show _=_
      rw[HR2.out]
      match V,h2 with
      | _ :: _ :: _,_=>rfl
     have g1:((V.length:Int)==0)=false:=by simp only[beq_eq_false_iff_ne,ne_eq];omega
     have g2:(V.length==0)=false:=by simp only[beq_eq_false_iff_ne,ne_eq];omega
     have g3:¬V=[]:=fun h=>by rw[h] at h2;simp at h2
     have g4:decide ((1:Int)<(V.length:Int))=true:=decide_eq_true (by omega)
     have g5:decide (1<V.length)=true:=decide_eq_true (by omega)
     have HB:Hid (RArg wr (.slice a s.length ca) s):=HV.out _ hbw
     clear hbw
     go_wp2
     go_ret
     rw[HR3.out]
     exact⟨_,rfl,HB.out,HBW.out⟩
 ·have HR2:Hid (R=s):=by show _=_;rw[←HR.out];unfold zI2;rw[hf];rfl
  have HHF:Hid (∀Y,RArg Y (.slice a s.length ca) s→Calls Tryz.prog 93 #[.slice a s.length ca] Y fun e w'=>e=.returned (.bool true)∧w'=Y):=fun Y hY=>by
   have:=zAk s _ Y hY
   rw[hf] at this;exact this
  clear hf HR
  go_enter Tryz.func161,Tryz.ntmps161
  go_wp2_with fail
  refine (HHF.out w (HV.out _ (Below.refl _ _))).mono ?_
  rintro e w1 ⟨rfl,rfl⟩
  go_wp2
  go_ret
  rw[HR2.out]
  exact⟨_,rfl,HV.out _ (Below.refl _ _),Below.refl _ _⟩
end Go.Proofs.YtndcpnlaadikoaaGreatDoor
