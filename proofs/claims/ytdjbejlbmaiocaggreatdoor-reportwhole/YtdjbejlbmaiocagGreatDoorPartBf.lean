/- What the proof leans on, part 32. -/
import Derived.Test.YtdjbejlbmaiocagGreatDoorPartBe
import Derived.Maps.OwnSet
import Derived.Maps.Views
import Derived.StringKeys
import Derived.Deep.RegionHeld3
import Derived.Laws.OwnMore
namespace Go.Proofs.YtdjbejlbmaiocagGreatDoor
open Go.RowKit Go.Maps
def nmD:List ByteArray→DataW Unit:=fun l=>(l.zipIdx).foldl (fun D p=>D.put (.string p.1.data.toList) (.lit (.int .i64 (p.2:Int)))) (.map [])
theorem zKG (l:List ByteArray) (n:ByteArray):nmD (l++[n])=(nmD l).put (.string n.data.toList) (.lit (.int .i64 (l.length:Int))):=by
 unfold nmD
 rw[List.zipIdx_append,List.foldl_append]
 simp
theorem zQd {α:Type} {P:List α→Prop} (h0:P []) (h1:∀l a,P l→P (l++[a])):∀l,P l:=by
 intro l
 rw[←List.reverse_reverse l]
 generalize l.reverse=m
 induction m with
 | nil=>exact h0
 | cons a m ih=>rw[List.reverse_cons];exact h1 _ _ ih
theorem zQe (l:List ByteArray):IsMap (nmD l):=by
 induction l using zQd with
 | h0=>exact isMap_empty
 | h1 l n ih=>rw[zKG];exact ih.put _ _
theorem zSA (s:ByteArray) (l:List ByteArray):Maps.has (nmD l) (.string s.data.toList)=(zBg l s).2∧(nmD l).atKey (.string s.data.toList) (.lit (.int .i64 0))=.lit (.int .i64 (zBg l s).1):=by
 induction l using zQd with
 | h0=>exact⟨rfl,rfl⟩
 | h1 l n ih =>
   rw[zKG,zIE]
   by_cases h:n.data.toList=s.data.toList
   ·rw[if_pos h,h]
    exact⟨has_put_same (k:=.string s.data.toList) (zQe l) (show WideAt.IsKeyLit (.string s.data.toList) from trivial) _,atKey_put_same (k:=.string s.data.toList) (zQe l) (show WideAt.IsKeyLit (.string s.data.toList) from trivial) _ _⟩
   ·rw[if_neg h,has_put_other (fun e=>h (Lit.string.inj e).symm),atKey_put_other (fun e=>h (Lit.string.inj e).symm)]
    exact ih
def NmS (w:World) (M:Nat) (l:List ByteArray):Prop:=w.ownsMap Tryz.prog 9 (plainElem Tryz.prog 3) M l.length (nmD l)
theorem NmS.old {w w':World} {M:Nat} {l:List ByteArray} (h:NmS w M l) (hb:w'.heap[M]? = w.heap[M]?):NmS w' M l:=by
 obtain⟨es,clock,hm,F,hs,hd⟩:=h
 exact⟨es,clock,hb.trans hm,F,hs,hd⟩
theorem NmS.lt {w:World} {M:Nat} {l:List ByteArray} (h:NmS w M l):M<w.heap.size:=by
 obtain⟨es,clock,hm,_⟩:=h
 exact (Array.getElem?_eq_some_iff.1 hm).1
theorem Tryz.underNames:Tryz.prog.underlying 175=some (.map 9 3):=by kernel_rfl
theorem Tryz.strKeyed:Keyed Tryz.prog 9:=string_keyed Tryz.underlying9
theorem Tryz.intZero (w:World):(zeroValue 3).run Tryz.prog w=.ok (.int .i64 0) w:=by kernel_rfl
theorem zOn (w:World) (M:Nat) (l:List ByteArray) (s:ByteArray) (hs:s.size≤maxLen) (h:NmS w M l) :
 Sem.run Tryz.prog (Instr.lookup 175 (.map (some M)) (.string s) true) w=.ok (.tuple #[.int .i64 (zBg l s).1,.bool (zBg l s).2]) w:=by
 obtain⟨v,ps,hrun,hv⟩:=h.look_ok Tryz.strKeyed Tryz.underNames (Tryz.intZero w) (plainElem_int (H:=Unit) Tryz.underlying3 (by decide)) (WideMaps.keyOf_string_mk Tryz.underlying9 hs)
 obtain⟨a,rfl,ha,_⟩:=plainElem_int_inv Tryz.underlying3 hv
 obtain⟨h1,h2⟩:=zSA s l
 rw[h2] at ha
 have h3:=congrArg Prod.fst ha
 have h4:(zBg l s).1=a:=by cases h3;rfl
 rw[hrun,h1,h4]
theorem zOo {w2 Y w3:World} {A:Prop} (h:Below w2.heap.size w2 Y∧A) (hb:Below Y.heap.size Y w3):Below w2.heap.size w2 w3:=h.1.trans (hb.mono h.1.size)
set_option maxHeartbeats 1600000 in
set_option maxRecDepth 100000 in
theorem zC1 (N R M:Nat) (en:Int) (names:List ByteArray) (w:World) (l:List Tok) (h:Rd N R M en w l) (hn:NmS w M names) (hne:∀n∈names,n.data.toList≠[]) :
 Calls Tryz.prog 242 #[.pointer (some ⟨R,0,none⟩)] w (zCU (zAh en names l) (fun i v _=>v=.int .i64 i) N R M en (fun k=>k=R) w):=by
 have hf2:=zFs (zAI en l)
 have HB:Hid (Rd N R M en w l):=h
 have HSZ:Hid ((zAI en l).text.size≤maxLen):=zLI h
 have HML:Hid (M<w.heap.size):=hn.lt
 have HNM:Hid (NmS w M names):=hn
 obtain⟨ri,hri⟩:∃ri,(zBg names (zAI en l).text).1=ri:=⟨_,rfl⟩
 obtain⟨rb,hrb⟩:∃rb,(zBg names (zAI en l).text).2=rb:=⟨_,rfl⟩
 obtain⟨nb,hnb⟩:∃nb,zFQ (zAI en l).text=nb:=⟨_,rfl⟩
 have HNB:Hid (zFQ (zAI en l).text=nb):=hnb
 have HLK:Hid (∀Y:World,Below w.heap.size w Y→Sem.run Tryz.prog (Instr.lookup 175 (.map (some M)) (.string (zAI en l).text) true) Y=.ok (.tuple #[.int .i64 ri,.bool rb]) Y):=by
  intro Y hY
  rw[zOn Y M names _ HSZ.out (HNM.out.old (hY.block M HML.out)),hri,hrb]
 have HL:Hid (rb=true→l≠[]):=by
  intro hb hl
  subst hl
  have h2:(zBg names ByteArray.empty).2=rb:=hrb
  rw[zHB names hne,hb] at h2
  cases h2
 obtain⟨P,hP⟩:∃P,zAh en names l=P:=⟨_,rfl⟩
 have HP:Hid (P=if rb then (zBZ en true l).bind fun _ r=>.ok ri r else if nb then .bad (zAI en l).place 5 else .bad (zAI en l).place 1):=by
  show _=_;rw[←hP];unfold zAh;rw[hri,hrb,hnb]
 rw[hP]
 obtain⟨_,v,hR,_⟩:=h
 have c2:w.cell? ⟨R,2,none⟩=some (.map (some M)):=by rw[Lib.cell_of_heap hR];rfl
 have hRl:R<w.heap.size:=(Array.getElem?_eq_some_iff.1 hR).1
 have HAH:Hid (∀Y:World,Below w.heap.size w Y→Calls Tryz.prog 175 #[.pointer (some ⟨R,0,none⟩)] Y fun e w'=>e=.returned (.agg #[.int .i64 (zAI en l).kind,.int .i64 (zAI en l).place,.string (zAI en l).text])∧Below Y.heap.size Y w'):=fun Y hY=>zAS N R M en Y l (HB.out.below hY)
 have hlk0:=HLK.out _ (Below.refl _ _).drew
 clear hri hrb hnb hP hR hn hne
 go_enter Tryz.func242,Tryz.ntmps242
 go_wp2_with fail
 go_region_held3 (fun w'=>Below w.heap.size w w'∧w'.cell? ⟨R,2,none⟩=some (.map (some M))∧Sem.run Tryz.prog (Instr.lookup 175 (.map (some M)) (.string (zAI en l).text) true) w'=.ok (.tuple #[.int .i64 ri,.bool rb]) w')
  ((refine (fun (hB:Below w.heap.size w _)=>⟨hB,(hB.cell (p:=⟨R,2,none⟩) hRl).trans c2,HLK.out _ hB⟩:Below w.heap.size w _→_) ?_;first | exact (Below.refl _ _).drew | exact hB1 | exact (show Below w.heap.size w _∧_∧_ by assumption).1))
  (first
    | (go_at_call 175;refine (HAH.out _ (show Below w.heap.size w _∧_∧_ by assumption).1).mono ?_;rintro e w1 ⟨rfl,hbq⟩;have hB1:=zOo (by assumption) hbq))
 have HR1:Hid (Rd N R M en w1 l):=HB.out.below hB1
 have HF1:Hid (Fr (fun k=>k=R) w w1):=Fr.below hB1
 cases rb
 ·go_wp2_with fail
  refine (zAS N R M en _ l HR1.out).mono ?_
  rintro e w2 ⟨rfl,hb2⟩
  have HR2:Hid (Rd N R M en w2 l):=HR1.out.below hb2
  have HF2:Hid (Fr (fun k=>k=R) w w2):=HF1.out.trans (Fr.below hb2)
  unfold tokA
  clear hb2
  go_wp2_with fail
  refine (zIF _ HSZ.out _).mono ?_
  rintro e w3 ⟨rfl,hb3⟩
  rw[HNB.out]
  have HR3:Hid (Rd N R M en w3 l):=HR2.out.below hb3
  have HF3:Hid (Fr (fun k=>k=R) w w3):=HF2.out.trans (Fr.below hb3)
  clear hb3
  cases nb
  ·have HP2:Hid (P=.bad (zAI en l).place 1):=HP.out
   go_wp2_with fail
   refine (zCi N R M en false w3 l HR3.out (fun hb=>by cases hb)).mono ?_
   intro e w4 hp
   obtain⟨rfl,hfr⟩:=hp
   have hfr2:=HF3.out.trans hfr
   go_wp2
   exact⟨rfl,by rw[HP2.out];exact⟨rfl,hfr2⟩⟩
  ·have HP2:Hid (P=.bad (zAI en l).place 5):=HP.out
   go_wp2_with fail
   refine (zGu N R M en 5 _ l HR3.out).mono ?_
   rintro e w4 ⟨rfl,hb4⟩
   have hfr2:=HF3.out.trans (Fr.below hb4)
   go_wp2
   exact⟨rfl,by rw[HP2.out];exact⟨rfl,hfr2⟩⟩
 ·have HP2:Hid (P=(zBZ en true l).bind fun _ r=>.ok ri r):=HP.out
  go_wp2_with fail
  refine (zCi N R M en true w1 l HR1.out (fun _=>HL.out (by first | rfl | trivial))).mono ?_
  intro e w4 hp
  obtain⟨v,rfl,rfl,hrd,hfr⟩:=hp
  have hfr2:=HF1.out.trans hfr
  unfold tokA
  go_wp2
  go_ret
  rw[HP2.out]
  exact⟨_,rfl,rfl,hrd,hfr2⟩
open Go.RowKit
theorem zDr {X:Nat→Prop} {w w':World} {base:Nat} {e:TypeId} {size n:Nat} {v:Value} {xs:List Value} (h:w.ownsRow base e size v n xs) (hf:Fr X w w') (hX:∀k,X k→k<base):w'.ownsRow base e size v n xs:=by
 refine⟨h.1,?_⟩
 rcases h.2 with hn | ⟨g,cap,cur,hv,hg,hh,r⟩
 ·exact .inl hn
 ·exact .inr ⟨g,cap,cur,hv,hg,by rw[hf.block g (Array.getElem?_eq_some_iff.1 hh).1 (fun hx=>by have:=hX g hx;omega)];exact hh,r⟩
theorem Rd.grown {N R M:Nat} {en:Int} {w w':World} {l:List Tok} {row:Option Nat} (h:Rd N R M en w l) (hg:w.grownBy w' row) (hr:∀k,row=some k→k≠R∧N≤k):Rd N R M en w' l:=by
 obtain⟨⟨h1,h2,h3⟩,v,hR,ht⟩:=h
 have hRl:R<w.heap.size:=(Array.getElem?_eq_some_iff.1 hR).1
 refine⟨⟨h1,Nat.le_trans h2 hg.size,h3⟩,v,(hg.block R hRl (fun e=>(hr R e.symm).1 rfl)).trans hR,ht.old fun q hq=>World.cell?_of_block (hg.block _ (by omega) (fun e=>by have:=(hr _ e.symm).2;omega))⟩
theorem zCv:zDH ⟨#[91]⟩:=by unfold zDH;simp[go_sem]
theorem zB6:zDH ⟨#[93]⟩:=by unfold zDH;simp[go_sem]
theorem zCV:zDH ⟨#[44]⟩:=by unfold zDH;simp[go_sem]
def zEV (R:Nat) (w:World):Nat:=match w.cell? ⟨R,0,none⟩ with
 | some (.slice _ n _)=>n
 | _=>0
theorem zC2 {N R M:Nat} {en:Int} {w:World} {l:List Tok} (h:Rd N R M en w l):zEV R w=l.length:=by
 obtain⟨_,v,hR,a,c,rfl,_⟩:=h
 unfold zEV
 rw[Lib.cell_of_heap hR]
 rfl
def Item {α:Type} (B N R M:Nat) (en:Int) (F:Nat) (item:List Tok→PR α) (G:α→Value→World→Prop) (I:World→Prop):Prop :=
 (∀(args:Array Value) (w':World),Sem.run Tryz.prog (callFunc F args) w'=.ok (.enter F args) w')∧(∀w w',I w→Fr (fun k=>k=R∨B≤k) w w'→I w') ∧
 ∀(w:World) (l:List Tok),Rd N R M en w l→I w→Calls Tryz.prog F #[.pointer (some ⟨R,0,none⟩)] w (zCU (item l) G N R M en (fun k=>k=R) w)
theorem Tryz.infoInt5:(Tryz.prog.info? 3).map (fun i=>(i.zero,i.size,i.bytes))=some (some (.int .i64 0),1,8):=by kernel_rfl
theorem Tryz.underInts5:Tryz.prog.underlying 26=some (.slice 3):=by kernel_rfl
theorem zCC {en:Int} {s:ByteArray} (hs:zDH s) {l r:List Tok} {t:Tok} (h:zAN en s l=.ok t r):r.length+1=l.length:=by
 have h1:=zDd en l _ t r h
 unfold zAN zBZ at h
 split at h
 ·rename_i hb
  have:=zE5 en l s hs hb
  rw[h1]
  cases l with
  | nil=>exact absurd rfl this
  | cons a l=>simp
 ·cases h
theorem zLK (w:World) (z:Int):∀(j:Nat) (u:Value),[Value.int .i64 z][j]? = some u→(w.alloc (.cells #[.int .i64 z] 3)).cell? ((⟨w.heap.size,0,none⟩:Addr).add j)=some u:=by
 intro j u hj
 match j,hj with
 | 0,hj=>simp at hj;subst hj;simp[Addr.add]
set_option maxHeartbeats 3200000 in
set_option maxRecDepth 100000 in
theorem zHC (N R M:Nat) (en:Int) (F:Nat) (item:List Tok→PR Int) (I:World→Prop) (hE:Eats item) (B:Nat) (hI:Item B N R M en F item (fun i v _=>v=.int .i64 i) I) (w:World) (hBw:B≤w.heap.size) (l:List Tok) (h:Rd N R M en w l) (hi0:I w) (hl:l.length≤4000) :
 Calls Tryz.prog 276 #[.pointer (some ⟨R,0,none⟩),.func (.func F) #[.pointer (some ⟨R,0,none⟩)] #[]] w
  (zCU (zAZ en item l) (fun xs v w'=>w'.ownsRow w.heap.size 3 1 v xs.length (xs.map (Value.int .i64))∧I w') N R M en (fun k=>k=R) w):=by
 have HB:Hid (Rd N R M en w l):=h
 have HI0:Hid (I w):=hi0
 have HIT:Hid (Item B N R M en F item (fun i v _=>v=.int .i64 i) I):=hI
 have HE:Hid (Eats item):=hE
 have hRw:R<w.heap.size:=by obtain⟨_,_,hR,_⟩:=h;exact (Array.getElem?_eq_some_iff.1 hR).1
 have HX:Hid (∀k,(fun k=>k=R) k→k<w.heap.size):=fun k hk=>by subst hk;exact hRw
 obtain⟨i0,hi,hz0,hz1,hz2⟩:=info_parts Tryz.infoInt5
 obtain⟨P,hP⟩:∃P,zAZ en item l=P:=⟨_,rfl⟩
 have HP:Hid (zAZ en item l=P):=hP
 rw[hP]
 clear hP h hi0 hI hE
 go_enter Tryz.func276,Tryz.ntmps276
 go_wp2_with fail
 refine (zAp N R M en ⟨#[91]⟩ zCv w l HB.out).mono ?_
 intro e w1 hp
 cases hs:zAN en ⟨#[91]⟩ l with
 | bad x er =>
   rw[hs] at hp
   obtain⟨rfl,hfr⟩:=hp
   have HPB:Hid (P=.bad x er):=by show _=_;rw[←HP.out];unfold zAZ;rw[hs];rfl
   clear hs
   go_wp2
   exact⟨rfl,by rw[HPB.out];exact⟨rfl,hfr⟩⟩
 | ok t q =>
   rw[hs] at hp
   obtain⟨v,rfl,rfl,hrd,hfr⟩:=hp
   have HRD:Hid (Rd N R M en w1 q):=hrd
   have HFR:Hid (Fr (fun k=>k=R) w w1):=hfr
   have hql:q.length+1=l.length:=zCC zCv hs
   have HQL:Hid (q.length+1=l.length):=hql
   have HP1:Hid (P=if (zAI en q).text.toList==[93] then (zAN en ⟨#[93]⟩ q).bind fun _ l=>.ok [] l else (item q).bind fun x l=>zB1 en item (l.length+1) [x] l):=by
    show _=_;rw[←HP.out];unfold zAZ;rw[hs];rfl
   have hf2:=zFs (zAI en q)
   clear hs hrd hfr HP hql
   go_wp2_with fail
   refine (zAS N R M en _ q HRD.out).mono ?_
   rintro e w2 ⟨rfl,hb2⟩
   have HR2:Hid (Rd N R M en w2 q):=HRD.out.below hb2
   have HF2:Hid (Fr (fun k=>k=R) w w2):=HFR.out.trans (Fr.below hb2)
   unfold tokA
   clear hb2
   cases hq:((zAI en q).text.toList==[93])
   ·have HP2:Hid (P=(item q).bind fun x l=>zB1 en item (l.length+1) [x] l):=by show _=_;rw[HP1.out,hq];rfl
    have HI2:Hid (I w2):=HIT.out.2.1 _ _ HI0.out (HF2.out.weak fun k hk=>Or.inl hk)
    clear HP1
    go_wp2_with fail
    rw[HIT.out.1,Oper.upon_enter]
    refine (HIT.out.2.2 w2 q HR2.out HI2.out).mono ?_
    intro e w3 hp
    cases hit:item q with
    | bad x er =>
      rw[hit] at hp
      obtain⟨rfl,hfr⟩:=hp
      have hfr2:=HF2.out.trans hfr
      have HPB:Hid (P=.bad x er):=by show _=_;rw[HP2.out,hit];rfl
      clear hit hq hfr
      go_wp2
      exact⟨rfl,by rw[HPB.out];exact⟨rfl,hfr2⟩⟩
    | ok x r =>
      rw[hit] at hp
      obtain⟨v,rfl,rfl,hrd,hfr⟩:=hp
      have HR3:Hid (Rd N R M en w3 r):=hrd
      have HF3:Hid (Fr (fun k=>k=R) w w3):=HF2.out.trans hfr
      have HI3:Hid (I w3):=HIT.out.2.1 _ _ HI2.out (hfr.weak fun k hk=>Or.inl hk)
      have HRL:Hid (r.length≤q.length):=HE.out q x r hit
      have HP3:Hid (P=zB1 en item (r.length+1) [x] r):=by show _=_;rw[HP2.out,hit];rfl
      have hsz3:w.heap.size≤w3.heap.size:=HF3.out.size
      clear hit hrd hfr hq hf2 HP2
      go_wp2_with (at_builtin;refine wpList_append_own _ rfl _ _ 26 rfl w.heap.size 3 i0 (.int .i64 0) 1 8 Tryz.underInts5 hi hz0 hz1 hz2 rfl (by decide) _ _ _ rfl (World.ownsRow_nil _ _ _ _) ⟨w3.heap.size,0,none⟩ 1 1 [.int .i64 x] rfl rfl ?c1 ?c2 ?c3 ?c4 ?c5 ?_)
      case c1=>exact zLK w3 x
      case c2=>intro u hu;rcases List.mem_singleton.1 hu with rfl;rfl
      case c3=>unfold maxLen;omega
      case c4=>omega
      case c5=>simp;omega
      intro v5 w5 hown5 hg5 _
      have HR5:Hid (Rd N R M en w5 r):=(HR3.out.below (zAA _ _)).grown hg5 (fun k hk=>by cases hk)
      have HF5:Hid (Fr (fun k=>k=R) w w5):=(HF3.out.alloc _).grown hg5 (fun k hk=>by cases hk)
      have HI5:Hid (I w5):=HIT.out.2.1 _ _ HI3.out (((Fr.refl _ _).alloc _).grown hg5 (fun k hk=>by cases hk))
      have HO5:Hid (w5.ownsRow w.heap.size 3 1 v5 [x].length ([x].map (Value.int .i64))):=hown5
      clear hown5 hg5
      go_wp2_with fail
      go_loopw [5] (fun v wr=>∃(f:Nat) (acc:List Int) (q:List Tok),Hid (P=zB1 en item f acc q)∧Hid (Rd N R M en wr q)∧Hid (I wr)∧Hid (wr.ownsRow w.heap.size 3 1 v acc.length (acc.map (Value.int .i64)))∧Hid (Fr (fun k=>k=R) w wr)∧q.length+1≤f∧acc.length+q.length≤4000) (fun _ wr=>zEV R wr)
      case atStart=>exact⟨_,[x],r,HP3,HR5,HI5,HO5,HF5,by omega,by have:=HRL.out;have:=HQL.out;simp;omega⟩
      case round =>
       obtain⟨f,acc,q,HPM,HRM,HIM,HOM,HFM,hf,hlen⟩:=hrel
       obtain⟨g,rfl⟩:∃g,f=g+1:=⟨f - 1,by omega⟩
       have hf2:=zFs (zAI en q)
       obtain⟨av,cv,hv⟩:=zAB HOM.out
       subst hv
       have HCM:Hid ((⟨#[44]⟩:ByteArray).toList=[44]):=by show _=_;simp[go_sem]
       cases hc:((zAI en q).text.toList==[44])
       ·have HPE:Hid (P=(zAN en ⟨#[93]⟩ q).bind fun _ l=>.ok acc l):=by show _=_;rw[HPM.out];unfold zB1;rw[hc];rfl
        go_wp2_with fail
        refine (zAS N R M en _ q HRM.out).mono ?_
        rintro e w6 ⟨rfl,hb6⟩
        have HR6:Hid (Rd N R M en w6 q):=HRM.out.below hb6
        have HF6:Hid (Fr (fun k=>k=R) w w6):=HFM.out.trans (Fr.below hb6)
        have HI6:Hid (I w6):=HIT.out.2.1 _ _ HIM.out (Fr.below hb6)
        have HO6:Hid (w6.ownsRow w.heap.size 3 1 (.slice av acc.length cv) acc.length (acc.map (Value.int .i64))):=zAD HOM.out hb6
        unfold tokA
        clear hb6
        go_wp2_with fail
        refine (zAp N R M en ⟨#[93]⟩ zB6 w6 q HR6.out).mono ?_
        intro e w7 hp
        cases hs:zAN en ⟨#[93]⟩ q with
        | bad x er =>
          rw[hs] at hp
          obtain⟨rfl,hfr⟩:=hp
          have hfr2:=HF6.out.trans hfr
          have HPB:Hid (P=.bad x er):=by show _=_;rw[HPE.out,hs];rfl
          clear hs hc hfr
          go_wp2
          exact⟨rfl,by rw[HPB.out];exact⟨rfl,hfr2⟩⟩
        | ok t q2 =>
          rw[hs] at hp
          obtain⟨v,rfl,rfl,hrd,hfr⟩:=hp
          have hfr2:=HF6.out.trans hfr
          have HI7:Hid (I w7):=HIT.out.2.1 _ _ HI6.out (hfr.weak fun k hk=>Or.inl hk)
          have HO7:Hid (w7.ownsRow w.heap.size 3 1 (.slice av acc.length cv) acc.length (acc.map (Value.int .i64))):=zDr HO6.out hfr HX.out
          have HPB:Hid (P=.ok acc q2):=by show _=_;rw[HPE.out,hs];rfl
          clear hs hc hfr
          go_wp2
          go_ret
          rw[HPB.out]
          exact⟨_,rfl,⟨HO7.out,HI7.out⟩,hrd,hfr2⟩
       ·have hne:=zE5 en q ⟨#[44]⟩ zCV (by rw[HCM.out];exact hc)
        have HSK:Hid (zAN en ⟨#[44]⟩ q=.ok (zAI en q) q.tail):=by show _=_;unfold zAN zBZ;rw[HCM.out,hc];rfl
        obtain⟨q2,hq2⟩:∃q2,q.tail=q2:=⟨_,rfl⟩
        have HQ2:Hid (q.tail=q2):=hq2
        have hql2:q2.length+1=q.length:=by
         rw[←hq2]
         cases q with
         | nil=>exact absurd rfl hne
         | cons a q=>simp
        have HPE:Hid (P=(item q2).bind fun x l=>zB1 en item g (acc++[x]) l):=by show _=_;rw[HPM.out,zB1,hc,if_pos rfl,HSK.out,←hq2];rfl
        clear hne hq2
        go_wp2_with fail
        refine (zAS N R M en _ q HRM.out).mono ?_
        rintro e w6 ⟨rfl,hb6⟩
        have HR6:Hid (Rd N R M en w6 q):=HRM.out.below hb6
        have HF6:Hid (Fr (fun k=>k=R) w w6):=HFM.out.trans (Fr.below hb6)
        have HI6:Hid (I w6):=HIT.out.2.1 _ _ HIM.out (Fr.below hb6)
        have HO6:Hid (w6.ownsRow w.heap.size 3 1 (.slice av acc.length cv) acc.length (acc.map (Value.int .i64))):=zAD HOM.out hb6
        unfold tokA
        clear hb6
        go_wp2_with fail
        refine (zAp N R M en ⟨#[44]⟩ zCV w6 q HR6.out).mono ?_
        intro e w7 hp
        rw[HSK.out] at hp
        obtain⟨v,rfl,rfl,hrd,hfr⟩:=hp
        have HR7:Hid (Rd N R M en w7 q2):=by rw[←HQ2.out];exact hrd
        have HF7:Hid (Fr (fun k=>k=R) w w7):=HF6.out.trans hfr
        have HI7:Hid (I w7):=HIT.out.2.1 _ _ HI6.out (hfr.weak fun k hk=>Or.inl hk)
        have HO7:Hid (w7.ownsRow w.heap.size 3 1 (.slice av acc.length cv) acc.length (acc.map (Value.int .i64))):=zDr HO6.out hfr HX.out
        clear hrd hfr hc hf2
        go_wp2_with fail
        rw[HIT.out.1,Oper.upon_enter]
        refine (HIT.out.2.2 w7 q2 HR7.out HI7.out).mono ?_
        intro e w8 hp
        cases hit:item q2 with
        | bad x er =>
          rw[hit] at hp
          obtain⟨rfl,hfr⟩:=hp
          have hfr2:=HF7.out.trans hfr
          have HPB:Hid (P=.bad x er):=by show _=_;rw[HPE.out,hit];rfl
          clear hit hfr
          go_wp2
          exact⟨rfl,by rw[HPB.out];exact⟨rfl,hfr2⟩⟩
        | ok x r =>
          rw[hit] at hp
          obtain⟨v,rfl,rfl,hrd,hfr⟩:=hp
          have HR8:Hid (Rd N R M en w8 r):=hrd
          have HF8:Hid (Fr (fun k=>k=R) w w8):=HF7.out.trans hfr
          have HI8:Hid (I w8):=HIT.out.2.1 _ _ HI7.out (hfr.weak fun k hk=>Or.inl hk)
          have HO8:Hid (w8.ownsRow w.heap.size 3 1 (.slice av acc.length cv) acc.length (acc.map (Value.int .i64))):=zDr HO7.out hfr HX.out
          have hrl:r.length≤q2.length:=HE.out q2 x r hit
          have HPN:Hid (P=zB1 en item g (acc++[x]) r):=by show _=_;rw[HPE.out,hit];rfl
          have hsz8:w.heap.size≤w8.heap.size:=HF8.out.size
          have hox:=HO8.out.alloc (.cells #[.int .i64 x] 3)
          clear hit hrd hfr
          go_wp2_with (at_builtin;refine wpList_append_own _ rfl _ _ 26 rfl w.heap.size 3 i0 (.int .i64 0) 1 8 Tryz.underInts5 hi hz0 hz1 hz2 rfl (by decide) _ _ _ rfl hox ⟨w8.heap.size,0,none⟩ 1 1 [.int .i64 x] rfl rfl ?c1 ?c2 ?c3 ?c4 ?c5 ?_)
          case c1=>exact zLK w8 x
          case c2=>intro u hu;rcases List.mem_singleton.1 hu with rfl;rfl
          case c3=>unfold maxLen;omega
          case c4=>omega
          case c5=>simp;omega
          intro v9 w9 hown9 hg9 _
          have hrow:∀k,(Value.slice av acc.length cv).ownBlock=some k→w.heap.size≤k:=fun k hk=>(HO8.out.lt k hk).1
          have HR9:Hid (Rd N R M en w9 r):=(HR8.out.below (zAA _ _)).grown hg9 (fun k hk=>⟨by have:=hrow k hk;omega,by have:=hrow k hk;have:=HB.out.1.2.1;omega⟩)
          have HF9:Hid (Fr (fun k=>k=R) w w9):=(HF8.out.alloc _).grown hg9 (fun k hk=>Or.inr (hrow k hk))
          have HI9:Hid (I w9):=HIT.out.2.1 _ _ HI8.out (((Fr.refl _ _).alloc _).grown hg9 (fun k hk=>Or.inl (Or.inr (by have:=hrow k hk;omega))))
          have HO9:Hid (w9.ownsRow w.heap.size 3 1 v9 (acc++[x]).length ((acc++[x]).map (Value.int .i64))):=by
           rw[List.length_append,List.map_append];exact hown9
          have HM9:Hid (zEV R w9<zEV R wr):=by show _<_;rw[zC2 HR9.out,zC2 HRM.out];omega
          clear hown9 hg9 hrow hox
          go_wp2
          go_roundw
          case rel=>exact⟨g,acc++[x],r,HPN,HR9,HI9,HO9,HF9,by omega,by simp;omega⟩
          case measure=>exact HM9.out
   ·have HP2:Hid (P=(zAN en ⟨#[93]⟩ q).bind fun _ l=>.ok [] l):=by show _=_;rw[HP1.out,hq];rfl
    have HI2:Hid (I w2):=HIT.out.2.1 _ _ HI0.out (HF2.out.weak fun k hk=>Or.inl hk)
    clear HP1
    go_wp2_with fail
    refine (zAp N R M en ⟨#[93]⟩ zB6 w2 q HR2.out).mono ?_
    intro e w7 hp
    cases hs:zAN en ⟨#[93]⟩ q with
    | bad x er =>
      rw[hs] at hp
      obtain⟨rfl,hfr⟩:=hp
      have hfr2:=HF2.out.trans hfr
      have HPB:Hid (P=.bad x er):=by show _=_;rw[HP2.out,hs];rfl
      clear hs hq hfr
      go_wp2
      exact⟨rfl,by rw[HPB.out];exact⟨rfl,hfr2⟩⟩
    | ok t q2 =>
      rw[hs] at hp
      obtain⟨v,rfl,rfl,hrd,hfr⟩:=hp
      have hfr2:=HF2.out.trans hfr
      have HI7:Hid (I w7):=HIT.out.2.1 _ _ HI2.out (hfr.weak fun k hk=>Or.inl hk)
      have HPB:Hid (P=.ok [] q2):=by show _=_;rw[HP2.out,hs];rfl
      clear hs hq hfr
      go_wp2
      go_ret
      rw[HPB.out]
      exact⟨_,rfl,⟨World.ownsRow_nil _ _ _ _,HI7.out⟩,hrd,hfr2⟩
def litA (l:MLit):Value:=.agg #[.int .i64 l.var,.int .i64 l.op,.int .i64 l.n]
def litC (l:MLit):List Value:=[.int .i64 l.var,.int .i64 l.op,.int .i64 l.n]
theorem zNl (l:MLit):∀u∈litC l,u.oneCell'=true:=by
 intro u hu
 simp only[litC,List.mem_cons,List.not_mem_nil,or_false] at hu
 rcases hu with rfl | rfl | rfl <;> rfl
theorem zLL (w:World) (z:MLit):∀(j:Nat) (u:Value),(litC z)[j]? = some u→(w.alloc (.cells #[.int .i64 z.var,.int .i64 z.op,.int .i64 z.n] 88)).cell? ((⟨w.heap.size,0,none⟩:Addr).add j)=some u:=by
 intro j u hj
 match j,hj with
 | 0,hj=>simp[litC] at hj;subst hj;simp[Addr.add]
 | 1,hj=>simp[litC] at hj;subst hj;simp[Addr.add]
 | 2,hj=>simp[litC] at hj;subst hj;simp[Addr.add]
theorem Tryz.infoLit5:(Tryz.prog.info? 88).map (fun i=>(i.zero,i.size,i.bytes))=some (some (.agg #[.int .i64 0,.int .i64 0,.int .i64 0]),3,24):=by kernel_rfl
theorem Tryz.underLits5:Tryz.prog.underlying 37=some (.slice 88):=by kernel_rfl
set_option maxHeartbeats 3200000 in
set_option maxRecDepth 100000 in
theorem zLM (N R M:Nat) (en:Int) (F:Nat) (item:List Tok→PR MLit) (I:World→Prop) (hE:Eats item) (B:Nat) (hI:Item B N R M en F item (fun i v _=>v=litA i) I) (w:World) (hBw:B≤w.heap.size) (l:List Tok) (h:Rd N R M en w l) (hi0:I w) (hl:l.length≤4000) :
 Calls Tryz.prog 278 #[.pointer (some ⟨R,0,none⟩),.func (.func F) #[.pointer (some ⟨R,0,none⟩)] #[]] w
  (zCU (zAZ en item l) (fun xs v w'=>w'.ownsRow w.heap.size 88 3 v xs.length (xs.flatMap litC)∧I w') N R M en (fun k=>k=R) w):=by
 have HB:Hid (Rd N R M en w l):=h
 have HI0:Hid (I w):=hi0
 have HIT:Hid (Item B N R M en F item (fun i v _=>v=litA i) I):=hI
 have HE:Hid (Eats item):=hE
 have hRw:R<w.heap.size:=by obtain⟨_,_,hR,_⟩:=h;exact (Array.getElem?_eq_some_iff.1 hR).1
 have HX:Hid (∀k,(fun k=>k=R) k→k<w.heap.size):=fun k hk=>by subst hk;exact hRw
 obtain⟨i0,hi,hz0,hz1,hz2⟩:=info_parts Tryz.infoLit5
 obtain⟨P,hP⟩:∃P,zAZ en item l=P:=⟨_,rfl⟩
 have HP:Hid (zAZ en item l=P):=hP
 rw[hP]
 clear hP h hi0 hI hE
 go_enter Tryz.func278,Tryz.ntmps278
 go_wp2_with fail
 refine (zAp N R M en ⟨#[91]⟩ zCv w l HB.out).mono ?_
 intro e w1 hp
 cases hs:zAN en ⟨#[91]⟩ l with
 | bad x er =>
   rw[hs] at hp
   obtain⟨rfl,hfr⟩:=hp
   have HPB:Hid (P=.bad x er):=by show _=_;rw[←HP.out];unfold zAZ;rw[hs];rfl
   clear hs
   go_wp2
   exact⟨rfl,by rw[HPB.out];exact⟨rfl,hfr⟩⟩
 | ok t q =>
   rw[hs] at hp
   obtain⟨v,rfl,rfl,hrd,hfr⟩:=hp
   have HRD:Hid (Rd N R M en w1 q):=hrd
   have HFR:Hid (Fr (fun k=>k=R) w w1):=hfr
   have hql:q.length+1=l.length:=zCC zCv hs
   have HQL:Hid (q.length+1=l.length):=hql
   have HP1:Hid (P=if (zAI en q).text.toList==[93] then (zAN en ⟨#[93]⟩ q).bind fun _ l=>.ok [] l else (item q).bind fun x l=>zB1 en item (l.length+1) [x] l):=by
    show _=_;rw[←HP.out];unfold zAZ;rw[hs];rfl
   have hf2:=zFs (zAI en q)
   clear hs hrd hfr HP hql
   go_wp2_with fail
   refine (zAS N R M en _ q HRD.out).mono ?_
   rintro e w2 ⟨rfl,hb2⟩
   have HR2:Hid (Rd N R M en w2 q):=HRD.out.below hb2
   have HF2:Hid (Fr (fun k=>k=R) w w2):=HFR.out.trans (Fr.below hb2)
   unfold tokA
   clear hb2
   cases hq:((zAI en q).text.toList==[93])
   ·have HP2:Hid (P=(item q).bind fun x l=>zB1 en item (l.length+1) [x] l):=by show _=_;rw[HP1.out,hq];rfl
    have HI2:Hid (I w2):=HIT.out.2.1 _ _ HI0.out (HF2.out.weak fun k hk=>Or.inl hk)
    clear HP1
    go_wp2_with fail
    rw[HIT.out.1,Oper.upon_enter]
    refine (HIT.out.2.2 w2 q HR2.out HI2.out).mono ?_
    intro e w3 hp
    cases hit:item q with
    | bad x er =>
      rw[hit] at hp
      obtain⟨rfl,hfr⟩:=hp
      have hfr2:=HF2.out.trans hfr
      have HPB:Hid (P=.bad x er):=by show _=_;rw[HP2.out,hit];rfl
      clear hit hq hfr
      go_wp2
      exact⟨rfl,by rw[HPB.out];exact⟨rfl,hfr2⟩⟩
    | ok x r =>
      rw[hit] at hp
      obtain⟨v,rfl,rfl,hrd,hfr⟩:=hp
      unfold litA
      have HR3:Hid (Rd N R M en w3 r):=hrd
      have HF3:Hid (Fr (fun k=>k=R) w w3):=HF2.out.trans hfr
      have HI3:Hid (I w3):=HIT.out.2.1 _ _ HI2.out (hfr.weak fun k hk=>Or.inl hk)
      have HRL:Hid (r.length≤q.length):=HE.out q x r hit
      have HP3:Hid (P=zB1 en item (r.length+1) [x] r):=by show _=_;rw[HP2.out,hit];rfl
      have hsz3:w.heap.size≤w3.heap.size:=HF3.out.size
      clear hit hrd hfr hq hf2 HP2
      go_wp2_with (at_builtin;refine wpList_append_own _ rfl _ _ 37 rfl w.heap.size 88 i0 (.agg #[.int .i64 0,.int .i64 0,.int .i64 0]) 3 24 Tryz.underLits5 hi hz0 hz1 hz2 rfl (by decide) _ _ _ rfl (World.ownsRow_nil _ _ _ _) ⟨w3.heap.size,0,none⟩ 1 1 (litC x) rfl rfl ?c1 ?c2 ?c3 ?c4 ?c5 ?_)
      case c1=>exact zLL w3 x
      case c2=>exact zNl x
      case c3=>unfold maxLen;omega
      case c4=>omega
      case c5=>simp;omega
      intro v5 w5 hown5 hg5 _
      have HR5:Hid (Rd N R M en w5 r):=(HR3.out.below (zAA _ _)).grown hg5 (fun k hk=>by cases hk)
      have HF5:Hid (Fr (fun k=>k=R) w w5):=(HF3.out.alloc _).grown hg5 (fun k hk=>by cases hk)
      have HI5:Hid (I w5):=HIT.out.2.1 _ _ HI3.out (((Fr.refl _ _).alloc _).grown hg5 (fun k hk=>by cases hk))
      have HO5:Hid (w5.ownsRow w.heap.size 88 3 v5 [x].length ([x].flatMap litC)):=by unfold Hid;simpa using hown5
      clear hown5 hg5
      go_wp2_with fail
      go_loopw [5] (fun v wr=>∃(f:Nat) (acc:List MLit) (q:List Tok),Hid (P=zB1 en item f acc q)∧Hid (Rd N R M en wr q)∧Hid (I wr)∧Hid (wr.ownsRow w.heap.size 88 3 v acc.length (acc.flatMap litC))∧Hid (Fr (fun k=>k=R) w wr)∧q.length+1≤f∧acc.length+q.length≤4000) (fun _ wr=>zEV R wr)
      case atStart=>exact⟨_,[x],r,HP3,HR5,HI5,HO5,HF5,by omega,by have:=HRL.out;have:=HQL.out;simp;omega⟩
      case round =>
       obtain⟨f,acc,q,HPM,HRM,HIM,HOM,HFM,hf,hlen⟩:=hrel
       obtain⟨g,rfl⟩:∃g,f=g+1:=⟨f - 1,by omega⟩
       have hf2:=zFs (zAI en q)
       obtain⟨av,cv,hv⟩:=zAB HOM.out
       subst hv
       have HCM:Hid ((⟨#[44]⟩:ByteArray).toList=[44]):=by show _=_;simp[go_sem]
       cases hc:((zAI en q).text.toList==[44])
       ·have HPE:Hid (P=(zAN en ⟨#[93]⟩ q).bind fun _ l=>.ok acc l):=by show _=_;rw[HPM.out];unfold zB1;rw[hc];rfl
        go_wp2_with fail
        refine (zAS N R M en _ q HRM.out).mono ?_
        rintro e w6 ⟨rfl,hb6⟩
        have HR6:Hid (Rd N R M en w6 q):=HRM.out.below hb6
        have HF6:Hid (Fr (fun k=>k=R) w w6):=HFM.out.trans (Fr.below hb6)
        have HI6:Hid (I w6):=HIT.out.2.1 _ _ HIM.out (Fr.below hb6)
        have HO6:Hid (w6.ownsRow w.heap.size 88 3 (.slice av acc.length cv) acc.length (acc.flatMap litC)):=zAD HOM.out hb6
        unfold tokA
        clear hb6
        go_wp2_with fail
        refine (zAp N R M en ⟨#[93]⟩ zB6 w6 q HR6.out).mono ?_
        intro e w7 hp
        cases hs:zAN en ⟨#[93]⟩ q with
        | bad x er =>
          rw[hs] at hp
          obtain⟨rfl,hfr⟩:=hp
          have hfr2:=HF6.out.trans hfr
          have HPB:Hid (P=.bad x er):=by show _=_;rw[HPE.out,hs];rfl
          clear hs hc hfr
          go_wp2
          exact⟨rfl,by rw[HPB.out];exact⟨rfl,hfr2⟩⟩
        | ok t q2 =>
          rw[hs] at hp
          obtain⟨v,rfl,rfl,hrd,hfr⟩:=hp
          have hfr2:=HF6.out.trans hfr
          have HI7:Hid (I w7):=HIT.out.2.1 _ _ HI6.out (hfr.weak fun k hk=>Or.inl hk)
          have HO7:Hid (w7.ownsRow w.heap.size 88 3 (.slice av acc.length cv) acc.length (acc.flatMap litC)):=zDr HO6.out hfr HX.out
          have HPB:Hid (P=.ok acc q2):=by show _=_;rw[HPE.out,hs];rfl
          clear hs hc hfr
          go_wp2
          go_ret
          rw[HPB.out]
          exact⟨_,rfl,⟨HO7.out,HI7.out⟩,hrd,hfr2⟩
       ·have hne:=zE5 en q ⟨#[44]⟩ zCV (by rw[HCM.out];exact hc)
        have HSK:Hid (zAN en ⟨#[44]⟩ q=.ok (zAI en q) q.tail):=by show _=_;unfold zAN zBZ;rw[HCM.out,hc];rfl
        obtain⟨q2,hq2⟩:∃q2,q.tail=q2:=⟨_,rfl⟩
        have HQ2:Hid (q.tail=q2):=hq2
        have hql2:q2.length+1=q.length:=by
         rw[←hq2]
         cases q with
         | nil=>exact absurd rfl hne
         | cons a q=>simp
        have HPE:Hid (P=(item q2).bind fun x l=>zB1 en item g (acc++[x]) l):=by show _=_;rw[HPM.out,zB1,hc,if_pos rfl,HSK.out,←hq2];rfl
        clear hne hq2
        go_wp2_with fail
        refine (zAS N R M en _ q HRM.out).mono ?_
        rintro e w6 ⟨rfl,hb6⟩
        have HR6:Hid (Rd N R M en w6 q):=HRM.out.below hb6
        have HF6:Hid (Fr (fun k=>k=R) w w6):=HFM.out.trans (Fr.below hb6)
        have HI6:Hid (I w6):=HIT.out.2.1 _ _ HIM.out (Fr.below hb6)
        have HO6:Hid (w6.ownsRow w.heap.size 88 3 (.slice av acc.length cv) acc.length (acc.flatMap litC)):=zAD HOM.out hb6
        unfold tokA
        clear hb6
        go_wp2_with fail
        refine (zAp N R M en ⟨#[44]⟩ zCV w6 q HR6.out).mono ?_
        intro e w7 hp
        rw[HSK.out] at hp
        obtain⟨v,rfl,rfl,hrd,hfr⟩:=hp
        have HR7:Hid (Rd N R M en w7 q2):=by rw[←HQ2.out];exact hrd
        have HF7:Hid (Fr (fun k=>k=R) w w7):=HF6.out.trans hfr
        have HI7:Hid (I w7):=HIT.out.2.1 _ _ HI6.out (hfr.weak fun k hk=>Or.inl hk)
        have HO7:Hid (w7.ownsRow w.heap.size 88 3 (.slice av acc.length cv) acc.length (acc.flatMap litC)):=zDr HO6.out hfr HX.out
        clear hrd hfr hc hf2
        go_wp2_with fail
        rw[HIT.out.1,Oper.upon_enter]
        refine (HIT.out.2.2 w7 q2 HR7.out HI7.out).mono ?_
        intro e w8 hp
        cases hit:item q2 with
        | bad x er =>
          rw[hit] at hp
          obtain⟨rfl,hfr⟩:=hp
          have hfr2:=HF7.out.trans hfr
          have HPB:Hid (P=.bad x er):=by show _=_;rw[HPE.out,hit];rfl
          clear hit hfr
          go_wp2
          exact⟨rfl,by rw[HPB.out];exact⟨rfl,hfr2⟩⟩
        | ok x r =>
          rw[hit] at hp
          obtain⟨v,rfl,rfl,hrd,hfr⟩:=hp
          unfold litA
          have HR8:Hid (Rd N R M en w8 r):=hrd
          have HF8:Hid (Fr (fun k=>k=R) w w8):=HF7.out.trans hfr
          have HI8:Hid (I w8):=HIT.out.2.1 _ _ HI7.out (hfr.weak fun k hk=>Or.inl hk)
          have HO8:Hid (w8.ownsRow w.heap.size 88 3 (.slice av acc.length cv) acc.length (acc.flatMap litC)):=zDr HO7.out hfr HX.out
          have hrl:r.length≤q2.length:=HE.out q2 x r hit
          have HPN:Hid (P=zB1 en item g (acc++[x]) r):=by show _=_;rw[HPE.out,hit];rfl
          have hsz8:w.heap.size≤w8.heap.size:=HF8.out.size
          have hox:=HO8.out.alloc (.cells #[.int .i64 x.var,.int .i64 x.op,.int .i64 x.n] 88)
          clear hit hrd hfr
          go_wp2_with (at_builtin;refine wpList_append_own _ rfl _ _ 37 rfl w.heap.size 88 i0 (.agg #[.int .i64 0,.int .i64 0,.int .i64 0]) 3 24 Tryz.underLits5 hi hz0 hz1 hz2 rfl (by decide) _ _ _ rfl hox ⟨w8.heap.size,0,none⟩ 1 1 (litC x) rfl rfl ?c1 ?c2 ?c3 ?c4 ?c5 ?_)
          case c1=>exact zLL w8 x
          case c2=>exact zNl x
          case c3=>unfold maxLen;omega
          case c4=>omega
          case c5=>simp;omega
          intro v9 w9 hown9 hg9 _
          have hrow:∀k,(Value.slice av acc.length cv).ownBlock=some k→w.heap.size≤k:=fun k hk=>(HO8.out.lt k hk).1
          have HR9:Hid (Rd N R M en w9 r):=(HR8.out.below (zAA _ _)).grown hg9 (fun k hk=>⟨by have:=hrow k hk;omega,by have:=hrow k hk;have:=HB.out.1.2.1;omega⟩)
          have HF9:Hid (Fr (fun k=>k=R) w w9):=(HF8.out.alloc _).grown hg9 (fun k hk=>Or.inr (hrow k hk))
          have HI9:Hid (I w9):=HIT.out.2.1 _ _ HI8.out (((Fr.refl _ _).alloc _).grown hg9 (fun k hk=>Or.inl (Or.inr (by have:=hrow k hk;omega))))
          have HO9:Hid (w9.ownsRow w.heap.size 88 3 v9 (acc++[x]).length ((acc++[x]).flatMap litC)):=by
           unfold Hid;rw[List.length_append,List.flatMap_append];simpa using hown9
          have HM9:Hid (zEV R w9<zEV R wr):=by show _<_;rw[zC2 HR9.out,zC2 HRM.out];omega
          clear hown9 hg9 hrow hox
          go_wp2
          go_roundw
          case rel=>exact⟨g,acc++[x],r,HPN,HR9,HI9,HO9,HF9,by omega,by simp;omega⟩
          case measure=>exact HM9.out
   ·have HP2:Hid (P=(zAN en ⟨#[93]⟩ q).bind fun _ l=>.ok [] l):=by show _=_;rw[HP1.out,hq];rfl
    have HI2:Hid (I w2):=HIT.out.2.1 _ _ HI0.out (HF2.out.weak fun k hk=>Or.inl hk)
    clear HP1
    go_wp2_with fail
    refine (zAp N R M en ⟨#[93]⟩ zB6 w2 q HR2.out).mono ?_
    intro e w7 hp
    cases hs:zAN en ⟨#[93]⟩ q with
    | bad x er =>
      rw[hs] at hp
      obtain⟨rfl,hfr⟩:=hp
      have hfr2:=HF2.out.trans hfr
      have HPB:Hid (P=.bad x er):=by show _=_;rw[HP2.out,hs];rfl
      clear hs hq hfr
      go_wp2
      exact⟨rfl,by rw[HPB.out];exact⟨rfl,hfr2⟩⟩
    | ok t q2 =>
      rw[hs] at hp
      obtain⟨v,rfl,rfl,hrd,hfr⟩:=hp
      have hfr2:=HF2.out.trans hfr
      have HI7:Hid (I w7):=HIT.out.2.1 _ _ HI2.out (hfr.weak fun k hk=>Or.inl hk)
      have HPB:Hid (P=.ok [] q2):=by show _=_;rw[HP2.out,hs];rfl
      clear hs hq hfr
      go_wp2
      go_ret
      rw[HPB.out]
      exact⟨_,rfl,⟨World.ownsRow_nil _ _ _ _,HI7.out⟩,hrd,hfr2⟩
end Go.Proofs.YtdjbejlbmaiocagGreatDoor
