/- What the proof leans on, part 7. -/
import Derived.Test.YtndcpnlaadikoaaGreatDoorPartAf
import Derived.Lib.AtoiErrMem
import Derived.Maps.OwnSet
import Derived.Maps.Views
import Derived.StringKeys
import Derived.Deep.RegionHeld3
import Derived.Laws.OwnMore
set_option maxRecDepth 100000
set_option maxHeartbeats 3200000
namespace Go.Proofs.YtndcpnlaadikoaaGreatDoor
open Go.RowKit
theorem zOm (c:UInt8) (h:48≤c.toNat∧c.toNat≤57):Lib.digitVal c=some (c.toNat - 48):=by
 unfold Lib.digitVal;simp[h.1,h.2]
theorem zHL:∀(l:List UInt8) (n:Nat),(∀c∈l,48≤c.toNat∧c.toNat≤57)→∃k:Nat,Lib.decFrom n l=some k∧l.foldl (fun n c=>n * 10+((c.toNat:Int) - 48)) (n:Int)=(k:Int)
 | [],n,_=>⟨n,by simp[Lib.decFrom],rfl⟩
 | c :: l,n,h=>by
   have hc:=h c (List.mem_cons_self ..);obtain⟨k,h1,h2⟩:=zHL l (n * 10+(c.toNat - 48)) fun d hd=>h d (List.mem_cons_of_mem _ hd)
   refine⟨k,?_,?_⟩
   ·rw[Lib.decFrom,zOm c hc];exact h1
   ·simp only[List.foldl_cons]
    rw[←h2]
    congr 1
    omega
theorem zQc (l:List UInt8) (h0:l≠[]) (h:∀c∈l,48≤c.toNat∧c.toNat≤57):Lib.atoi l=some (digV l):=by
 obtain⟨k,h1,h2⟩:=zHL l 0 h;have hd:Lib.decNat l=some k:=by
  unfold Lib.decNat;cases l with
  | nil=>exact absurd rfl h0
  | cons a l=>simpa using h1
 have hv:digV l=(k:Int):=h2;rw[hv];cases l with
 | nil=>exact absurd rfl h0
 | cons a l =>
   have ha:=h a (List.mem_cons_self ..);have e1:(a==45)=false:=by
    rw[beq_eq_false_iff_ne];intro e;subst e;exact absurd ha.1 (by decide)
   have e2:(a==43)=false:=by
    rw[beq_eq_false_iff_ne];intro e;subst e;exact absurd ha.1 (by decide)
   simp only[Lib.atoi];rw[e1,e2,if_neg (by simp),if_neg (by simp),hd]
   rfl
theorem zIa (l:List UInt8) (h4:l.length≤4) (h:∀c∈l,48≤c.toNat∧c.toNat≤57):0≤digV l∧digV l≤9999:=by
 unfold digV
 match l,h4 with
 | [],_=>simp
 | [a],_=>have:=h a (by simp);simp;omega
 | [a,b],_=>have:=h a (by simp);have:=h b (by simp);simp;omega
 | [a,b,c],_=>have:=h a (by simp);have:=h b (by simp);have:=h c (by simp);simp;omega
 | [a,b,c,d],_=>have:=h a (by simp);have:=h b (by simp);have:=h c (by simp);have:=h d (by simp);simp;omega
theorem zMj (s:ByteArray) (h1:1≤s.size∧s.size≤4) (hd:∀c∈s.data.toList,48≤c.toNat∧c.toNat≤57) (w:World) :
 Calls Tryz.prog 280 #[.string s] w fun e w'=>e=.returned (.tuple #[.int .i64 (digV s.data.toList),.nilIface])∧Below w.heap.size w w':=by
 have hne:s.data.toList≠[]:=by
  intro e;have:s.data.toList.length=0:=by rw[e];rfl
  have h2:s.data.toList.length=s.size:=Array.length_toList;omega
 refine (Tryz.strconv_Atoi s _ (by omega) (zQc _ hne hd) w).mono ?_
 rintro e w' ⟨rfl,t,rfl⟩;exact⟨rfl,Lib.bytesWorld_below _ _ _⟩
theorem zOn {N R M:Nat} {en:Int} {w:World} {l:List Tok} (h:Rd N R M en w l) (hk:(zAN en l).kind=2):(1≤(zAN en l).text.size∧(zAN en l).text.size≤4)∧∀c∈(zAN en l).text.data.toList,48≤c.toNat∧c.toNat≤57:=by
 obtain⟨_,v,_,_,_,_,_,ht,_⟩:=h;cases l with
 | nil=>exact absurd hk (by show ¬(0:Int)=2;decide)
 | cons t r=>exact (ht.2 t (List.mem_cons_self ..)).2 hk
theorem zJ8 {en:Int} {l:List Tok} (h:((zAN en l).kind==2)=true):l≠[]:=by
 intro hl;subst hl;have h2:((0:Int)==2)=true:=h;simp at h2
theorem zLR:zC6 ⟨#[45]⟩:=by unfold zC6;simp[go_sem]
theorem zDp (N R M:Nat) (en:Int) (w:World) (l:List Tok) (h:Rd N R M en w l) :
 Calls Tryz.prog 261 #[.pointer (some ⟨R,0,none⟩)] w (zB7 (zAP en l) (fun i v _=>v=.int .i64 i∧-9999≤i∧i≤9999) N R M en (fun k=>k=R) w):=by
 have hf2:=zFD (zAN en l);have hf0:=zSG (zAN en l);have HB:Hid (Rd N R M en w l):=h;obtain⟨P,hP⟩:∃P,zAP en l=P:=⟨_,rfl⟩;have HP:Hid (zAP en l=P):=hP;rw[hP];cases hm:((zAN en l).text.toList==[45])
 ·have HM:Hid (((zAN en l).text.toList==[45])=false):=hm
  cases hK:((zAN en l).kind==2)
  ·have HP2:Hid (P=(zBu en false l).bind fun t r=>.ok (1 * digV t.text.data.toList) r):=by show _=_;rw[←hP];unfold zAP;rw[hm,hK];rfl
   clear hP h;go_enter Tryz.func261,Tryz.ntmps261
   go_wp2_with fail
   refine (zAS N R M en _ l HB.out).mono ?_;rintro e w1 ⟨rfl,hb1⟩;have HR1:Hid (Rd N R M en w1 l):=HB.out.below hb1;have HF1:Hid (Fr (fun k=>k=R) w w1):=Fr.below hb1
   unfold tokA;clear hb1;go_wp2_with fail
   refine (zAS N R M en _ l HR1.out).mono ?_;rintro e w2 ⟨rfl,hb2⟩;have HR2:Hid (Rd N R M en w2 l):=HR1.out.below hb2;have HF2:Hid (Fr (fun k=>k=R) w w2):=HF1.out.trans (Fr.below hb2)
   unfold tokA;clear hb2 hm;go_wp2_with fail
   refine (zCM N R M en false w2 l HR2.out (fun hb=>by cases hb)).mono ?_
   intro e w3 hp;obtain⟨rfl,hfr⟩:=hp;have hfr2:=HF2.out.trans hfr;go_wp2
   exact⟨rfl,by rw[HP2.out];exact⟨rfl,hfr2⟩⟩
  ·have HP2:Hid (P=(zBu en true l).bind fun t r=>.ok (1 * digV t.text.data.toList) r):=by show _=_;rw[←hP];unfold zAP;rw[hm,hK];rfl
   have HL:Hid (l≠[]):=zJ8 hK;obtain⟨hd1,hd2⟩:=zOn h (by simpa using hK)
   have HD2:Hid (∀c∈(zAN en l).text.data.toList,48≤c.toNat∧c.toNat≤57):=hd2;have HD1:Hid (1≤(zAN en l).text.size∧(zAN en l).text.size≤4):=hd1;clear hP h hd1 hd2;go_enter Tryz.func261,Tryz.ntmps261
   go_wp2_with fail
   refine (zAS N R M en _ l HB.out).mono ?_;rintro e w1 ⟨rfl,hb1⟩;have HR1:Hid (Rd N R M en w1 l):=HB.out.below hb1;have HF1:Hid (Fr (fun k=>k=R) w w1):=Fr.below hb1
   unfold tokA;clear hb1;go_wp2_with fail
   refine (zAS N R M en _ l HR1.out).mono ?_;rintro e w2 ⟨rfl,hb2⟩;have HR2:Hid (Rd N R M en w2 l):=HR1.out.below hb2;have HF2:Hid (Fr (fun k=>k=R) w w2):=HF1.out.trans (Fr.below hb2)
   unfold tokA;clear hb2 hm;go_wp2_with fail
   refine (zCM N R M en true w2 l HR2.out (fun _=>HL.out)).mono ?_
   intro e w3 hp;obtain⟨v,rfl,rfl,hrd,hfr⟩:=hp;have HFR:Hid (Fr (fun k=>k=R) w w3):=HF2.out.trans hfr
   have HRD:Hid (Rd N R M en w3 l.tail):=hrd;clear hfr hrd;unfold tokA;go_wp2_with fail
   refine (zMj _ HD1.out HD2.out _).mono ?_;rintro e w4 ⟨rfl,hb4⟩;obtain⟨hv1,hv2⟩:=zIa (zAN en l).text.data.toList (by have:=HD1.out.2;have h2:(zAN en l).text.data.toList.length=(zAN en l).text.size:=Array.length_toList;omega) HD2.out
   obtain⟨V,hV⟩:∃V,digV (zAN en l).text.data.toList=V:=⟨_,rfl⟩;have HV:Hid (digV (zAN en l).text.data.toList=V):=hV;rw[hV] at hv1 hv2 ⊢;have HR4:Hid (Rd N R M en w4 l.tail):=HRD.out.below hb4;have HF4:Hid (Fr (fun k=>k=R) w w4):=HFR.out.trans (Fr.below hb4)
   clear hb4 hV;go_wp2
   go_ret
   rw[HP2.out];exact⟨_,rfl,⟨by rw[HV.out,Int.one_mul];rfl,by rw[HV.out];omega,by rw[HV.out];omega⟩,HR4.out,HF4.out⟩
 ·have hmin:(⟨#[45]⟩:ByteArray).toList=[45]:=by simp[go_sem]
  have HSK:Hid (zAY en ⟨#[45]⟩ l=.ok (zAN en l) l.tail):=by show _=_;unfold zAY zBu;rw[hmin,hm];rfl
  obtain⟨q,hq⟩:∃q,l.tail=q:=⟨_,rfl⟩;have HQ:Hid (l.tail=q):=hq;have hg2:=zFD (zAN en q);have hg0:=zSG (zAN en q);have HOKQ:Hid (∀t∈q,zJ4 t):=by
   obtain⟨_,v,_,_,_,_,_,ht,_⟩:=h;intro t htq;rw[←hq] at htq;exact ht.2 t (List.mem_of_mem_tail htq)
  have HPQ:Hid (P=(zBu en (((zAN en q).kind==2)&&(!((zAN en q).text.toList==[48]))) q).bind fun t r=>.ok (-1 * digV t.text.data.toList) r):=by
   show _=_;rw[←hP];unfold zAP;rw[hm,if_pos rfl,HSK.out,←hq];rfl
  clear hP h hq hmin;go_enter Tryz.func261,Tryz.ntmps261
  go_wp2_with fail
  refine (zAS N R M en _ l HB.out).mono ?_;rintro e w1 ⟨rfl,hb1⟩;have HR1:Hid (Rd N R M en w1 l):=HB.out.below hb1;have HF1:Hid (Fr (fun k=>k=R) w w1):=Fr.below hb1
  unfold tokA;clear hb1;go_wp2_with fail
  refine (zAp N R M en ⟨#[45]⟩ zLR w1 l HR1.out).mono ?_;intro e w2 hp;rw[HSK.out] at hp;obtain⟨v,rfl,rfl,hrd,hfr⟩:=hp;have HR2:Hid (Rd N R M en w2 q):=by rw[←HQ.out];exact hrd
  have HF2:Hid (Fr (fun k=>k=R) w w2):=HF1.out.trans hfr
  clear hrd hfr hm hf0 hf2;cases hK:((zAN en q).kind==2)
  ·have HP2:Hid (P=(zBu en false q).bind fun t r=>.ok (-1 * digV t.text.data.toList) r):=by show _=_;rw[HPQ.out,hK];rfl
   go_wp2_with fail
   refine (zAS N R M en _ q HR2.out).mono ?_;rintro e w3 ⟨rfl,hb3⟩;have HR3:Hid (Rd N R M en w3 q):=HR2.out.below hb3;have HF3:Hid (Fr (fun k=>k=R) w w3):=HF2.out.trans (Fr.below hb3)
   unfold tokA;clear hb3;go_wp2_with fail
   refine (zCM N R M en false w3 q HR3.out (fun hb=>by cases hb)).mono ?_
   intro e w4 hp;obtain⟨rfl,hfr⟩:=hp;have hfr2:=HF3.out.trans hfr;go_wp2
   exact⟨rfl,by rw[HP2.out];exact⟨rfl,hfr2⟩⟩
  ·have HL:Hid (q≠[]):=zJ8 hK
   have hd:(1≤(zAN en q).text.size∧(zAN en q).text.size≤4)∧∀c∈(zAN en q).text.data.toList,48≤c.toNat∧c.toNat≤57:=zOn HR2.out (by simpa using hK)
   have HD2:Hid (∀c∈(zAN en q).text.data.toList,48≤c.toNat∧c.toNat≤57):=hd.2;have HD1:Hid (1≤(zAN en q).text.size∧(zAN en q).text.size≤4):=hd.1;clear hd;cases hz:((zAN en q).text.toList==[48])
   rotate_left
   ·have HP2:Hid (P=(zBu en false q).bind fun t r=>.ok (-1 * digV t.text.data.toList) r):=by show _=_;rw[HPQ.out,hK,hz];rfl
    go_wp2_with fail
    refine (zAS N R M en _ q HR2.out).mono ?_;rintro e w3 ⟨rfl,hb3⟩;have HR3:Hid (Rd N R M en w3 q):=HR2.out.below hb3;have HF3:Hid (Fr (fun k=>k=R) w w3):=HF2.out.trans (Fr.below hb3)
    unfold tokA;clear hb3;go_wp2_with fail
    refine (zAS N R M en _ q HR3.out).mono ?_;rintro e w4 ⟨rfl,hb4⟩;have HR4:Hid (Rd N R M en w4 q):=HR3.out.below hb4;have HF4:Hid (Fr (fun k=>k=R) w w4):=HF3.out.trans (Fr.below hb4)
    unfold tokA;clear hb4;go_wp2_with fail
    refine (zCM N R M en false w4 q HR4.out (fun hb=>by cases hb)).mono ?_
    intro e w5 hp;obtain⟨rfl,hfr⟩:=hp;have hfr2:=HF4.out.trans hfr;go_wp2
    exact⟨rfl,by rw[HP2.out];exact⟨rfl,hfr2⟩⟩
   ·have HP2:Hid (P=(zBu en true q).bind fun t r=>.ok (-1 * digV t.text.data.toList) r):=by show _=_;rw[HPQ.out,hK,hz];rfl
    go_wp2_with fail
    refine (zAS N R M en _ q HR2.out).mono ?_;rintro e w3 ⟨rfl,hb3⟩;have HR3:Hid (Rd N R M en w3 q):=HR2.out.below hb3;have HF3:Hid (Fr (fun k=>k=R) w w3):=HF2.out.trans (Fr.below hb3)
    unfold tokA;clear hb3;go_wp2_with fail
    refine (zAS N R M en _ q HR3.out).mono ?_;rintro e w4 ⟨rfl,hb4⟩;have HR4:Hid (Rd N R M en w4 q):=HR3.out.below hb4;have HF4:Hid (Fr (fun k=>k=R) w w4):=HF3.out.trans (Fr.below hb4)
    unfold tokA;clear hb4;go_wp2_with fail
    refine (zCM N R M en true w4 q HR4.out (fun _=>HL.out)).mono ?_
    intro e w5 hp;obtain⟨v,rfl,rfl,hrd,hfr⟩:=hp;have HFR:Hid (Fr (fun k=>k=R) w w5):=HF4.out.trans hfr
    have HRD:Hid (Rd N R M en w5 q.tail):=hrd;clear hfr hrd;unfold tokA;go_wp2_with fail
    refine (zMj _ HD1.out HD2.out _).mono ?_;rintro e w6 ⟨rfl,hb6⟩;obtain⟨hv1,hv2⟩:=zIa (zAN en q).text.data.toList (by have:=HD1.out.2;have h2:(zAN en q).text.data.toList.length=(zAN en q).text.size:=Array.length_toList;omega) HD2.out
    obtain⟨V,hV⟩:∃V,digV (zAN en q).text.data.toList=V:=⟨_,rfl⟩;have HV:Hid (digV (zAN en q).text.data.toList=V):=hV;rw[hV] at hv1 hv2 ⊢;have HR6:Hid (Rd N R M en w6 q.tail):=HRD.out.below hb6;have HF6:Hid (Fr (fun k=>k=R) w w6):=HFR.out.trans (Fr.below hb6)
    clear hb6 hV;go_wp2
    go_ret
    rw[HP2.out];exact⟨_,rfl,⟨by rw[HV.out];first | rfl | (rw[Int.neg_one_mul];rfl),by rw[HV.out];omega,by rw[HV.out];omega⟩,HR6.out,HF6.out⟩
open Go.RowKit Go.Maps
def nmD:List ByteArray→DataW Unit:=fun l=>(l.zipIdx).foldl (fun D p=>D.put (.string p.1.data.toList) (.lit (.int .i64 (p.2:Int)))) (.map [])
theorem zJY (l:List ByteArray) (n:ByteArray):nmD (l++[n])=(nmD l).put (.string n.data.toList) (.lit (.int .i64 (l.length:Int))):=by
 unfold nmD;rw[List.zipIdx_append,List.foldl_append];simp
theorem zOo {α:Type} {P:List α→Prop} (h0:P []) (h1:∀l a,P l→P (l++[a])):∀l,P l:=by
 intro l;rw[←List.reverse_reverse l];generalize l.reverse=m
 induction m with
 | nil=>exact h0
 | cons a m ih=>rw[List.reverse_cons];exact h1 _ _ ih
theorem zOp (l:List ByteArray):IsMap (nmD l):=by
 induction l using zOo with
 | h0=>exact isMap_empty
 | h1 l n ih=>rw[zJY];exact ih.put _ _
theorem zQd (s:ByteArray) (l:List ByteArray):Maps.has (nmD l) (.string s.data.toList)=(zCX l s).2∧(nmD l).atKey (.string s.data.toList) (.lit (.int .i64 0))=.lit (.int .i64 (zCX l s).1):=by
 induction l using zOo with
 | h0=>exact⟨rfl,rfl⟩
 | h1 l n ih =>
   rw[zJY,zHI];by_cases h:n.data.toList=s.data.toList
   ·rw[if_pos h,h]
    exact⟨has_put_same (k:=.string s.data.toList) (zOp l) (show WideAt.IsKeyLit (.string s.data.toList) from trivial) _,atKey_put_same (k:=.string s.data.toList) (zOp l) (show WideAt.IsKeyLit (.string s.data.toList) from trivial) _ _⟩
   ·rw[if_neg h,has_put_other (fun e=>h (Lit.string.inj e).symm),atKey_put_other (fun e=>h (Lit.string.inj e).symm)]
    exact ih
def NmS (w:World) (M:Nat) (l:List ByteArray):Prop:=w.ownsMap Tryz.prog 9 (plainElem Tryz.prog 3) M l.length (nmD l)
theorem NmS.old {w w':World} {M:Nat} {l:List ByteArray} (h:NmS w M l) (hb:w'.heap[M]? = w.heap[M]?):NmS w' M l:=by
 obtain⟨es,clock,hm,F,hs,hd⟩:=h;exact⟨es,clock,hb.trans hm,F,hs,hd⟩
theorem NmS.lt {w:World} {M:Nat} {l:List ByteArray} (h:NmS w M l):M<w.heap.size:=by
 obtain⟨es,clock,hm,_⟩:=h;exact (Array.getElem?_eq_some_iff.1 hm).1
theorem Tryz.underNames:Tryz.prog.underlying 207=some (.map 9 3):=by kernel_rfl
theorem Tryz.strKeyed:Keyed Tryz.prog 9:=string_keyed Tryz.underlying9
theorem Tryz.intZero (w:World):(zeroValue 3).run Tryz.prog w=.ok (.int .i64 0) w:=by kernel_rfl
theorem zNb (w:World) (M:Nat) (l:List ByteArray) (s:ByteArray) (hs:s.size≤maxLen) (h:NmS w M l) :
 Sem.run Tryz.prog (Instr.lookup 207 (.map (some M)) (.string s) true) w=.ok (.tuple #[.int .i64 (zCX l s).1,.bool (zCX l s).2]) w:=by
 obtain⟨v,ps,hrun,hv⟩:=h.look_ok Tryz.strKeyed Tryz.underNames (Tryz.intZero w) (plainElem_int (H:=Unit) Tryz.underlying3 (by decide)) (WideMaps.keyOf_string_mk Tryz.underlying9 hs)
 obtain⟨a,rfl,ha,_⟩:=plainElem_int_inv Tryz.underlying3 hv;obtain⟨h1,h2⟩:=zQd s l;rw[h2] at ha;have h3:=congrArg Prod.fst ha;have h4:(zCX l s).1=a:=by cases h3;rfl
 rw[hrun,h1,h4]
theorem zNc {w2 Y w3:World} {A:Prop} (h:Below w2.heap.size w2 Y∧A) (hb:Below Y.heap.size Y w3):Below w2.heap.size w2 w3:=h.1.trans (hb.mono h.1.size)
theorem zCk (N R M:Nat) (en:Int) (names:List ByteArray) (w:World) (l:List Tok) (h:Rd N R M en w l) (hn:NmS w M names) (hne:∀n∈names,n.data.toList≠[]) :
 Calls Tryz.prog 265 #[.pointer (some ⟨R,0,none⟩)] w (zB7 (zA1 en names l) (fun i v _=>v=.int .i64 i) N R M en (fun k=>k=R) w):=by
 have hf2:=zFD (zAN en l);have HB:Hid (Rd N R M en w l):=h;have HSZ:Hid ((zAN en l).text.size≤maxLen):=zJ7 h;have HML:Hid (M<w.heap.size):=hn.lt;have HNM:Hid (NmS w M names):=hn;obtain⟨ri,hri⟩:∃ri,(zCX names (zAN en l).text).1=ri:=⟨_,rfl⟩;obtain⟨rb,hrb⟩:∃rb,(zCX names (zAN en l).text).2=rb:=⟨_,rfl⟩;obtain⟨nb,hnb⟩:∃nb,zGw (zAN en l).text=nb:=⟨_,rfl⟩;have HNB:Hid (zGw (zAN en l).text=nb):=hnb;have HLK:Hid (∀Y:World,Below w.heap.size w Y→Sem.run Tryz.prog (Instr.lookup 207 (.map (some M)) (.string (zAN en l).text) true) Y=.ok (.tuple #[.int .i64 ri,.bool rb]) Y):=by
  intro Y hY;rw[zNb Y M names _ HSZ.out (HNM.out.old (hY.block M HML.out)),hri,hrb]
 have HL:Hid (rb=true→l≠[]):=by
  intro hb hl;subst hl;have h2:(zCX names ByteArray.empty).2=rb:=hrb;rw[zGb names hne,hb] at h2;cases h2
 obtain⟨P,hP⟩:∃P,zA1 en names l=P:=⟨_,rfl⟩;have HP:Hid (P=if rb then (zBu en true l).bind fun _ r=>.ok ri r else if nb then .bad (zAN en l).place 5 else .bad (zAN en l).place 1):=by
  show _=_;rw[←hP];unfold zA1;rw[hri,hrb,hnb]
 rw[hP];obtain⟨_,v,hR,_⟩:=h;have c2:w.cell? ⟨R,2,none⟩=some (.map (some M)):=by rw[Lib.cell_of_heap hR];rfl
 have hRl:R<w.heap.size:=(Array.getElem?_eq_some_iff.1 hR).1;have HAH:Hid (∀Y:World,Below w.heap.size w Y→Calls Tryz.prog 220 #[.pointer (some ⟨R,0,none⟩)] Y fun e w'=>e=.returned (.agg #[.int .i64 (zAN en l).kind,.int .i64 (zAN en l).place,.string (zAN en l).text])∧Below Y.heap.size Y w'):=fun Y hY=>zAS N R M en Y l (HB.out.below hY)
 have hlk0:=HLK.out _ (Below.refl _ _).drew;clear hri hrb hnb hP hR hn hne;go_enter Tryz.func265,Tryz.ntmps265
 go_wp2_with fail
 go_region_held3 (fun w'=>Below w.heap.size w w'∧w'.cell? ⟨R,2,none⟩=some (.map (some M))∧Sem.run Tryz.prog (Instr.lookup 207 (.map (some M)) (.string (zAN en l).text) true) w'=.ok (.tuple #[.int .i64 ri,.bool rb]) w')
  ((refine (fun (hB:Below w.heap.size w _)=>⟨hB,(hB.cell (p:=⟨R,2,none⟩) hRl).trans c2,HLK.out _ hB⟩:Below w.heap.size w _→_) ?_;first | exact (Below.refl _ _).drew | exact hB1 | exact (show Below w.heap.size w _∧_∧_ by assumption).1))
  (first
    | (go_at_call 220;refine (HAH.out _ (show Below w.heap.size w _∧_∧_ by assumption).1).mono ?_;rintro e w1 ⟨rfl,hbq⟩;have hB1:=zNc (by assumption) hbq))
 have HR1:Hid (Rd N R M en w1 l):=HB.out.below hB1;have HF1:Hid (Fr (fun k=>k=R) w w1):=Fr.below hB1
 cases rb
 ·go_wp2_with fail
  refine (zAS N R M en _ l HR1.out).mono ?_;rintro e w2 ⟨rfl,hb2⟩;have HR2:Hid (Rd N R M en w2 l):=HR1.out.below hb2;have HF2:Hid (Fr (fun k=>k=R) w w2):=HF1.out.trans (Fr.below hb2)
  unfold tokA;clear hb2;go_wp2_with fail
  refine (zHJ _ HSZ.out _).mono ?_;rintro e w3 ⟨rfl,hb3⟩;rw[HNB.out];have HR3:Hid (Rd N R M en w3 l):=HR2.out.below hb3;have HF3:Hid (Fr (fun k=>k=R) w w3):=HF2.out.trans (Fr.below hb3)
  clear hb3;cases nb
  ·have HP2:Hid (P=.bad (zAN en l).place 1):=HP.out
   go_wp2_with fail
   refine (zCM N R M en false w3 l HR3.out (fun hb=>by cases hb)).mono ?_
   intro e w4 hp;obtain⟨rfl,hfr⟩:=hp;have hfr2:=HF3.out.trans hfr;go_wp2
   exact⟨rfl,by rw[HP2.out];exact⟨rfl,hfr2⟩⟩
  ·have HP2:Hid (P=.bad (zAN en l).place 5):=HP.out
   go_wp2_with fail
   refine (zGA N R M en 5 _ l HR3.out).mono ?_;rintro e w4 ⟨rfl,hb4⟩;have hfr2:=HF3.out.trans (Fr.below hb4);go_wp2
   exact⟨rfl,by rw[HP2.out];exact⟨rfl,hfr2⟩⟩
 ·have HP2:Hid (P=(zBu en true l).bind fun _ r=>.ok ri r):=HP.out
  go_wp2_with fail
  refine (zCM N R M en true w1 l HR1.out (fun _=>HL.out (by first | rfl | trivial))).mono ?_
  intro e w4 hp;obtain⟨v,rfl,rfl,hrd,hfr⟩:=hp;have hfr2:=HF1.out.trans hfr;unfold tokA;go_wp2
  go_ret
  rw[HP2.out];exact⟨_,rfl,rfl,hrd,hfr2⟩
theorem zDY {X:Nat→Prop} {w w':World} {base:Nat} {e:TypeId} {size n:Nat} {v:Value} {xs:List Value} (h:w.ownsRow base e size v n xs) (hf:Fr X w w') (hX:∀k,X k→k<base):w'.ownsRow base e size v n xs:=by
 refine⟨h.1,?_⟩;rcases h.2 with hn | ⟨g,cap,cur,hv,hg,hh,r⟩
 ·exact .inl hn
 ·exact .inr ⟨g,cap,cur,hv,hg,by rw[hf.block g (Array.getElem?_eq_some_iff.1 hh).1 (fun hx=>by have:=hX g hx;omega)];exact hh,r⟩
theorem Rd.grown {N R M:Nat} {en:Int} {w w':World} {l:List Tok} {row:Option Nat} (h:Rd N R M en w l) (hg:w.grownBy w' row) (hr:∀k,row=some k→k≠R∧N≤k):Rd N R M en w' l:=by
 obtain⟨⟨h1,h2,h3⟩,v,hR,ht⟩:=h;have hRl:R<w.heap.size:=(Array.getElem?_eq_some_iff.1 hR).1;refine⟨⟨h1,Nat.le_trans h2 hg.size,h3⟩,v,(hg.block R hRl (fun e=>(hr R e.symm).1 rfl)).trans hR,ht.old fun q hq=>World.cell?_of_block (hg.block _ (by omega) (fun e=>by have:=(hr _ e.symm).2;omega))⟩
theorem zCa:zC6 ⟨#[91]⟩:=by unfold zC6;simp[go_sem]
theorem zBl:zC6 ⟨#[93]⟩:=by unfold zC6;simp[go_sem]
theorem zB8:zC6 ⟨#[44]⟩:=by unfold zC6;simp[go_sem]
def zD0 (R:Nat) (w:World):Nat:=match w.cell? ⟨R,0,none⟩ with
 | some (.slice _ n _)=>n
 | _=>0
theorem zCl {N R M:Nat} {en:Int} {w:World} {l:List Tok} (h:Rd N R M en w l):zD0 R w=l.length:=by
 obtain⟨_,v,hR,a,c,rfl,_⟩:=h;unfold zD0;rw[Lib.cell_of_heap hR];rfl
def Item {α:Type} (B N R M:Nat) (en:Int) (F:Nat) (item:List Tok→PR α) (G:α→Value→World→Prop) (I:World→Prop):Prop :=
 (∀(args:Array Value) (w':World),Sem.run Tryz.prog (callFunc F args) w'=.ok (.enter F args) w')∧(∀w w',I w→Fr (fun k=>k=R∨B≤k) w w'→I w') ∧
 ∀(w:World) (l:List Tok),Rd N R M en w l→I w→Calls Tryz.prog F #[.pointer (some ⟨R,0,none⟩)] w (zB7 (item l) G N R M en (fun k=>k=R) w)
theorem Tryz.infoInt5:(Tryz.prog.info? 3).map (fun i=>(i.zero,i.size,i.bytes))=some (some (.int .i64 0),1,8):=by kernel_rfl
theorem Tryz.underInts5:Tryz.prog.underlying 42=some (.slice 3):=by kernel_rfl
theorem zBs {en:Int} {s:ByteArray} (hs:zC6 s) {l r:List Tok} {t:Tok} (h:zAY en s l=.ok t r):r.length+1=l.length:=by
 have h1:=zDH en l _ t r h;unfold zAY zBu at h
 split at h
 ·rename_i hb
  have:=zEU en l s hs hb;rw[h1];cases l with
  | nil=>exact absurd rfl this
  | cons a l=>simp
 ·cases h
theorem zJ9 (w:World) (z:Int):∀(j:Nat) (u:Value),[Value.int .i64 z][j]? = some u→(w.alloc (.cells #[.int .i64 z] 3)).cell? ((⟨w.heap.size,0,none⟩:Addr).add j)=some u:=by
 intro j u hj
 match j,hj with
 | 0,hj=>simp at hj;subst hj;simp[Addr.add]
theorem zGc (N R M:Nat) (en:Int) (F:Nat) (item:List Tok→PR Int) (I:World→Prop) (hE:Eats item) (B:Nat) (hI:Item B N R M en F item (fun i v _=>v=.int .i64 i) I) (w:World) (hBw:B≤w.heap.size) (l:List Tok) (h:Rd N R M en w l) (hi0:I w) (hl:l.length≤4000) :
 Calls Tryz.prog 282 #[.pointer (some ⟨R,0,none⟩),.func (.func F) #[.pointer (some ⟨R,0,none⟩)] #[]] w
  (zB7 (zAr en item l) (fun xs v w'=>w'.ownsRow w.heap.size 3 1 v xs.length (xs.map (Value.int .i64))∧I w') N R M en (fun k=>k=R) w):=by
 have HB:Hid (Rd N R M en w l):=h;have HI0:Hid (I w):=hi0;have HIT:Hid (Item B N R M en F item (fun i v _=>v=.int .i64 i) I):=hI
 have HE:Hid (Eats item):=hE;have hRw:R<w.heap.size:=by obtain⟨_,_,hR,_⟩:=h;exact (Array.getElem?_eq_some_iff.1 hR).1
 have HX:Hid (∀k,(fun k=>k=R) k→k<w.heap.size):=fun k hk=>by subst hk;exact hRw
 obtain⟨i0,hi,hz0,hz1,hz2⟩:=info_parts Tryz.infoInt5;obtain⟨P,hP⟩:∃P,zAr en item l=P:=⟨_,rfl⟩;have HP:Hid (zAr en item l=P):=hP;rw[hP];clear hP h hi0 hI hE;go_enter Tryz.func282,Tryz.ntmps282
 go_wp2_with fail
 refine (zAp N R M en ⟨#[91]⟩ zCa w l HB.out).mono ?_;intro e w1 hp;cases hs:zAY en ⟨#[91]⟩ l with
 | bad x er =>
   rw[hs] at hp;obtain⟨rfl,hfr⟩:=hp;have HPB:Hid (P=.bad x er):=by show _=_;rw[←HP.out];unfold zAr;rw[hs];rfl
   clear hs;go_wp2
   exact⟨rfl,by rw[HPB.out];exact⟨rfl,hfr⟩⟩
 | ok t q =>
   rw[hs] at hp;obtain⟨v,rfl,rfl,hrd,hfr⟩:=hp;have HRD:Hid (Rd N R M en w1 q):=hrd;have HFR:Hid (Fr (fun k=>k=R) w w1):=hfr
   have hql:q.length+1=l.length:=zBs zCa hs;have HQL:Hid (q.length+1=l.length):=hql;have HP1:Hid (P=if (zAN en q).text.toList==[93] then (zAY en ⟨#[93]⟩ q).bind fun _ l=>.ok [] l else (item q).bind fun x l=>zCK en item (l.length+1) [x] l):=by
    show _=_;rw[←HP.out];unfold zAr;rw[hs];rfl
   have hf2:=zFD (zAN en q);clear hs hrd hfr HP hql;go_wp2_with fail
   refine (zAS N R M en _ q HRD.out).mono ?_;rintro e w2 ⟨rfl,hb2⟩;have HR2:Hid (Rd N R M en w2 q):=HRD.out.below hb2;have HF2:Hid (Fr (fun k=>k=R) w w2):=HFR.out.trans (Fr.below hb2)
   unfold tokA;clear hb2;cases hq:((zAN en q).text.toList==[93])
   ·have HP2:Hid (P=(item q).bind fun x l=>zCK en item (l.length+1) [x] l):=by show _=_;rw[HP1.out,hq];rfl
    have HI2:Hid (I w2):=HIT.out.2.1 _ _ HI0.out (HF2.out.weak fun k hk=>Or.inl hk)
    clear HP1;go_wp2_with fail
    rw[HIT.out.1,Oper.upon_enter];refine (HIT.out.2.2 w2 q HR2.out HI2.out).mono ?_;intro e w3 hp;cases hit:item q with
    | bad x er =>
      rw[hit] at hp;obtain⟨rfl,hfr⟩:=hp;have hfr2:=HF2.out.trans hfr;have HPB:Hid (P=.bad x er):=by show _=_;rw[HP2.out,hit];rfl
      clear hit hq hfr;go_wp2
      exact⟨rfl,by rw[HPB.out];exact⟨rfl,hfr2⟩⟩
    | ok x r =>
      rw[hit] at hp;obtain⟨v,rfl,rfl,hrd,hfr⟩:=hp;have HR3:Hid (Rd N R M en w3 r):=hrd;have HF3:Hid (Fr (fun k=>k=R) w w3):=HF2.out.trans hfr
      have HI3:Hid (I w3):=HIT.out.2.1 _ _ HI2.out (hfr.weak fun k hk=>Or.inl hk)
      have HRL:Hid (r.length≤q.length):=HE.out q x r hit;have HP3:Hid (P=zCK en item (r.length+1) [x] r):=by show _=_;rw[HP2.out,hit];rfl
      have hsz3:w.heap.size≤w3.heap.size:=HF3.out.size;clear hit hrd hfr hq hf2 HP2;go_wp2_with (at_builtin;refine wpList_append_own _ rfl _ _ 42 rfl w.heap.size 3 i0 (.int .i64 0) 1 8 Tryz.underInts5 hi hz0 hz1 hz2 rfl (by decide) _ _ _ rfl (World.ownsRow_nil _ _ _ _) ⟨w3.heap.size,0,none⟩ 1 1 [.int .i64 x] rfl rfl ?c1 ?c2 ?c3 ?c4 ?c5 ?_)
      case c1=>exact zJ9 w3 x
      case c2=>intro u hu;rcases List.mem_singleton.1 hu with rfl;rfl
      case c3=>unfold maxLen;omega
      case c4=>omega
      case c5=>simp;omega
      intro v5 w5 hown5 hg5 _;have HR5:Hid (Rd N R M en w5 r):=(HR3.out.below (zAA _ _)).grown hg5 (fun k hk=>by cases hk)
      have HF5:Hid (Fr (fun k=>k=R) w w5):=(HF3.out.alloc _).grown hg5 (fun k hk=>by cases hk)
      have HI5:Hid (I w5):=HIT.out.2.1 _ _ HI3.out (((Fr.refl _ _).alloc _).grown hg5 (fun k hk=>by cases hk))
      have HO5:Hid (w5.ownsRow w.heap.size 3 1 v5 [x].length ([x].map (Value.int .i64))):=hown5;clear hown5 hg5;go_wp2_with fail
      go_loopw [5] (fun v wr=>∃(f:Nat) (acc:List Int) (q:List Tok),Hid (P=zCK en item f acc q)∧Hid (Rd N R M en wr q)∧Hid (I wr)∧Hid (wr.ownsRow w.heap.size 3 1 v acc.length (acc.map (Value.int .i64)))∧Hid (Fr (fun k=>k=R) w wr)∧q.length+1≤f∧acc.length+q.length≤4000) (fun _ wr=>zD0 R wr)
      case atStart=>exact⟨_,[x],r,HP3,HR5,HI5,HO5,HF5,by omega,by have:=HRL.out;have:=HQL.out;simp;omega⟩
      case round =>
       obtain⟨f,acc,q,HPM,HRM,HIM,HOM,HFM,hf,hlen⟩:=hrel;obtain⟨g,rfl⟩:∃g,f=g+1:=⟨f - 1,by omega⟩
       have hf2:=zFD (zAN en q);obtain⟨av,cv,hv⟩:=zAC HOM.out;subst hv;have HCM:Hid ((⟨#[44]⟩:ByteArray).toList=[44]):=by show _=_;simp[go_sem]
       cases hc:((zAN en q).text.toList==[44])
       ·have HPE:Hid (P=(zAY en ⟨#[93]⟩ q).bind fun _ l=>.ok acc l):=by show _=_;rw[HPM.out];unfold zCK;rw[hc];rfl
        go_wp2_with fail
        refine (zAS N R M en _ q HRM.out).mono ?_;rintro e w6 ⟨rfl,hb6⟩;have HR6:Hid (Rd N R M en w6 q):=HRM.out.below hb6;have HF6:Hid (Fr (fun k=>k=R) w w6):=HFM.out.trans (Fr.below hb6)
        have HI6:Hid (I w6):=HIT.out.2.1 _ _ HIM.out (Fr.below hb6);have HO6:Hid (w6.ownsRow w.heap.size 3 1 (.slice av acc.length cv) acc.length (acc.map (Value.int .i64))):=zAB HOM.out hb6;unfold tokA;clear hb6;go_wp2_with fail
        refine (zAp N R M en ⟨#[93]⟩ zBl w6 q HR6.out).mono ?_;intro e w7 hp;cases hs:zAY en ⟨#[93]⟩ q with
        | bad x er =>
          rw[hs] at hp;obtain⟨rfl,hfr⟩:=hp;have hfr2:=HF6.out.trans hfr;have HPB:Hid (P=.bad x er):=by show _=_;rw[HPE.out,hs];rfl
          clear hs hc hfr;go_wp2
          exact⟨rfl,by rw[HPB.out];exact⟨rfl,hfr2⟩⟩
        | ok t q2 =>
          rw[hs] at hp;obtain⟨v,rfl,rfl,hrd,hfr⟩:=hp;have hfr2:=HF6.out.trans hfr;have HI7:Hid (I w7):=HIT.out.2.1 _ _ HI6.out (hfr.weak fun k hk=>Or.inl hk)
          have HO7:Hid (w7.ownsRow w.heap.size 3 1 (.slice av acc.length cv) acc.length (acc.map (Value.int .i64))):=zDY HO6.out hfr HX.out;have HPB:Hid (P=.ok acc q2):=by show _=_;rw[HPE.out,hs];rfl
          clear hs hc hfr;go_wp2
          go_ret
          rw[HPB.out];exact⟨_,rfl,⟨HO7.out,HI7.out⟩,hrd,hfr2⟩
       ·have hne:=zEU en q ⟨#[44]⟩ zB8 (by rw[HCM.out];exact hc)
        have HSK:Hid (zAY en ⟨#[44]⟩ q=.ok (zAN en q) q.tail):=by show _=_;unfold zAY zBu;rw[HCM.out,hc];rfl
        obtain⟨q2,hq2⟩:∃q2,q.tail=q2:=⟨_,rfl⟩;have HQ2:Hid (q.tail=q2):=hq2;have hql2:q2.length+1=q.length:=by
         rw[←hq2];cases q with
         | nil=>exact absurd rfl hne
         | cons a q=>simp
        have HPE:Hid (P=(item q2).bind fun x l=>zCK en item g (acc++[x]) l):=by show _=_;rw[HPM.out,zCK,hc,if_pos rfl,HSK.out,←hq2];rfl
        clear hne hq2;go_wp2_with fail
        refine (zAS N R M en _ q HRM.out).mono ?_;rintro e w6 ⟨rfl,hb6⟩;have HR6:Hid (Rd N R M en w6 q):=HRM.out.below hb6;have HF6:Hid (Fr (fun k=>k=R) w w6):=HFM.out.trans (Fr.below hb6)
        have HI6:Hid (I w6):=HIT.out.2.1 _ _ HIM.out (Fr.below hb6);have HO6:Hid (w6.ownsRow w.heap.size 3 1 (.slice av acc.length cv) acc.length (acc.map (Value.int .i64))):=zAB HOM.out hb6;unfold tokA;clear hb6;go_wp2_with fail
        refine (zAp N R M en ⟨#[44]⟩ zB8 w6 q HR6.out).mono ?_;intro e w7 hp;rw[HSK.out] at hp;obtain⟨v,rfl,rfl,hrd,hfr⟩:=hp;have HR7:Hid (Rd N R M en w7 q2):=by rw[←HQ2.out];exact hrd
        have HF7:Hid (Fr (fun k=>k=R) w w7):=HF6.out.trans hfr
        have HI7:Hid (I w7):=HIT.out.2.1 _ _ HI6.out (hfr.weak fun k hk=>Or.inl hk)
        have HO7:Hid (w7.ownsRow w.heap.size 3 1 (.slice av acc.length cv) acc.length (acc.map (Value.int .i64))):=zDY HO6.out hfr HX.out;clear hrd hfr hc hf2;go_wp2_with fail
        rw[HIT.out.1,Oper.upon_enter];refine (HIT.out.2.2 w7 q2 HR7.out HI7.out).mono ?_;intro e w8 hp;cases hit:item q2 with
        | bad x er =>
          rw[hit] at hp;obtain⟨rfl,hfr⟩:=hp;have hfr2:=HF7.out.trans hfr;have HPB:Hid (P=.bad x er):=by show _=_;rw[HPE.out,hit];rfl
          clear hit hfr;go_wp2
          exact⟨rfl,by rw[HPB.out];exact⟨rfl,hfr2⟩⟩
        | ok x r =>
          rw[hit] at hp;obtain⟨v,rfl,rfl,hrd,hfr⟩:=hp;have HR8:Hid (Rd N R M en w8 r):=hrd;have HF8:Hid (Fr (fun k=>k=R) w w8):=HF7.out.trans hfr
          have HI8:Hid (I w8):=HIT.out.2.1 _ _ HI7.out (hfr.weak fun k hk=>Or.inl hk)
          have HO8:Hid (w8.ownsRow w.heap.size 3 1 (.slice av acc.length cv) acc.length (acc.map (Value.int .i64))):=zDY HO7.out hfr HX.out;have hrl:r.length≤q2.length:=HE.out q2 x r hit;have HPN:Hid (P=zCK en item g (acc++[x]) r):=by show _=_;rw[HPE.out,hit];rfl
          have hsz8:w.heap.size≤w8.heap.size:=HF8.out.size;have hox:=HO8.out.alloc (.cells #[.int .i64 x] 3);clear hit hrd hfr;go_wp2_with (at_builtin;refine wpList_append_own _ rfl _ _ 42 rfl w.heap.size 3 i0 (.int .i64 0) 1 8 Tryz.underInts5 hi hz0 hz1 hz2 rfl (by decide) _ _ _ rfl hox ⟨w8.heap.size,0,none⟩ 1 1 [.int .i64 x] rfl rfl ?c1 ?c2 ?c3 ?c4 ?c5 ?_)
          case c1=>exact zJ9 w8 x
          case c2=>intro u hu;rcases List.mem_singleton.1 hu with rfl;rfl
          case c3=>unfold maxLen;omega
          case c4=>omega
          case c5=>simp;omega
          intro v9 w9 hown9 hg9 _;have hrow:∀k,(Value.slice av acc.length cv).ownBlock=some k→w.heap.size≤k:=fun k hk=>(HO8.out.lt k hk).1
          have HR9:Hid (Rd N R M en w9 r):=(HR8.out.below (zAA _ _)).grown hg9 (fun k hk=>⟨by have:=hrow k hk;omega,by have:=hrow k hk;have:=HB.out.1.2.1;omega⟩)
          have HF9:Hid (Fr (fun k=>k=R) w w9):=(HF8.out.alloc _).grown hg9 (fun k hk=>Or.inr (hrow k hk))
          have HI9:Hid (I w9):=HIT.out.2.1 _ _ HI8.out (((Fr.refl _ _).alloc _).grown hg9 (fun k hk=>Or.inl (Or.inr (by have:=hrow k hk;omega))))
          have HO9:Hid (w9.ownsRow w.heap.size 3 1 v9 (acc++[x]).length ((acc++[x]).map (Value.int .i64))):=by
           rw[List.length_append,List.map_append];exact hown9
          have HM9:Hid (zD0 R w9<zD0 R wr):=by show _<_;rw[zCl HR9.out,zCl HRM.out];omega
          clear hown9 hg9 hrow hox;go_wp2
          go_roundw
          case rel=>exact⟨g,acc++[x],r,HPN,HR9,HI9,HO9,HF9,by omega,by simp;omega⟩
          case measure=>exact HM9.out
   ·have HP2:Hid (P=(zAY en ⟨#[93]⟩ q).bind fun _ l=>.ok [] l):=by show _=_;rw[HP1.out,hq];rfl
    have HI2:Hid (I w2):=HIT.out.2.1 _ _ HI0.out (HF2.out.weak fun k hk=>Or.inl hk)
    clear HP1;go_wp2_with fail
    refine (zAp N R M en ⟨#[93]⟩ zBl w2 q HR2.out).mono ?_;intro e w7 hp;cases hs:zAY en ⟨#[93]⟩ q with
    | bad x er =>
      rw[hs] at hp;obtain⟨rfl,hfr⟩:=hp;have hfr2:=HF2.out.trans hfr;have HPB:Hid (P=.bad x er):=by show _=_;rw[HP2.out,hs];rfl
      clear hs hq hfr;go_wp2
      exact⟨rfl,by rw[HPB.out];exact⟨rfl,hfr2⟩⟩
    | ok t q2 =>
      rw[hs] at hp;obtain⟨v,rfl,rfl,hrd,hfr⟩:=hp;have hfr2:=HF2.out.trans hfr;have HI7:Hid (I w7):=HIT.out.2.1 _ _ HI2.out (hfr.weak fun k hk=>Or.inl hk)
      have HPB:Hid (P=.ok [] q2):=by show _=_;rw[HP2.out,hs];rfl
      clear hs hq hfr;go_wp2
      go_ret
      rw[HPB.out];exact⟨_,rfl,⟨World.ownsRow_nil _ _ _ _,HI7.out⟩,hrd,hfr2⟩
end Go.Proofs.YtndcpnlaadikoaaGreatDoor
