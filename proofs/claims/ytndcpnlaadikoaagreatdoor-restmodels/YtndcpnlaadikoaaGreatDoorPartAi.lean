/- What the proof leans on, part 9. -/
import Derived.Test.YtndcpnlaadikoaaGreatDoorPartAh
set_option maxRecDepth 100000
set_option maxHeartbeats 1600000
namespace Go.Proofs.YtndcpnlaadikoaaGreatDoor
open Go.RowKit
theorem zMl (N R M:Nat) (en:Int) (names:List ByteArray) (w:World) (l:List Tok) (h:Rd N R M en w l) (hn:NmS w M names) (hne:∀n∈names,n.data.toList≠[]) :
 Calls Tryz.prog 268 #[.pointer (some ⟨R,0,none⟩)] w (zB7 (litP en names l) (fun i v _=>v=litA i) N R M en (fun k=>k=R) w):=by
 have HB:Hid (Rd N R M en w l):=h;have HN:Hid (NmS w M names):=hn;have HNE:Hid (∀n∈names,n.data.toList≠[]):=hne;have hRw:R<w.heap.size:=by obtain⟨_,_,hR,_⟩:=h;exact (Array.getElem?_eq_some_iff.1 hR).1
 obtain⟨P,hP⟩:∃P,litP en names l=P:=⟨_,rfl⟩;have HP:Hid (P=(zA1 en names l).bind fun v l=>(zC0 en opWL l).bind fun op l=>(zAP en l).bind fun n l=>.ok ⟨v,op,n⟩ l):=by show _=_;rw[←hP];rfl
 rw[hP];clear h hP hn hne;go_enter Tryz.func268,Tryz.ntmps268
 go_wp2_with fail
 have HR0:=HB.out.below (zAA w (.cells #[.int .i64 0,.int .i64 0,.int .i64 0] 76));have HN0:=HN.out.old ((zAA w (.cells #[.int .i64 0,.int .i64 0,.int .i64 0] 76)).block M HN.out.lt);have HF0:Fr (fun k=>k=R) w (w.alloc (.cells #[.int .i64 0,.int .i64 0,.int .i64 0] 76)):=Fr.below (zAA _ _)
 have HQ0:(w.alloc (.cells #[.int .i64 0,.int .i64 0,.int .i64 0] 76)).heap[w.heap.size]? = some (.cells #[.int .i64 0,.int .i64 0,.int .i64 0] 76):=by show (w.heap.push _)[w.heap.size]? = _;simp
 refine (zCk N R M en names _ l HR0 HN0 HNE.out).mono ?_;intro e w1 hp;cases h1:zA1 en names l with
 | bad x er =>
   rw[h1] at hp;obtain⟨rfl,hfr⟩:=hp;have hfr2:=HF0.trans hfr;have HPB:Hid (P=.bad x er):=by show _=_;rw[HP.out,h1];rfl
   clear h1 hfr HR0 HN0 HF0 HQ0;go_wp2
   exact⟨rfl,by rw[HPB.out];exact⟨rfl,hfr2⟩⟩
 | ok a q =>
   rw[h1] at hp;obtain⟨v,rfl,rfl,hrd,hfr⟩:=hp;have HR1:Hid (Rd N R M en w1 q):=hrd;have HF1:Hid (Fr (fun k=>k=R) w w1):=HF0.trans hfr
   have HQ1:Hid (w1.heap[w.heap.size]? = some (.cells #[.int .i64 0,.int .i64 0,.int .i64 0] 76)):=(hfr.block _ (by simp) (by omega)).trans HQ0
   have HP1:Hid (P=(zC0 en opWL q).bind fun op l=>(zAP en l).bind fun n l=>.ok ⟨a,op,n⟩ l):=by show _=_;rw[HP.out,h1];rfl
   clear h1 hrd hfr HR0 HN0 HF0 HQ0 HP;go_wp2_with fail
   refine (zKE w1).mono ?_;rintro e w2 ⟨sv,rfl,hsv,hb2⟩;have HSV:Hid (SArg w2 sv opWL):=hsv;obtain⟨as_,cs_,rfl,_,_⟩:=hsv;have HR2:Hid (Rd N R M en w2 q):=HR1.out.below hb2;have HF2:Hid (Fr (fun k=>k=R) w w2):=HF1.out.trans (Fr.below hb2)
   have HQ2:Hid (w2.heap[w.heap.size]? = some (.cells #[.int .i64 0,.int .i64 0,.int .i64 0] 76)):=(hb2.block _ (Array.getElem?_eq_some_iff.1 HQ1.out).1).trans HQ1.out;clear hb2;go_wp2_with fail
   refine (zHK N R M en opWL _ w2 q HR2.out HSV.out).mono ?_;intro e w3 hp;cases h2:zC0 en opWL q with
   | bad x er =>
     rw[h2] at hp;obtain⟨rfl,hfr⟩:=hp;have hfr2:=HF2.out.trans hfr;have HPB:Hid (P=.bad x er):=by show _=_;rw[HP1.out,h2];rfl
     clear h2 hfr;go_wp2
     exact⟨rfl,by rw[HPB.out];exact⟨rfl,hfr2⟩⟩
   | ok op q2 =>
     rw[h2] at hp;obtain⟨v,rfl,rfl,hrd,hfr⟩:=hp;have HR3:Hid (Rd N R M en w3 q2):=hrd;have HF3:Hid (Fr (fun k=>k=R) w w3):=HF2.out.trans hfr
     have HQ3:Hid (w3.heap[w.heap.size]? = some (.cells #[.int .i64 0,.int .i64 0,.int .i64 0] 76)):=(hfr.block _ (Array.getElem?_eq_some_iff.1 HQ2.out).1 (by omega)).trans HQ2.out
     have HP2:Hid (P=(zAP en q2).bind fun n l=>.ok ⟨a,op,n⟩ l):=by show _=_;rw[HP1.out,h2];rfl
     clear h2 hrd hfr HP1;go_wp2_with fail
     refine (zDp N R M en w3 q2 HR3.out).mono ?_;intro e w4 hp;cases h3:zAP en q2 with
     | bad x er =>
       rw[h3] at hp;obtain⟨rfl,hfr⟩:=hp;have hfr2:=HF3.out.trans hfr;have HPB:Hid (P=.bad x er):=by show _=_;rw[HP2.out,h3];rfl
       clear h3 hfr;go_wp2
       exact⟨rfl,by rw[HPB.out];exact⟨rfl,hfr2⟩⟩
     | ok n q3 =>
       rw[h3] at hp;obtain⟨v,rfl,⟨rfl,_,_⟩,hrd,hfr⟩:=hp;have HR4:Hid (Rd N R M en w4 q3):=hrd;have HF4:Hid (Fr (fun k=>k=R) w w4):=HF3.out.trans hfr
       have HQ4:w4.heap[w.heap.size]? = some (.cells #[.int .i64 0,.int .i64 0,.int .i64 0] 76):=(hfr.block _ (Array.getElem?_eq_some_iff.1 HQ3.out).1 (by omega)).trans HQ3.out
       have HP3:Hid (P=.ok ⟨a,op,n⟩ q3):=by show _=_;rw[HP2.out,h3];rfl
       have r0:=blk9 HQ4 0 _ rfl;have r1:=blk9 HQ4 1 _ rfl;have r2:=blk9 HQ4 2 _ rfl;have z0:=frz9 HQ4 0;have z1:=frz9 HQ4 1;have z2:=frz9 HQ4 2;have hN0:N≤w.heap.size:=HB.out.1.2.1;have hne2:w.heap.size≠R:=by omega
       clear h3 hrd hfr HP2 HQ4;go_wp2
       refine bodyPost_ret (by simp[results,Tryz.results268,go_sem, *];try rfl) rfl ?_
       rw[HP3.out];refine⟨_,rfl,rfl,?_,?_⟩
       ·exact ((HR4.out.set (p:=⟨w.heap.size,0,none⟩) hne2 hN0 _).set (p:=⟨w.heap.size,1,none⟩) hne2 hN0 _).set (p:=⟨w.heap.size,2,none⟩) hne2 hN0 _
       ·exact ((HF4.out.setNew (p:=⟨w.heap.size,0,none⟩) (Nat.le_refl _) _).setNew (p:=⟨w.heap.size,1,none⟩) (Nat.le_refl _) _).setNew (p:=⟨w.heap.size,2,none⟩) (Nat.le_refl _) _
theorem zQf (B N R M:Nat) (en:Int) (names:List ByteArray) (hM:M<B) (hMR:M≠R) (hne:∀n∈names,n.data.toList≠[]):Item B N R M en 268 (litP en names) (fun i v _=>v=litA i) (fun w=>NmS w M names) :=
 ⟨zLS,zIc B R M names hM hMR,fun w l h hn=>zMl N R M en names w l h hn hne⟩
theorem zOr (N R M:Nat) (en:Int) (names:List ByteArray) (w:World) (l:List Tok) (h:Rd N R M en w l) (hn:NmS w M names) (hne:∀n∈names,n.data.toList≠[]) :
 Calls Tryz.prog 267 #[.pointer (some ⟨R,0,none⟩)] w (zB7 (zAr en (litP en names) l) (fun xs v w'=>w'.ownsRow w.heap.size 76 3 v xs.length (xs.flatMap litC)) N R M en (fun k=>k=R) w):=by
 have HB:Hid (Rd N R M en w l):=h;have HN:Hid (NmS w M names):=hn;have HNE:Hid (∀n∈names,n.data.toList≠[]):=hne;have hMR:M≠R:=h.1.2.2;obtain⟨P,hP⟩:∃P,zAr en (litP en names) l=P:=⟨_,rfl⟩;have HP:Hid (zAr en (litP en names) l=P):=hP;rw[hP];clear h hP hn hne;go_enter Tryz.func267,Tryz.ntmps267
 go_wp2_with fail
 refine (zKB N R M en 268 (litP en names) (fun w=>NmS w M names) (zJV en names) w.heap.size (zQf _ _ _ _ _ names HN.out.lt hMR HNE.out) w (Nat.le_refl _) l HB.out HN.out HB.out.len).mono ?_
 intro e w1 hp;rw[HP.out] at hp;cases P with
 | bad x er =>
   obtain⟨rfl,hfr⟩:=hp;go_wp2
   exact⟨rfl,rfl,hfr⟩
 | ok xs r =>
   obtain⟨v,rfl,⟨ho,_⟩,hrd,hfr⟩:=hp;have HO:Hid (w1.ownsRow w.heap.size 76 3 v xs.length (xs.flatMap litC)):=ho;obtain⟨av,cv,hv⟩:=zAC ho;subst hv;clear ho;go_wp2
   go_ret
   exact⟨_,rfl,HO.out,hrd,hfr⟩
theorem zKH:zC6 varW:=by unfold zC6 varW;simp[go_sem]
theorem zKI:zC6 colW:=by unfold zC6 colW;simp[go_sem]
theorem zId:zC6 zEJ:=by unfold zC6 zEJ;simp[go_sem]
theorem zDD:zC6 zB6:=by unfold zC6 zB6;simp[go_sem]
theorem zKJ:zC6 conW:=by unfold zC6 conW;simp[go_sem]
theorem zLU:zC6 zBy:=by unfold zC6 zBy;simp[go_sem]
theorem zOs (N R M:Nat) (en:Int) (names:List ByteArray) (w:World) (l:List Tok) (h:Rd N R M en w l) (hn:NmS w M names) (hne:∀n∈names,n.data.toList≠[]) :
 Calls Tryz.prog 223 #[.pointer (some ⟨R,0,none⟩)] w (zB7 (zNX en names l) (fun i v _=>v=.tuple #[.int .i64 i.1,.int .i64 i.2]) N R M en (fun k=>k=R) w):=by
 have HB:Hid (Rd N R M en w l):=h;have HN:Hid (NmS w M names):=hn;have HNE:Hid (∀n∈names,n.data.toList≠[]):=hne;have hMR:M≠R:=h.1.2.2;obtain⟨P,hP⟩:∃P,zNX en names l=P:=⟨_,rfl⟩;have HP:Hid (P=(zAY en zBy l).bind fun _ l=>(zC0 en zDX l).bind fun g l=>if g=0 then (zAY en zB6 l).bind fun _ l=>.ok (g,0) l else (zA1 en names l).bind fun v l=>(zAY en zB6 l).bind fun _ l=>.ok (g,v) l):=by show _=_;rw[←hP];rfl
 rw[hP];clear h hP hn hne;go_enter Tryz.func223,Tryz.ntmps223
 go_wp2_with fail
 refine (zAp N R M en zBy zLU w l HB.out).mono ?_;intro e w1 hp;cases hs:zAY en zBy l with
 | bad x er =>
   rw[hs] at hp;obtain⟨rfl,hfr⟩:=hp;have HPB:Hid (P=.bad x er):=by show _=_;rw[HP.out,hs];rfl
   clear hs;go_wp2
   exact⟨rfl,by rw[HPB.out];exact⟨rfl,hfr⟩⟩
 | ok t q =>
   rw[hs] at hp;obtain⟨v,rfl,rfl,hrd,hfr⟩:=hp;have HR1:Hid (Rd N R M en w1 q):=hrd;have HF1:Hid (Fr (fun k=>k=R) w w1):=hfr
   have HN1:Hid (NmS w1 M names):=HN.out.old (hfr.block M HN.out.lt hMR);have HP1:Hid (P=(zC0 en zDX q).bind fun g l=>if g=0 then (zAY en zB6 l).bind fun _ l=>.ok (g,0) l else (zA1 en names l).bind fun v l=>(zAY en zB6 l).bind fun _ l=>.ok (g,v) l):=by show _=_;rw[HP.out,hs];rfl
   clear hs hrd hfr HP;go_wp2_with fail
   refine (zHN w1).mono ?_;rintro e w2 ⟨sv,rfl,hsv,hb2⟩;have HSV:Hid (SArg w2 sv zDX):=hsv;obtain⟨as_,cs_,rfl,_,_⟩:=hsv;have HR2:Hid (Rd N R M en w2 q):=HR1.out.below hb2;have HF2:Hid (Fr (fun k=>k=R) w w2):=HF1.out.trans (Fr.below hb2)
   have HN2:Hid (NmS w2 M names):=HN1.out.old (hb2.block M HN1.out.lt);clear hb2;go_wp2_with fail
   refine (zHK N R M en zDX _ w2 q HR2.out HSV.out).mono ?_;intro e w3 hp;cases hs:zC0 en zDX q with
   | bad x er =>
     rw[hs] at hp;obtain⟨rfl,hfr⟩:=hp;have hfr2:=HF2.out.trans hfr;have HPB:Hid (P=.bad x er):=by show _=_;rw[HP1.out,hs];rfl
     clear hs hfr;go_wp2
     exact⟨rfl,by rw[HPB.out];exact⟨rfl,hfr2⟩⟩
   | ok g q2 =>
     rw[hs] at hp;obtain⟨v,rfl,rfl,hrd,hfr⟩:=hp;have HR3:Hid (Rd N R M en w3 q2):=hrd;have HF3:Hid (Fr (fun k=>k=R) w w3):=HF2.out.trans hfr
     have HN3:Hid (NmS w3 M names):=HN2.out.old (hfr.block M HN2.out.lt hMR);have HP2:Hid (P=if g=0 then (zAY en zB6 q2).bind fun _ l=>.ok (g,0) l else (zA1 en names q2).bind fun v l=>(zAY en zB6 l).bind fun _ l=>.ok (g,v) l):=by show _=_;rw[HP1.out,hs];rfl
     clear hs hrd hfr HP1;by_cases hg:g=0
     ·subst hg
      have HP3:Hid (P=(zAY en zB6 q2).bind fun _ l=>.ok (0,0) l):=by show _=_;rw[HP2.out,if_pos rfl]
      clear HP2;go_wp2_with fail
      refine (zAp N R M en zB6 zDD w3 q2 HR3.out).mono ?_;intro e w4 hp;cases hs:zAY en zB6 q2 with
      | bad x er =>
        rw[hs] at hp;obtain⟨rfl,hfr⟩:=hp;have hfr2:=HF3.out.trans hfr;have HPB:Hid (P=.bad x er):=by show _=_;rw[HP3.out,hs];rfl
        clear hs hfr;go_wp2
        exact⟨rfl,by rw[HPB.out];exact⟨rfl,hfr2⟩⟩
      | ok t3 q3 =>
        rw[hs] at hp;obtain⟨v,rfl,rfl,hrd,hfr⟩:=hp;have hfr2:=HF3.out.trans hfr;have HPB:Hid (P=.ok (0,0) q3):=by show _=_;rw[HP3.out,hs];rfl
        clear hs hfr;go_wp2
        go_ret2
        rw[HPB.out];exact⟨_,rfl,rfl,hrd,hfr2⟩
     ·have HP3:Hid (P=(zA1 en names q2).bind fun v l=>(zAY en zB6 l).bind fun _ l=>.ok (g,v) l):=by show _=_;rw[HP2.out,if_neg hg]
      have hg2:(g != 0)=true:=by simpa using hg
      clear HP2 hg;go_wp2_with fail
      refine (zCk N R M en names w3 q2 HR3.out HN3.out HNE.out).mono ?_;intro e w4 hp;cases hs:zA1 en names q2 with
      | bad x er =>
        rw[hs] at hp;obtain⟨rfl,hfr⟩:=hp;have hfr2:=HF3.out.trans hfr;have HPB:Hid (P=.bad x er):=by show _=_;rw[HP3.out,hs];rfl
        clear hs hfr;go_wp2
        exact⟨rfl,by rw[HPB.out];exact⟨rfl,hfr2⟩⟩
      | ok a q3 =>
        rw[hs] at hp;obtain⟨v,rfl,rfl,hrd,hfr⟩:=hp;have HR4:Hid (Rd N R M en w4 q3):=hrd;have HF4:Hid (Fr (fun k=>k=R) w w4):=HF3.out.trans hfr
        have HP4:Hid (P=(zAY en zB6 q3).bind fun _ l=>.ok (g,a) l):=by show _=_;rw[HP3.out,hs];rfl
        clear hs hrd hfr HP3;go_wp2_with fail
        refine (zAp N R M en zB6 zDD w4 q3 HR4.out).mono ?_;intro e w5 hp;cases hs:zAY en zB6 q3 with
        | bad x er =>
          rw[hs] at hp;obtain⟨rfl,hfr⟩:=hp;have hfr2:=HF4.out.trans hfr;have HPB:Hid (P=.bad x er):=by show _=_;rw[HP4.out,hs];rfl
          clear hs hfr;go_wp2
          exact⟨rfl,by rw[HPB.out];exact⟨rfl,hfr2⟩⟩
        | ok t4 q4 =>
          rw[hs] at hp;obtain⟨v,rfl,rfl,hrd,hfr⟩:=hp;have hfr2:=HF4.out.trans hfr;have HPB:Hid (P=.ok (g,a) q4):=by show _=_;rw[HP4.out,hs];rfl
          clear hs hfr;go_wp2
          go_ret2
          rw[HPB.out];exact⟨_,rfl,rfl,hrd,hfr2⟩
open Go.RowKit Go.Maps
theorem NmS.next {w:World} {M:Nat} {l:List ByteArray} (n:ByteArray) (h:NmS w M l) (hn:n.size≤maxLen) (hl:l.length≤4000) :
 ∃w',Sem.run Tryz.prog (Instr.mapUpdate 207 (.map (some M)) (.string n) (.int .i64 (l.length:Int))) w=.ok () w'∧NmS w' M (l++[n])∧w.grownBy w' (some M):=by
 obtain⟨w',hrun,hown,ht⟩:=World.ownsMap.store h Tryz.strKeyed Tryz.underNames (by unfold maxLen;omega) (WideMaps.keyOf_string_mk Tryz.underlying9 hn) (plainElem_int (H:=Unit) (a:=(l.length:Int)) Tryz.underlying3 (WalkArith.wf_i64 (by omega)))
 exact⟨w',hrun,by unfold NmS;rw[zJY,List.length_append];exact hown,ht.grown⟩
abbrev XRM (R M:Nat):Nat→Prop:=fun k=>k=R∨k=M
theorem Fr.toRM {R M:Nat} {w w':World} (h:Fr (fun k=>k=R) w w'):Fr (XRM R M) w w':=h.weak fun _ hk=>Or.inl hk
theorem zNd (N R M:Nat) (en:Int) (names:List ByteArray) (w:World) (l:List Tok) (h:Rd N R M en w l) (hn:NmS w M names) (hlen:names.length≤4000) (hNM:N≤M) :
 Calls Tryz.prog 221 #[.pointer (some ⟨R,0,none⟩),.int .i64 (names.length:Int)] w (zB7 (zDz en l) (fun x v w'=>v=.agg #[.string x.name,.int .i64 x.lo,.int .i64 x.hi]∧x.name.size≤maxLen∧NmS w' M (names++[x.name])) N R M en (XRM R M) w):=by
 have HB:Hid (Rd N R M en w l):=h;have HN:Hid (NmS w M names):=hn;have HLN:Hid (names.length≤4000):=hlen;have hMR:M≠R:=h.1.2.2;have hRw:R<w.heap.size:=by obtain⟨_,_,hR,_⟩:=h;exact (Array.getElem?_eq_some_iff.1 hR).1
 have hMw:M<w.heap.size:=hn.lt;have hNw:N≤w.heap.size:=h.1.2.1;obtain⟨P,hP⟩:∃P,zDz en l=P:=⟨_,rfl⟩;have HP0:Hid (P=(zAY en varW l).bind fun _ l=>(zC5 en l).bind fun n l=>(zAY en colW l).bind fun _ l=>(zAP en l).bind fun lo l=>(zAY en zEJ l).bind fun _ l=>(zAP en l).bind fun hi l=>(zAY en zB6 l).bind fun _ l=>.ok ⟨n,lo,hi⟩ l):=by show _=_;rw[←hP];rfl
 rw[hP];clear h hP hn hlen;obtain⟨nl,hnl⟩:∃nl:Int,nl=(names.length:Int):=⟨_,rfl⟩;rw[←hnl];have HNL:Hid (nl=(names.length:Int)):=hnl;clear hnl;go_enter Tryz.func221,Tryz.ntmps221
 go_wp2_with fail
 have HR0:=HB.out.below (zAA w (.cells #[.string ⟨#[]⟩,.int .i64 0,.int .i64 0] 67));have HN0:Hid (NmS (w.alloc (.cells #[.string ⟨#[]⟩,.int .i64 0,.int .i64 0] 67)) M names):=HN.out.old ((zAA w _).block M hMw);have HF0:Hid (Fr (XRM R M) w (w.alloc (.cells #[.string ⟨#[]⟩,.int .i64 0,.int .i64 0] 67))):=Fr.below (zAA _ _);have HQ0:Hid ((w.alloc (.cells #[.string ⟨#[]⟩,.int .i64 0,.int .i64 0] 67)).heap[w.heap.size]? = some (.cells #[.string ⟨#[]⟩,.int .i64 0,.int .i64 0] 67)):=by show (w.heap.push _)[w.heap.size]? = _;simp
 refine (zAp N R M en varW zKH _ l HR0).mono ?_;intro e w1 hp;cases hs:zAY en varW l with
 | bad x er =>
   rw[hs] at hp;obtain⟨rfl,hfr⟩:=hp;have hfr2:=HF0.out.trans hfr.toRM;have HPB:Hid (P=.bad x er):=by show _=_;rw[HP0.out,hs];rfl
   clear hs hfr HR0;go_wp2
   exact⟨rfl,by rw[HPB.out];exact⟨rfl,hfr2⟩⟩
 | ok t1 q1 =>
   rw[hs] at hp;obtain⟨v,rfl,rfl,hrd,hfr⟩:=hp;have HR1:Hid (Rd N R M en w1 q1):=hrd;have HF1:Hid (Fr (XRM R M) w w1):=HF0.out.trans hfr.toRM;have HN1:Hid (NmS w1 M names):=HN0.out.old (hfr.block M HN0.out.lt hMR);have HQ1:Hid (w1.heap[w.heap.size]? = some (.cells #[.string ⟨#[]⟩,.int .i64 0,.int .i64 0] 67)):=(hfr.block _ (Array.getElem?_eq_some_iff.1 HQ0.out).1 (by omega)).trans HQ0.out
   have HP1:Hid (P=(zC5 en q1).bind fun n l=>(zAY en colW l).bind fun _ l=>(zAP en l).bind fun lo l=>(zAY en zEJ l).bind fun _ l=>(zAP en l).bind fun hi l=>(zAY en zB6 l).bind fun _ l=>.ok ⟨n,lo,hi⟩ l):=by show _=_;rw[HP0.out,hs];rfl
   clear hs hrd hfr HR0 HN0 HF0 HQ0 HP0;go_wp2_with fail
   refine (zLQ N R M en w1 q1 HR1.out).mono ?_;intro e w2 hp;cases hs:zC5 en q1 with
   | bad x er =>
     rw[hs] at hp;obtain⟨rfl,hfr⟩:=hp;have hfr2:=HF1.out.trans hfr.toRM;have HPB:Hid (P=.bad x er):=by show _=_;rw[HP1.out,hs];rfl
     clear hs hfr;go_wp2
     exact⟨rfl,by rw[HPB.out];exact⟨rfl,hfr2⟩⟩
   | ok n q2 =>
     rw[hs] at hp;obtain⟨v,rfl,⟨rfl,hsz⟩,hrd,hfr⟩:=hp;have HSZ:Hid (n.size≤maxLen):=hsz;have hsz2:w.heap.size<w2.heap.size:=Nat.lt_of_lt_of_le (Array.getElem?_eq_some_iff.1 HQ1.out).1 hfr.size;obtain⟨W,hW⟩:∃W,W=w2.alloc (.cells #[.string n,.int .i64 0,.int .i64 0] 67):=⟨_,rfl⟩;have hbw:Below w2.heap.size w2 W:=by rw[hW];exact zAA _ _
     have HRW:Hid (Rd N R M en W q2):=hrd.below hbw;have HFW:Hid (Fr (XRM R M) w W):=(HF1.out.trans hfr.toRM).trans (Fr.below hbw);have HNW:Hid (NmS W M names):=(HN1.out.old (hfr.block M HN1.out.lt hMR)).old (hbw.block M (Nat.lt_of_lt_of_le hMw (Nat.le_of_lt (Nat.lt_of_lt_of_le hsz2 (Nat.le_refl _)))));have HQW:Hid (W.heap[w.heap.size]? = some (.cells #[.string ⟨#[]⟩,.int .i64 0,.int .i64 0] 67)):=(hbw.block _ hsz2).trans ((hfr.block _ (Array.getElem?_eq_some_iff.1 HQ1.out).1 (by omega)).trans HQ1.out)
     have HVW:Hid (W.heap[w2.heap.size]? = some (.cells #[.string n,.int .i64 0,.int .i64 0] 67)):=by show _=_;rw[hW];show (w2.heap.push _)[w2.heap.size]? = _;simp
     have HP2:Hid (P=(zAY en colW q2).bind fun _ l=>(zAP en l).bind fun lo l=>(zAY en zEJ l).bind fun _ l=>(zAP en l).bind fun hi l=>(zAY en zB6 l).bind fun _ l=>.ok ⟨n,lo,hi⟩ l):=by show _=_;rw[HP1.out,hs];rfl
     obtain⟨w3,hrun,hnm3,hgr⟩:=NmS.next (w:=W.drew) n (HNW.out.old rfl) HSZ.out HLN.out;rw[←HNL.out] at hrun;have HG:Hid (∀k,k<W.heap.size→k≠M→w3.heap[k]? = W.heap[k]?):=fun k hk hne=>hgr.block k hk (fun e=>hne (Option.some.inj e))
     have HRd:=HRW.out;obtain⟨_,vr,hR,right⟩:=HRd;have cR:W.cell? ⟨R,2,none⟩=some (.map (some M)):=by rw[Lib.cell_of_heap hR];rfl
     have cV:W.cell? ⟨w2.heap.size,0,none⟩=some (.string n):=blk9 HVW.out 0 _ rfl;have hMW:M<W.heap.size:=HNW.out.lt;have hRW:R<W.heap.size:=(Array.getElem?_eq_some_iff.1 hR).1;have hVW:w2.heap.size<W.heap.size:=(Array.getElem?_eq_some_iff.1 HVW.out).1;have hVM:w2.heap.size≠M:=by omega
     have fR:w3.cell? ⟨R,2,none⟩=some (.map (some M)):=(World.cell?_of_block (HG.out R hRW (Ne.symm hMR))).trans cR;have fV:w3.cell? ⟨w2.heap.size,0,none⟩=some (.string n):=(World.cell?_of_block (HG.out w2.heap.size hVW hVM)).trans cV;have HR3:Hid (Rd N R M en w3 q2):=(HRW.out.below (w':=W.drew) (Below.refl _ _).drew).grown hgr (fun k hk=>by cases hk;exact⟨hMR,hNM⟩)
     have HF3:Hid (Fr (XRM R M) w w3):=(HFW.out.trans (Fr.below (w':=W.drew) (Below.refl _ _).drew)).grown hgr (fun k hk=>by cases hk;exact Or.inl (Or.inr rfl))
     have HN3:Hid (NmS w3 M (names++[n])):=hnm3;have hSM:w.heap.size≠M:=by omega
     have HQ3:Hid (w3.heap[w.heap.size]? = some (.cells #[.string ⟨#[]⟩,.int .i64 0,.int .i64 0] 67)):=(HG.out _ (Array.getElem?_eq_some_iff.1 HQW.out).1 hSM).trans HQW.out;have HV3:Hid (w3.heap[w2.heap.size]? = some (.cells #[.string n,.int .i64 0,.int .i64 0] 67)):=(HG.out _ hVW hVM).trans HVW.out;clear hs hrd hfr HR1 HN1 HF1 HQ1 HP1 hbw hsz hR HRW HFW HNW HQW HVW HG hgr hnm3;subst hW;go_wp2_with fail
     go_region_held3 (fun w'=>w'.cell? ⟨R,2,none⟩=some (.map (some M))∧w'.cell? ⟨w2.heap.size,0,none⟩=some (.string n)) (first | exact⟨cR,cV⟩ | exact⟨fR,fV⟩) (fail)
     clear cR cV fR fV hrun hMW hRW hVW right;go_wp2_with fail
     refine (zAp N R M en colW zKI w3 q2 HR3.out).mono ?_;intro e w4 hp;cases hs:zAY en colW q2 with
     | bad x er =>
       rw[hs] at hp;obtain⟨rfl,hfr⟩:=hp;have hfr2:=HF3.out.trans hfr.toRM;have HPB:Hid (P=.bad x er):=by show _=_;rw[HP2.out,hs];rfl
       clear hs hfr;go_wp2
       exact⟨rfl,by rw[HPB.out];exact⟨rfl,hfr2⟩⟩
     | ok t4 q3 =>
       rw[hs] at hp;obtain⟨v,rfl,rfl,hrd,hfr⟩:=hp;have HR4:Hid (Rd N R M en w4 q3):=hrd;have HF4:Hid (Fr (XRM R M) w w4):=HF3.out.trans hfr.toRM;have HN4:Hid (NmS w4 M (names++[n])):=HN3.out.old (hfr.block M HN3.out.lt hMR);have HQ4:Hid (w4.heap[w.heap.size]? = some (.cells #[.string ⟨#[]⟩,.int .i64 0,.int .i64 0] 67)):=(hfr.block _ (Array.getElem?_eq_some_iff.1 HQ3.out).1 (by omega)).trans HQ3.out
       have HV4:Hid (w4.heap[w2.heap.size]? = some (.cells #[.string n,.int .i64 0,.int .i64 0] 67)):=(hfr.block _ (Array.getElem?_eq_some_iff.1 HV3.out).1 (by omega)).trans HV3.out
       have HP3:Hid (P=(zAP en q3).bind fun lo l=>(zAY en zEJ l).bind fun _ l=>(zAP en l).bind fun hi l=>(zAY en zB6 l).bind fun _ l=>.ok ⟨n,lo,hi⟩ l):=by show _=_;rw[HP2.out,hs];rfl
       clear hs hrd hfr HR3 HF3 HN3 HQ3 HV3 HP2;go_wp2_with fail
       refine (zDp N R M en w4 q3 HR4.out).mono ?_;intro e w5 hp;cases hs:zAP en q3 with
       | bad x er =>
         rw[hs] at hp;obtain⟨rfl,hfr⟩:=hp;have hfr2:=HF4.out.trans hfr.toRM;have HPB:Hid (P=.bad x er):=by show _=_;rw[HP3.out,hs];rfl
         clear hs hfr;go_wp2
         exact⟨rfl,by rw[HPB.out];exact⟨rfl,hfr2⟩⟩
       | ok lo q4 =>
         rw[hs] at hp;obtain⟨v,rfl,⟨rfl,hlo,hhi⟩,hrd,hfr⟩:=hp;have HR5:Hid (Rd N R M en w5 q4):=hrd;have HF5:Hid (Fr (XRM R M) w w5):=HF4.out.trans hfr.toRM;have HN5:Hid (NmS w5 M (names++[n])):=HN4.out.old (hfr.block M HN4.out.lt hMR);have HQ5:Hid (w5.heap[w.heap.size]? = some (.cells #[.string ⟨#[]⟩,.int .i64 0,.int .i64 0] 67)):=(hfr.block _ (Array.getElem?_eq_some_iff.1 HQ4.out).1 (by omega)).trans HQ4.out
         have HV5:Hid (w5.heap[w2.heap.size]? = some (.cells #[.string n,.int .i64 0,.int .i64 0] 67)):=(hfr.block _ (Array.getElem?_eq_some_iff.1 HV4.out).1 (by omega)).trans HV4.out
         have HP4:Hid (P=(zAY en zEJ q4).bind fun _ l=>(zAP en l).bind fun hi l=>(zAY en zB6 l).bind fun _ l=>.ok ⟨n,lo,hi⟩ l):=by show _=_;rw[HP3.out,hs];rfl
         clear hs hrd hfr HR4 HF4 HN4 HQ4 HV4 HP3;have r5:=blk9 HV5.out 1 _ rfl;have z5:=frz9 HV5.out 1;have HR55:Hid (Rd N R M en (w5.setCell ⟨w2.heap.size,1,none⟩ (.int .i64 lo)) q4):=HR5.out.set (p:=⟨w2.heap.size,1,none⟩) (show w2.heap.size≠R by omega) (show N≤w2.heap.size by omega) _
         have HF55:Hid (Fr (XRM R M) w (w5.setCell ⟨w2.heap.size,1,none⟩ (.int .i64 lo))):=HF5.out.setNew (p:=⟨w2.heap.size,1,none⟩) (Nat.le_of_lt hsz2) _;have HN55:Hid (NmS (w5.setCell ⟨w2.heap.size,1,none⟩ (.int .i64 lo)) M (names++[n])):=HN5.out.old (Below.heap_setCell _ _ _ _ (show M≠w2.heap.size from Ne.symm hVM))
         have HQ55:Hid ((w5.setCell ⟨w2.heap.size,1,none⟩ (.int .i64 lo)).heap[w.heap.size]? = some (.cells #[.string ⟨#[]⟩,.int .i64 0,.int .i64 0] 67)):=(Below.heap_setCell _ _ _ _ (show w.heap.size≠w2.heap.size by omega)).trans HQ5.out
         have HV55:Hid ((w5.setCell ⟨w2.heap.size,1,none⟩ (.int .i64 lo)).heap[w2.heap.size]? = some (.cells #[.string n,.int .i64 lo,.int .i64 0] 67)):=by show _=_;rw[heap_setCell_same w5 w2.heap.size 1 _ _ _ HV5.out];rfl
         clear HR5 HF5 HN5 HQ5 HV5;go_wp2_with fail
         refine (zAp N R M en zEJ zId _ q4 HR55.out).mono ?_;intro e w6 hp;cases hs:zAY en zEJ q4 with
         | bad x er =>
           rw[hs] at hp;obtain⟨rfl,hfr⟩:=hp;have hfr2:=HF55.out.trans hfr.toRM;have HPB:Hid (P=.bad x er):=by show _=_;rw[HP4.out,hs];rfl
           clear hs hfr;go_wp2
           exact⟨rfl,by rw[HPB.out];exact⟨rfl,hfr2⟩⟩
         | ok t6 q5 =>
           rw[hs] at hp;obtain⟨v,rfl,rfl,hrd,hfr⟩:=hp;have HR6:Hid (Rd N R M en w6 q5):=hrd;have HF6:Hid (Fr (XRM R M) w w6):=HF55.out.trans hfr.toRM;have HN6:Hid (NmS w6 M (names++[n])):=HN55.out.old (hfr.block M HN55.out.lt hMR);have HQ6:Hid (w6.heap[w.heap.size]? = some (.cells #[.string ⟨#[]⟩,.int .i64 0,.int .i64 0] 67)):=(hfr.block _ (Array.getElem?_eq_some_iff.1 HQ55.out).1 (by omega)).trans HQ55.out
           have HV6:Hid (w6.heap[w2.heap.size]? = some (.cells #[.string n,.int .i64 lo,.int .i64 0] 67)):=(hfr.block _ (Array.getElem?_eq_some_iff.1 HV55.out).1 (by omega)).trans HV55.out
           have HP5:Hid (P=(zAP en q5).bind fun hi l=>(zAY en zB6 l).bind fun _ l=>.ok ⟨n,lo,hi⟩ l):=by show _=_;rw[HP4.out,hs];rfl
           clear hs hrd hfr HR55 HF55 HN55 HQ55 HV55 HP4;clear r5 z5;go_wp2_with fail
           refine (zDp N R M en w6 q5 HR6.out).mono ?_;intro e w7 hp;cases hs:zAP en q5 with
           | bad x er =>
             rw[hs] at hp;obtain⟨rfl,hfr⟩:=hp;have hfr2:=HF6.out.trans hfr.toRM;have HPB:Hid (P=.bad x er):=by show _=_;rw[HP5.out,hs];rfl
             clear hs hfr;go_wp2
             exact⟨rfl,by rw[HPB.out];exact⟨rfl,hfr2⟩⟩
           | ok hi q6 =>
             rw[hs] at hp;obtain⟨v,rfl,⟨rfl,hlo,hhi⟩,hrd,hfr⟩:=hp;have HR7:Hid (Rd N R M en w7 q6):=hrd;have HF7:Hid (Fr (XRM R M) w w7):=HF6.out.trans hfr.toRM;have HN7:Hid (NmS w7 M (names++[n])):=HN6.out.old (hfr.block M HN6.out.lt hMR);have HQ7:Hid (w7.heap[w.heap.size]? = some (.cells #[.string ⟨#[]⟩,.int .i64 0,.int .i64 0] 67)):=(hfr.block _ (Array.getElem?_eq_some_iff.1 HQ6.out).1 (by omega)).trans HQ6.out
             have HV7:Hid (w7.heap[w2.heap.size]? = some (.cells #[.string n,.int .i64 lo,.int .i64 0] 67)):=(hfr.block _ (Array.getElem?_eq_some_iff.1 HV6.out).1 (by omega)).trans HV6.out
             have HP6:Hid (P=(zAY en zB6 q6).bind fun _ l=>.ok ⟨n,lo,hi⟩ l):=by show _=_;rw[HP5.out,hs];rfl
             clear hs hrd hfr HR6 HF6 HN6 HQ6 HV6 HP5;have r7:=blk9 HV7.out 2 _ rfl;have z7:=frz9 HV7.out 2;have HR77:Hid (Rd N R M en (w7.setCell ⟨w2.heap.size,2,none⟩ (.int .i64 hi)) q6):=HR7.out.set (p:=⟨w2.heap.size,2,none⟩) (show w2.heap.size≠R by omega) (show N≤w2.heap.size by omega) _
             have HF77:Hid (Fr (XRM R M) w (w7.setCell ⟨w2.heap.size,2,none⟩ (.int .i64 hi))):=HF7.out.setNew (p:=⟨w2.heap.size,2,none⟩) (Nat.le_of_lt hsz2) _;have HN77:Hid (NmS (w7.setCell ⟨w2.heap.size,2,none⟩ (.int .i64 hi)) M (names++[n])):=HN7.out.old (Below.heap_setCell _ _ _ _ (show M≠w2.heap.size from Ne.symm hVM))
             have HQ77:Hid ((w7.setCell ⟨w2.heap.size,2,none⟩ (.int .i64 hi)).heap[w.heap.size]? = some (.cells #[.string ⟨#[]⟩,.int .i64 0,.int .i64 0] 67)):=(Below.heap_setCell _ _ _ _ (show w.heap.size≠w2.heap.size by omega)).trans HQ7.out
             have HV77:Hid ((w7.setCell ⟨w2.heap.size,2,none⟩ (.int .i64 hi)).heap[w2.heap.size]? = some (.cells #[.string n,.int .i64 lo,.int .i64 hi] 67)):=by show _=_;rw[heap_setCell_same w7 w2.heap.size 2 _ _ _ HV7.out];rfl
             clear HR7 HF7 HN7 HQ7 HV7;go_wp2_with fail
             refine (zAp N R M en zB6 zDD _ q6 HR77.out).mono ?_;intro e w8 hp;cases hs:zAY en zB6 q6 with
             | bad x er =>
               rw[hs] at hp;obtain⟨rfl,hfr⟩:=hp;have hfr2:=HF77.out.trans hfr.toRM;have HPB:Hid (P=.bad x er):=by show _=_;rw[HP6.out,hs];rfl
               clear hs hfr;go_wp2
               exact⟨rfl,by rw[HPB.out];exact⟨rfl,hfr2⟩⟩
             | ok t8 q7 =>
               rw[hs] at hp;obtain⟨v,rfl,rfl,hrd,hfr⟩:=hp;have HR8:Hid (Rd N R M en w8 q7):=hrd;have HF8:Hid (Fr (XRM R M) w w8):=HF77.out.trans hfr.toRM;have HN8:Hid (NmS w8 M (names++[n])):=HN77.out.old (hfr.block M HN77.out.lt hMR);have HQ8:Hid (w8.heap[w.heap.size]? = some (.cells #[.string ⟨#[]⟩,.int .i64 0,.int .i64 0] 67)):=(hfr.block _ (Array.getElem?_eq_some_iff.1 HQ77.out).1 (by omega)).trans HQ77.out
               have HV8:Hid (w8.heap[w2.heap.size]? = some (.cells #[.string n,.int .i64 lo,.int .i64 hi] 67)):=(hfr.block _ (Array.getElem?_eq_some_iff.1 HV77.out).1 (by omega)).trans HV77.out
               have HP7:Hid (P=.ok ⟨n,lo,hi⟩ q7):=by show _=_;rw[HP6.out,hs];rfl
               clear hs hrd hfr HR77 HF77 HN77 HQ77 HV77 HP6;clear r7 z7;have a0:=blk9 HV8.out 0 _ rfl;have a1:=blk9 HV8.out 1 _ rfl;have a2:=blk9 HV8.out 2 _ rfl;have b0:=blk9 HQ8.out 0 _ rfl;have b1:=blk9 HQ8.out 1 _ rfl;have b2:=blk9 HQ8.out 2 _ rfl;have z0:=frz9 HQ8.out 0;have z1:=frz9 HQ8.out 1;have z2:=frz9 HQ8.out 2;have hne2:w.heap.size≠R:=by omega
               have hMS:M≠w.heap.size:=by omega
               clear HQ8 HV8;go_wp2
               refine bodyPost_ret (by simp[results,Tryz.results221,go_sem, *];try rfl) rfl ?_
               rw[HP7.out];refine⟨_,rfl,⟨rfl,HSZ.out,?_⟩,?_,?_⟩
               ·exact HN8.out.old ((Below.heap_setCell _ _ _ _ (by exact hMS)).trans ((Below.heap_setCell _ _ _ _ (by exact hMS)).trans (Below.heap_setCell _ _ _ _ (by exact hMS))))
               ·exact ((HR8.out.set (p:=⟨w.heap.size,0,none⟩) hne2 hNw _).set (p:=⟨w.heap.size,1,none⟩) hne2 hNw _).set (p:=⟨w.heap.size,2,none⟩) hne2 hNw _
               ·exact ((HF8.out.setNew (p:=⟨w.heap.size,0,none⟩) (Nat.le_refl _) _).setNew (p:=⟨w.heap.size,1,none⟩) (Nat.le_refl _) _).setNew (p:=⟨w.heap.size,2,none⟩) (Nat.le_refl _) _
end Go.Proofs.YtndcpnlaadikoaaGreatDoor
