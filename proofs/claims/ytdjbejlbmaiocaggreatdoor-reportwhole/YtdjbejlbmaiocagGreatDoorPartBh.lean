/- What the proof leans on, part 34. -/
import Derived.Test.YtdjbejlbmaiocagGreatDoorPartBg
namespace Go.Proofs.YtdjbejlbmaiocagGreatDoor
open Go.RowKit
theorem zLS:zDH varW:=by unfold zDH varW;simp[go_sem]
theorem zLT:zDH colW:=by unfold zDH colW;simp[go_sem]
theorem zJZ:zDH zCF:=by unfold zDH zCF;simp[go_sem]
theorem zDP:zDH zA5:=by unfold zDH zA5;simp[go_sem]
theorem zLU:zDH conW:=by unfold zDH conW;simp[go_sem]
theorem zMn:zDH zBo:=by unfold zDH zBo;simp[go_sem]
set_option maxHeartbeats 1600000 in
set_option maxRecDepth 100000 in
theorem zQh (N R M:Nat) (en:Int) (names:List ByteArray) (w:World) (l:List Tok) (h:Rd N R M en w l) (hn:NmS w M names) (hne:∀n∈names,n.data.toList≠[]) :
 Calls Tryz.prog 178 #[.pointer (some ⟨R,0,none⟩)] w (zCU (zLH en names l) (fun i v _=>v=.tuple #[.int .i64 i.1,.int .i64 i.2]) N R M en (fun k=>k=R) w):=by
 have HB:Hid (Rd N R M en w l):=h
 have HN:Hid (NmS w M names):=hn
 have HNE:Hid (∀n∈names,n.data.toList≠[]):=hne
 have hMR:M≠R:=h.1.2.2
 obtain⟨P,hP⟩:∃P,zLH en names l=P:=⟨_,rfl⟩
 have HP:Hid (P=(zAN en zBo l).bind fun _ l=>(zCI en zCk l).bind fun g l=>if g=0 then (zAN en zA5 l).bind fun _ l=>.ok (g,0) l else (zAh en names l).bind fun v l=>(zAN en zA5 l).bind fun _ l=>.ok (g,v) l):=by show _=_;rw[←hP];rfl
 rw[hP]
 clear h hP hn hne
 go_enter Tryz.func178,Tryz.ntmps178
 go_wp2_with fail
 refine (zAp N R M en zBo zMn w l HB.out).mono ?_
 intro e w1 hp
 cases hs:zAN en zBo l with
 | bad x er =>
   rw[hs] at hp
   obtain⟨rfl,hfr⟩:=hp
   have HPB:Hid (P=.bad x er):=by show _=_;rw[HP.out,hs];rfl
   clear hs
   go_wp2
   exact⟨rfl,by rw[HPB.out];exact⟨rfl,hfr⟩⟩
 | ok t q =>
   rw[hs] at hp
   obtain⟨v,rfl,rfl,hrd,hfr⟩:=hp
   have HR1:Hid (Rd N R M en w1 q):=hrd
   have HF1:Hid (Fr (fun k=>k=R) w w1):=hfr
   have HN1:Hid (NmS w1 M names):=HN.out.old (hfr.block M HN.out.lt hMR)
   have HP1:Hid (P=(zCI en zCk q).bind fun g l=>if g=0 then (zAN en zA5 l).bind fun _ l=>.ok (g,0) l else (zAh en names l).bind fun v l=>(zAN en zA5 l).bind fun _ l=>.ok (g,v) l):=by show _=_;rw[HP.out,hs];rfl
   clear hs hrd hfr HP
   go_wp2_with fail
   refine (zIJ w1).mono ?_
   rintro e w2 ⟨sv,rfl,hsv,hb2⟩
   have HSV:Hid (SArg w2 sv zCk):=hsv
   obtain⟨as_,cs_,rfl,_,_⟩:=hsv
   have HR2:Hid (Rd N R M en w2 q):=HR1.out.below hb2
   have HF2:Hid (Fr (fun k=>k=R) w w2):=HF1.out.trans (Fr.below hb2)
   have HN2:Hid (NmS w2 M names):=HN1.out.old (hb2.block M HN1.out.lt)
   clear hb2
   go_wp2_with fail
   refine (zIG N R M en zCk _ w2 q HR2.out HSV.out).mono ?_
   intro e w3 hp
   cases hs:zCI en zCk q with
   | bad x er =>
     rw[hs] at hp
     obtain⟨rfl,hfr⟩:=hp
     have hfr2:=HF2.out.trans hfr
     have HPB:Hid (P=.bad x er):=by show _=_;rw[HP1.out,hs];rfl
     clear hs hfr
     go_wp2
     exact⟨rfl,by rw[HPB.out];exact⟨rfl,hfr2⟩⟩
   | ok g q2 =>
     rw[hs] at hp
     obtain⟨v,rfl,rfl,hrd,hfr⟩:=hp
     have HR3:Hid (Rd N R M en w3 q2):=hrd
     have HF3:Hid (Fr (fun k=>k=R) w w3):=HF2.out.trans hfr
     have HN3:Hid (NmS w3 M names):=HN2.out.old (hfr.block M HN2.out.lt hMR)
     have HP2:Hid (P=if g=0 then (zAN en zA5 q2).bind fun _ l=>.ok (g,0) l else (zAh en names q2).bind fun v l=>(zAN en zA5 l).bind fun _ l=>.ok (g,v) l):=by show _=_;rw[HP1.out,hs];rfl
     clear hs hrd hfr HP1
     by_cases hg:g=0
     ·subst hg
      have HP3:Hid (P=(zAN en zA5 q2).bind fun _ l=>.ok (0,0) l):=by show _=_;rw[HP2.out,if_pos rfl]
      clear HP2
      go_wp2_with fail
      refine (zAp N R M en zA5 zDP w3 q2 HR3.out).mono ?_
      intro e w4 hp
      cases hs:zAN en zA5 q2 with
      | bad x er =>
        rw[hs] at hp
        obtain⟨rfl,hfr⟩:=hp
        have hfr2:=HF3.out.trans hfr
        have HPB:Hid (P=.bad x er):=by show _=_;rw[HP3.out,hs];rfl
        clear hs hfr
        go_wp2
        exact⟨rfl,by rw[HPB.out];exact⟨rfl,hfr2⟩⟩
      | ok t3 q3 =>
        rw[hs] at hp
        obtain⟨v,rfl,rfl,hrd,hfr⟩:=hp
        have hfr2:=HF3.out.trans hfr
        have HPB:Hid (P=.ok (0,0) q3):=by show _=_;rw[HP3.out,hs];rfl
        clear hs hfr
        go_wp2
        go_ret2
        rw[HPB.out]
        exact⟨_,rfl,rfl,hrd,hfr2⟩
     ·have HP3:Hid (P=(zAh en names q2).bind fun v l=>(zAN en zA5 l).bind fun _ l=>.ok (g,v) l):=by show _=_;rw[HP2.out,if_neg hg]
      have hg2:(g != 0)=true:=by simpa using hg
      clear HP2 hg
      go_wp2_with fail
      refine (zC1 N R M en names w3 q2 HR3.out HN3.out HNE.out).mono ?_
      intro e w4 hp
      cases hs:zAh en names q2 with
      | bad x er =>
        rw[hs] at hp
        obtain⟨rfl,hfr⟩:=hp
        have hfr2:=HF3.out.trans hfr
        have HPB:Hid (P=.bad x er):=by show _=_;rw[HP3.out,hs];rfl
        clear hs hfr
        go_wp2
        exact⟨rfl,by rw[HPB.out];exact⟨rfl,hfr2⟩⟩
      | ok a q3 =>
        rw[hs] at hp
        obtain⟨v,rfl,rfl,hrd,hfr⟩:=hp
        have HR4:Hid (Rd N R M en w4 q3):=hrd
        have HF4:Hid (Fr (fun k=>k=R) w w4):=HF3.out.trans hfr
        have HP4:Hid (P=(zAN en zA5 q3).bind fun _ l=>.ok (g,a) l):=by show _=_;rw[HP3.out,hs];rfl
        clear hs hrd hfr HP3
        go_wp2_with fail
        refine (zAp N R M en zA5 zDP w4 q3 HR4.out).mono ?_
        intro e w5 hp
        cases hs:zAN en zA5 q3 with
        | bad x er =>
          rw[hs] at hp
          obtain⟨rfl,hfr⟩:=hp
          have hfr2:=HF4.out.trans hfr
          have HPB:Hid (P=.bad x er):=by show _=_;rw[HP4.out,hs];rfl
          clear hs hfr
          go_wp2
          exact⟨rfl,by rw[HPB.out];exact⟨rfl,hfr2⟩⟩
        | ok t4 q4 =>
          rw[hs] at hp
          obtain⟨v,rfl,rfl,hrd,hfr⟩:=hp
          have hfr2:=HF4.out.trans hfr
          have HPB:Hid (P=.ok (g,a) q4):=by show _=_;rw[HP4.out,hs];rfl
          clear hs hfr
          go_wp2
          go_ret2
          rw[HPB.out]
          exact⟨_,rfl,rfl,hrd,hfr2⟩
open Go.RowKit Go.Maps
set_option maxRecDepth 100000 in
theorem NmS.next {w:World} {M:Nat} {l:List ByteArray} (n:ByteArray) (h:NmS w M l) (hn:n.size≤maxLen) (hl:l.length≤4000) :
 ∃w',Sem.run Tryz.prog (Instr.mapUpdate 175 (.map (some M)) (.string n) (.int .i64 (l.length:Int))) w=.ok () w'∧NmS w' M (l++[n])∧w.grownBy w' (some M):=by
 obtain⟨w',hrun,hown,ht⟩:=World.ownsMap.store h Tryz.strKeyed Tryz.underNames (by unfold maxLen;omega) (WideMaps.keyOf_string_mk Tryz.underlying9 hn) (plainElem_int (H:=Unit) (a:=(l.length:Int)) Tryz.underlying3 (WalkArith.wf_i64 (by omega)))
 exact⟨w',hrun,by unfold NmS;rw[zKG,List.length_append];exact hown,ht.grown⟩
abbrev XRM (R M:Nat):Nat→Prop:=fun k=>k=R∨k=M
theorem Fr.toRM {R M:Nat} {w w':World} (h:Fr (fun k=>k=R) w w'):Fr (XRM R M) w w':=h.weak fun _ hk=>Or.inl hk
set_option maxHeartbeats 1600000 in
set_option maxRecDepth 100000 in
theorem zOp (N R M:Nat) (en:Int) (names:List ByteArray) (w:World) (l:List Tok) (h:Rd N R M en w l) (hn:NmS w M names) (hlen:names.length≤4000) (hNM:N≤M) :
 Calls Tryz.prog 176 #[.pointer (some ⟨R,0,none⟩),.int .i64 (names.length:Int)] w (zCU (zDz en l) (fun x v w'=>v=.agg #[.string x.name,.int .i64 x.lo,.int .i64 x.hi]∧x.name.size≤maxLen∧NmS w' M (names++[x.name])) N R M en (XRM R M) w):=by
 have HB:Hid (Rd N R M en w l):=h
 have HN:Hid (NmS w M names):=hn
 have HLN:Hid (names.length≤4000):=hlen
 have hMR:M≠R:=h.1.2.2
 have hRw:R<w.heap.size:=by obtain⟨_,_,hR,_⟩:=h;exact (Array.getElem?_eq_some_iff.1 hR).1
 have hMw:M<w.heap.size:=hn.lt
 have hNw:N≤w.heap.size:=h.1.2.1
 obtain⟨P,hP⟩:∃P,zDz en l=P:=⟨_,rfl⟩
 have HP0:Hid (P=(zAN en varW l).bind fun _ l=>(zCL en l).bind fun n l=>(zAN en colW l).bind fun _ l=>(zAJ en l).bind fun lo l=>(zAN en zCF l).bind fun _ l=>(zAJ en l).bind fun hi l=>(zAN en zA5 l).bind fun _ l=>.ok ⟨n,lo,hi⟩ l):=by show _=_;rw[←hP];rfl
 rw[hP]
 clear h hP hn hlen
 obtain⟨nl,hnl⟩:∃nl:Int,nl=(names.length:Int):=⟨_,rfl⟩
 rw[←hnl]
 have HNL:Hid (nl=(names.length:Int)):=hnl
 clear hnl
 go_enter Tryz.func176,Tryz.ntmps176
 go_wp2_with fail
 have HR0:=HB.out.below (zAA w (.cells #[.string ⟨#[]⟩,.int .i64 0,.int .i64 0] 71))
 have HN0:Hid (NmS (w.alloc (.cells #[.string ⟨#[]⟩,.int .i64 0,.int .i64 0] 71)) M names):=HN.out.old ((zAA w _).block M hMw)
 have HF0:Hid (Fr (XRM R M) w (w.alloc (.cells #[.string ⟨#[]⟩,.int .i64 0,.int .i64 0] 71))):=Fr.below (zAA _ _)
 have HQ0:Hid ((w.alloc (.cells #[.string ⟨#[]⟩,.int .i64 0,.int .i64 0] 71)).heap[w.heap.size]? = some (.cells #[.string ⟨#[]⟩,.int .i64 0,.int .i64 0] 71)):=by show (w.heap.push _)[w.heap.size]? = _;simp
 refine (zAp N R M en varW zLS _ l HR0).mono ?_
 intro e w1 hp
 cases hs:zAN en varW l with
 | bad x er =>
   rw[hs] at hp
   obtain⟨rfl,hfr⟩:=hp
   have hfr2:=HF0.out.trans hfr.toRM
   have HPB:Hid (P=.bad x er):=by show _=_;rw[HP0.out,hs];rfl
   clear hs hfr HR0
   go_wp2
   exact⟨rfl,by rw[HPB.out];exact⟨rfl,hfr2⟩⟩
 | ok t1 q1 =>
   rw[hs] at hp
   obtain⟨v,rfl,rfl,hrd,hfr⟩:=hp
   have HR1:Hid (Rd N R M en w1 q1):=hrd
   have HF1:Hid (Fr (XRM R M) w w1):=HF0.out.trans hfr.toRM
   have HN1:Hid (NmS w1 M names):=HN0.out.old (hfr.block M HN0.out.lt hMR)
   have HQ1:Hid (w1.heap[w.heap.size]? = some (.cells #[.string ⟨#[]⟩,.int .i64 0,.int .i64 0] 71)):=(hfr.block _ (Array.getElem?_eq_some_iff.1 HQ0.out).1 (by omega)).trans HQ0.out
   have HP1:Hid (P=(zCL en q1).bind fun n l=>(zAN en colW l).bind fun _ l=>(zAJ en l).bind fun lo l=>(zAN en zCF l).bind fun _ l=>(zAJ en l).bind fun hi l=>(zAN en zA5 l).bind fun _ l=>.ok ⟨n,lo,hi⟩ l):=by show _=_;rw[HP0.out,hs];rfl
   clear hs hrd hfr HR0 HN0 HF0 HQ0 HP0
   go_wp2_with fail
   refine (zMj N R M en w1 q1 HR1.out).mono ?_
   intro e w2 hp
   cases hs:zCL en q1 with
   | bad x er =>
     rw[hs] at hp
     obtain⟨rfl,hfr⟩:=hp
     have hfr2:=HF1.out.trans hfr.toRM
     have HPB:Hid (P=.bad x er):=by show _=_;rw[HP1.out,hs];rfl
     clear hs hfr
     go_wp2
     exact⟨rfl,by rw[HPB.out];exact⟨rfl,hfr2⟩⟩
   | ok n q2 =>
     rw[hs] at hp
     obtain⟨v,rfl,⟨rfl,hsz⟩,hrd,hfr⟩:=hp
     have HSZ:Hid (n.size≤maxLen):=hsz
     have hsz2:w.heap.size<w2.heap.size:=Nat.lt_of_lt_of_le (Array.getElem?_eq_some_iff.1 HQ1.out).1 hfr.size
     obtain⟨W,hW⟩:∃W,W=w2.alloc (.cells #[.string n,.int .i64 0,.int .i64 0] 71):=⟨_,rfl⟩
     have hbw:Below w2.heap.size w2 W:=by rw[hW];exact zAA _ _
     have HRW:Hid (Rd N R M en W q2):=hrd.below hbw
     have HFW:Hid (Fr (XRM R M) w W):=(HF1.out.trans hfr.toRM).trans (Fr.below hbw)
     have HNW:Hid (NmS W M names):=(HN1.out.old (hfr.block M HN1.out.lt hMR)).old (hbw.block M (Nat.lt_of_lt_of_le hMw (Nat.le_of_lt (Nat.lt_of_lt_of_le hsz2 (Nat.le_refl _)))))
     have HQW:Hid (W.heap[w.heap.size]? = some (.cells #[.string ⟨#[]⟩,.int .i64 0,.int .i64 0] 71)):=(hbw.block _ hsz2).trans ((hfr.block _ (Array.getElem?_eq_some_iff.1 HQ1.out).1 (by omega)).trans HQ1.out)
     have HVW:Hid (W.heap[w2.heap.size]? = some (.cells #[.string n,.int .i64 0,.int .i64 0] 71)):=by show _=_;rw[hW];show (w2.heap.push _)[w2.heap.size]? = _;simp
     have HP2:Hid (P=(zAN en colW q2).bind fun _ l=>(zAJ en l).bind fun lo l=>(zAN en zCF l).bind fun _ l=>(zAJ en l).bind fun hi l=>(zAN en zA5 l).bind fun _ l=>.ok ⟨n,lo,hi⟩ l):=by show _=_;rw[HP1.out,hs];rfl
     obtain⟨w3,hrun,hnm3,hgr⟩:=NmS.next (w:=W.drew) n (HNW.out.old rfl) HSZ.out HLN.out
     rw[←HNL.out] at hrun
     have HG:Hid (∀k,k<W.heap.size→k≠M→w3.heap[k]? = W.heap[k]?):=fun k hk hne=>hgr.block k hk (fun e=>hne (Option.some.inj e))
     have HRd:=HRW.out
     obtain⟨_,vr,hR,right⟩:=HRd
     have cR:W.cell? ⟨R,2,none⟩=some (.map (some M)):=by rw[Lib.cell_of_heap hR];rfl
     have cV:W.cell? ⟨w2.heap.size,0,none⟩=some (.string n):=blk9 HVW.out 0 _ rfl
     have hMW:M<W.heap.size:=HNW.out.lt
     have hRW:R<W.heap.size:=(Array.getElem?_eq_some_iff.1 hR).1
     have hVW:w2.heap.size<W.heap.size:=(Array.getElem?_eq_some_iff.1 HVW.out).1
     have hVM:w2.heap.size≠M:=by omega
     have fR:w3.cell? ⟨R,2,none⟩=some (.map (some M)):=(World.cell?_of_block (HG.out R hRW (Ne.symm hMR))).trans cR
     have fV:w3.cell? ⟨w2.heap.size,0,none⟩=some (.string n):=(World.cell?_of_block (HG.out w2.heap.size hVW hVM)).trans cV
     have HR3:Hid (Rd N R M en w3 q2):=(HRW.out.below (w':=W.drew) (Below.refl _ _).drew).grown hgr (fun k hk=>by cases hk;exact⟨hMR,hNM⟩)
     have HF3:Hid (Fr (XRM R M) w w3):=(HFW.out.trans (Fr.below (w':=W.drew) (Below.refl _ _).drew)).grown hgr (fun k hk=>by cases hk;exact Or.inl (Or.inr rfl))
     have HN3:Hid (NmS w3 M (names++[n])):=hnm3
     have hSM:w.heap.size≠M:=by omega
     have HQ3:Hid (w3.heap[w.heap.size]? = some (.cells #[.string ⟨#[]⟩,.int .i64 0,.int .i64 0] 71)):=(HG.out _ (Array.getElem?_eq_some_iff.1 HQW.out).1 hSM).trans HQW.out
     have HV3:Hid (w3.heap[w2.heap.size]? = some (.cells #[.string n,.int .i64 0,.int .i64 0] 71)):=(HG.out _ hVW hVM).trans HVW.out
     clear hs hrd hfr HR1 HN1 HF1 HQ1 HP1 hbw hsz hR HRW HFW HNW HQW HVW HG hgr hnm3
     subst hW
     go_wp2_with fail
     go_region_held3 (fun w'=>w'.cell? ⟨R,2,none⟩=some (.map (some M))∧w'.cell? ⟨w2.heap.size,0,none⟩=some (.string n)) (first | exact⟨cR,cV⟩ | exact⟨fR,fV⟩) (fail)
     clear cR cV fR fV hrun hMW hRW hVW right
     go_wp2_with fail
     refine (zAp N R M en colW zLT w3 q2 HR3.out).mono ?_
     intro e w4 hp
     cases hs:zAN en colW q2 with
     | bad x er =>
       rw[hs] at hp
       obtain⟨rfl,hfr⟩:=hp
       have hfr2:=HF3.out.trans hfr.toRM
       have HPB:Hid (P=.bad x er):=by show _=_;rw[HP2.out,hs];rfl
       clear hs hfr
       go_wp2
       exact⟨rfl,by rw[HPB.out];exact⟨rfl,hfr2⟩⟩
     | ok t4 q3 =>
       rw[hs] at hp
       obtain⟨v,rfl,rfl,hrd,hfr⟩:=hp
       have HR4:Hid (Rd N R M en w4 q3):=hrd
       have HF4:Hid (Fr (XRM R M) w w4):=HF3.out.trans hfr.toRM
       have HN4:Hid (NmS w4 M (names++[n])):=HN3.out.old (hfr.block M HN3.out.lt hMR)
       have HQ4:Hid (w4.heap[w.heap.size]? = some (.cells #[.string ⟨#[]⟩,.int .i64 0,.int .i64 0] 71)):=(hfr.block _ (Array.getElem?_eq_some_iff.1 HQ3.out).1 (by omega)).trans HQ3.out
       have HV4:Hid (w4.heap[w2.heap.size]? = some (.cells #[.string n,.int .i64 0,.int .i64 0] 71)):=(hfr.block _ (Array.getElem?_eq_some_iff.1 HV3.out).1 (by omega)).trans HV3.out
       have HP3:Hid (P=(zAJ en q3).bind fun lo l=>(zAN en zCF l).bind fun _ l=>(zAJ en l).bind fun hi l=>(zAN en zA5 l).bind fun _ l=>.ok ⟨n,lo,hi⟩ l):=by show _=_;rw[HP2.out,hs];rfl
       clear hs hrd hfr HR3 HF3 HN3 HQ3 HV3 HP2
       go_wp2_with fail
       refine (zEF N R M en w4 q3 HR4.out).mono ?_
       intro e w5 hp
       cases hs:zAJ en q3 with
       | bad x er =>
         rw[hs] at hp
         obtain⟨rfl,hfr⟩:=hp
         have hfr2:=HF4.out.trans hfr.toRM
         have HPB:Hid (P=.bad x er):=by show _=_;rw[HP3.out,hs];rfl
         clear hs hfr
         go_wp2
         exact⟨rfl,by rw[HPB.out];exact⟨rfl,hfr2⟩⟩
       | ok lo q4 =>
         rw[hs] at hp
         obtain⟨v,rfl,⟨rfl,hlo,hhi⟩,hrd,hfr⟩:=hp
         have HR5:Hid (Rd N R M en w5 q4):=hrd
         have HF5:Hid (Fr (XRM R M) w w5):=HF4.out.trans hfr.toRM
         have HN5:Hid (NmS w5 M (names++[n])):=HN4.out.old (hfr.block M HN4.out.lt hMR)
         have HQ5:Hid (w5.heap[w.heap.size]? = some (.cells #[.string ⟨#[]⟩,.int .i64 0,.int .i64 0] 71)):=(hfr.block _ (Array.getElem?_eq_some_iff.1 HQ4.out).1 (by omega)).trans HQ4.out
         have HV5:Hid (w5.heap[w2.heap.size]? = some (.cells #[.string n,.int .i64 0,.int .i64 0] 71)):=(hfr.block _ (Array.getElem?_eq_some_iff.1 HV4.out).1 (by omega)).trans HV4.out
         have HP4:Hid (P=(zAN en zCF q4).bind fun _ l=>(zAJ en l).bind fun hi l=>(zAN en zA5 l).bind fun _ l=>.ok ⟨n,lo,hi⟩ l):=by show _=_;rw[HP3.out,hs];rfl
         clear hs hrd hfr HR4 HF4 HN4 HQ4 HV4 HP3
         have r5:=blk9 HV5.out 1 _ rfl
         have z5:=frz9 HV5.out 1
         have HR55:Hid (Rd N R M en (w5.setCell ⟨w2.heap.size,1,none⟩ (.int .i64 lo)) q4):=HR5.out.set (p:=⟨w2.heap.size,1,none⟩) (show w2.heap.size≠R by omega) (show N≤w2.heap.size by omega) _
         have HF55:Hid (Fr (XRM R M) w (w5.setCell ⟨w2.heap.size,1,none⟩ (.int .i64 lo))):=HF5.out.setNew (p:=⟨w2.heap.size,1,none⟩) (Nat.le_of_lt hsz2) _
         have HN55:Hid (NmS (w5.setCell ⟨w2.heap.size,1,none⟩ (.int .i64 lo)) M (names++[n])):=HN5.out.old (Below.heap_setCell _ _ _ _ (show M≠w2.heap.size from Ne.symm hVM))
         have HQ55:Hid ((w5.setCell ⟨w2.heap.size,1,none⟩ (.int .i64 lo)).heap[w.heap.size]? = some (.cells #[.string ⟨#[]⟩,.int .i64 0,.int .i64 0] 71)):=(Below.heap_setCell _ _ _ _ (show w.heap.size≠w2.heap.size by omega)).trans HQ5.out
         have HV55:Hid ((w5.setCell ⟨w2.heap.size,1,none⟩ (.int .i64 lo)).heap[w2.heap.size]? = some (.cells #[.string n,.int .i64 lo,.int .i64 0] 71)):=by show _=_;rw[heap_setCell_same w5 w2.heap.size 1 _ _ _ HV5.out];rfl
         clear HR5 HF5 HN5 HQ5 HV5
         go_wp2_with fail
         refine (zAp N R M en zCF zJZ _ q4 HR55.out).mono ?_
         intro e w6 hp
         cases hs:zAN en zCF q4 with
         | bad x er =>
           rw[hs] at hp
           obtain⟨rfl,hfr⟩:=hp
           have hfr2:=HF55.out.trans hfr.toRM
           have HPB:Hid (P=.bad x er):=by show _=_;rw[HP4.out,hs];rfl
           clear hs hfr
           go_wp2
           exact⟨rfl,by rw[HPB.out];exact⟨rfl,hfr2⟩⟩
         | ok t6 q5 =>
           rw[hs] at hp
           obtain⟨v,rfl,rfl,hrd,hfr⟩:=hp
           have HR6:Hid (Rd N R M en w6 q5):=hrd
           have HF6:Hid (Fr (XRM R M) w w6):=HF55.out.trans hfr.toRM
           have HN6:Hid (NmS w6 M (names++[n])):=HN55.out.old (hfr.block M HN55.out.lt hMR)
           have HQ6:Hid (w6.heap[w.heap.size]? = some (.cells #[.string ⟨#[]⟩,.int .i64 0,.int .i64 0] 71)):=(hfr.block _ (Array.getElem?_eq_some_iff.1 HQ55.out).1 (by omega)).trans HQ55.out
           have HV6:Hid (w6.heap[w2.heap.size]? = some (.cells #[.string n,.int .i64 lo,.int .i64 0] 71)):=(hfr.block _ (Array.getElem?_eq_some_iff.1 HV55.out).1 (by omega)).trans HV55.out
           have HP5:Hid (P=(zAJ en q5).bind fun hi l=>(zAN en zA5 l).bind fun _ l=>.ok ⟨n,lo,hi⟩ l):=by show _=_;rw[HP4.out,hs];rfl
           clear hs hrd hfr HR55 HF55 HN55 HQ55 HV55 HP4
           clear r5 z5
           go_wp2_with fail
           refine (zEF N R M en w6 q5 HR6.out).mono ?_
           intro e w7 hp
           cases hs:zAJ en q5 with
           | bad x er =>
             rw[hs] at hp
             obtain⟨rfl,hfr⟩:=hp
             have hfr2:=HF6.out.trans hfr.toRM
             have HPB:Hid (P=.bad x er):=by show _=_;rw[HP5.out,hs];rfl
             clear hs hfr
             go_wp2
             exact⟨rfl,by rw[HPB.out];exact⟨rfl,hfr2⟩⟩
           | ok hi q6 =>
             rw[hs] at hp
             obtain⟨v,rfl,⟨rfl,hlo,hhi⟩,hrd,hfr⟩:=hp
             have HR7:Hid (Rd N R M en w7 q6):=hrd
             have HF7:Hid (Fr (XRM R M) w w7):=HF6.out.trans hfr.toRM
             have HN7:Hid (NmS w7 M (names++[n])):=HN6.out.old (hfr.block M HN6.out.lt hMR)
             have HQ7:Hid (w7.heap[w.heap.size]? = some (.cells #[.string ⟨#[]⟩,.int .i64 0,.int .i64 0] 71)):=(hfr.block _ (Array.getElem?_eq_some_iff.1 HQ6.out).1 (by omega)).trans HQ6.out
             have HV7:Hid (w7.heap[w2.heap.size]? = some (.cells #[.string n,.int .i64 lo,.int .i64 0] 71)):=(hfr.block _ (Array.getElem?_eq_some_iff.1 HV6.out).1 (by omega)).trans HV6.out
             have HP6:Hid (P=(zAN en zA5 q6).bind fun _ l=>.ok ⟨n,lo,hi⟩ l):=by show _=_;rw[HP5.out,hs];rfl
             clear hs hrd hfr HR6 HF6 HN6 HQ6 HV6 HP5
             have r7:=blk9 HV7.out 2 _ rfl
             have z7:=frz9 HV7.out 2
             have HR77:Hid (Rd N R M en (w7.setCell ⟨w2.heap.size,2,none⟩ (.int .i64 hi)) q6):=HR7.out.set (p:=⟨w2.heap.size,2,none⟩) (show w2.heap.size≠R by omega) (show N≤w2.heap.size by omega) _
             have HF77:Hid (Fr (XRM R M) w (w7.setCell ⟨w2.heap.size,2,none⟩ (.int .i64 hi))):=HF7.out.setNew (p:=⟨w2.heap.size,2,none⟩) (Nat.le_of_lt hsz2) _
             have HN77:Hid (NmS (w7.setCell ⟨w2.heap.size,2,none⟩ (.int .i64 hi)) M (names++[n])):=HN7.out.old (Below.heap_setCell _ _ _ _ (show M≠w2.heap.size from Ne.symm hVM))
             have HQ77:Hid ((w7.setCell ⟨w2.heap.size,2,none⟩ (.int .i64 hi)).heap[w.heap.size]? = some (.cells #[.string ⟨#[]⟩,.int .i64 0,.int .i64 0] 71)):=(Below.heap_setCell _ _ _ _ (show w.heap.size≠w2.heap.size by omega)).trans HQ7.out
             have HV77:Hid ((w7.setCell ⟨w2.heap.size,2,none⟩ (.int .i64 hi)).heap[w2.heap.size]? = some (.cells #[.string n,.int .i64 lo,.int .i64 hi] 71)):=by show _=_;rw[heap_setCell_same w7 w2.heap.size 2 _ _ _ HV7.out];rfl
             clear HR7 HF7 HN7 HQ7 HV7
             go_wp2_with fail
             refine (zAp N R M en zA5 zDP _ q6 HR77.out).mono ?_
             intro e w8 hp
             cases hs:zAN en zA5 q6 with
             | bad x er =>
               rw[hs] at hp
               obtain⟨rfl,hfr⟩:=hp
               have hfr2:=HF77.out.trans hfr.toRM
               have HPB:Hid (P=.bad x er):=by show _=_;rw[HP6.out,hs];rfl
               clear hs hfr
               go_wp2
               exact⟨rfl,by rw[HPB.out];exact⟨rfl,hfr2⟩⟩
             | ok t8 q7 =>
               rw[hs] at hp
               obtain⟨v,rfl,rfl,hrd,hfr⟩:=hp
               have HR8:Hid (Rd N R M en w8 q7):=hrd
               have HF8:Hid (Fr (XRM R M) w w8):=HF77.out.trans hfr.toRM
               have HN8:Hid (NmS w8 M (names++[n])):=HN77.out.old (hfr.block M HN77.out.lt hMR)
               have HQ8:Hid (w8.heap[w.heap.size]? = some (.cells #[.string ⟨#[]⟩,.int .i64 0,.int .i64 0] 71)):=(hfr.block _ (Array.getElem?_eq_some_iff.1 HQ77.out).1 (by omega)).trans HQ77.out
               have HV8:Hid (w8.heap[w2.heap.size]? = some (.cells #[.string n,.int .i64 lo,.int .i64 hi] 71)):=(hfr.block _ (Array.getElem?_eq_some_iff.1 HV77.out).1 (by omega)).trans HV77.out
               have HP7:Hid (P=.ok ⟨n,lo,hi⟩ q7):=by show _=_;rw[HP6.out,hs];rfl
               clear hs hrd hfr HR77 HF77 HN77 HQ77 HV77 HP6
               clear r7 z7
               have a0:=blk9 HV8.out 0 _ rfl
               have a1:=blk9 HV8.out 1 _ rfl
               have a2:=blk9 HV8.out 2 _ rfl
               have b0:=blk9 HQ8.out 0 _ rfl
               have b1:=blk9 HQ8.out 1 _ rfl
               have b2:=blk9 HQ8.out 2 _ rfl
               have z0:=frz9 HQ8.out 0
               have z1:=frz9 HQ8.out 1
               have z2:=frz9 HQ8.out 2
               have hne2:w.heap.size≠R:=by omega
               have hMS:M≠w.heap.size:=by omega
               clear HQ8 HV8
               go_wp2
               refine bodyPost_ret (by simp[results,Tryz.results176,go_sem, *];try rfl) rfl ?_
               rw[HP7.out]
               refine⟨_,rfl,⟨rfl,HSZ.out,?_⟩,?_,?_⟩
               ·exact HN8.out.old ((Below.heap_setCell _ _ _ _ (by exact hMS)).trans ((Below.heap_setCell _ _ _ _ (by exact hMS)).trans (Below.heap_setCell _ _ _ _ (by exact hMS))))
               ·exact ((HR8.out.set (p:=⟨w.heap.size,0,none⟩) hne2 hNw _).set (p:=⟨w.heap.size,1,none⟩) hne2 hNw _).set (p:=⟨w.heap.size,2,none⟩) hne2 hNw _
               ·exact ((HF8.out.setNew (p:=⟨w.heap.size,0,none⟩) (Nat.le_refl _) _).setNew (p:=⟨w.heap.size,1,none⟩) (Nat.le_refl _) _).setNew (p:=⟨w.heap.size,2,none⟩) (Nat.le_refl _) _
theorem LSr.set {B base:Nat} {t:TypeId} {w:World} {v:Value} {acc:List (List Int)} (h:LSr B base w v acc) {C:Nat} {cs:Array Value} (hC:w.heap[C]? = some (.cells cs t)) (ht:t≠3) (ht2:t≠26) (i:Nat) (u:Value):LSr B base (w.setCell ⟨C,i,Option.none⟩ u) v acc:=by
 obtain⟨cells,h1,h2⟩:=h
 refine⟨cells,zAs h1 hC ht2 i u,fun j r hr=>?_⟩
 obtain⟨x,hx,ho⟩:=h2 j r hr
 exact⟨x,hx,zAs ho hC ht i u⟩
theorem LSr.mono {B base base':Nat} {w:World} {v:Value} {acc:List (List Int)} (h:LSr B base w v acc) (hb:base'≤base):LSr B base' w v acc:=by
 obtain⟨cells,h1,h2⟩:=h
 exact⟨cells,zBJ h1 hb,h2⟩
def ConR (B:Nat) (w:World) (vv vc vr vl:Value) (c:MCon):Prop :=
 w.ownsRow B 3 1 vv c.vars.length (c.vars.map (Value.int .i64))∧w.ownsRow B 3 1 vc c.consts.length (c.consts.map (Value.int .i64))∧LSr B B w vr c.rows∧w.ownsRow B 88 3 vl c.lits.length (c.lits.flatMap litC)
theorem ConR.set {B:Nat} {w:World} {vv vc vr vl:Value} {c:MCon} (h:ConR B w vv vc vr vl c) {C:Nat} {cs:Array Value} (hC:w.heap[C]? = some (.cells cs 73)) (i:Nat) (u:Value):ConR B (w.setCell ⟨C,i,Option.none⟩ u) vv vc vr vl c :=
 ⟨zAs h.1 hC (by decide) i u,zAs h.2.1 hC (by decide) i u,h.2.2.1.set hC (by decide) (by decide) i u,zAs h.2.2.2 hC (by decide) i u⟩
theorem ConR.fr {X:Nat→Prop} {B:Nat} {w w':World} {vv vc vr vl:Value} {c:MCon} (h:ConR B w vv vc vr vl c) (hf:Fr X w w') (hX:∀k,X k→k<B):ConR B w' vv vc vr vl c :=
 ⟨zDr h.1 hf hX,zDr h.2.1 hf hX,h.2.2.1.fr hf hX hX,zDr h.2.2.2 hf hX⟩
theorem ConR.mono {B B':Nat} {w:World} {vv vc vr vl:Value} {c:MCon} (h:ConR B w vv vc vr vl c) (hb:B'≤B):ConR B' w vv vc vr vl c:=by
 obtain⟨h1,h2,⟨cells,h3,h4⟩,h5⟩:=h
 refine⟨zBJ h1 hb,zBJ h2 hb,⟨cells,zBJ h3 hb,fun i r hr=>?_⟩,zBJ h5 hb⟩
 obtain⟨x,hx,ho⟩:=h4 i r hr
 exact⟨x,hx,zBJ ho hb⟩
theorem ConR.none (B:Nat) (w:World) (k:Int):ConR B w (.slice Option.none 0 0) (.slice Option.none 0 0) (.slice Option.none 0 0) (.slice Option.none 0 0) ⟨k,[],[],0,[],[]⟩ :=
 ⟨World.ownsRow_nil _ _ _ _,World.ownsRow_nil _ _ _ _,LSr.none _ _ _,World.ownsRow_nil _ _ _ _⟩
structure ConS (N R M:Nat) (en:Int) (names:List ByteArray) (w0:World) (C:Nat) (w:World) (q:List Tok) (vv vc vr vl:Value) (c:MCon):Prop where
 rd:Rd N R M en w q
 fr:Fr (fun k=>k=R) w0 w
 nm:NmS w M names
 res:w.heap[w0.heap.size]? = some (.cells #[.int .i64 0,.slice none 0 0,.slice none 0 0,.int .i64 0,.slice none 0 0,.slice none 0 0] 73)
 con:w.heap[C]? = some (.cells #[.int .i64 c.kind,vv,vc,.int .i64 c.n,vr,vl] 73)
 lt:w0.heap.size<C
 Rw:R<w0.heap.size
 Nw:N≤w0.heap.size
 Mw:M<w0.heap.size
 own:ConR w0.heap.size w vv vc vr vl c
section
variable {N R M:Nat} {en:Int} {names:List ByteArray} {w0:World} {C:Nat} {w w':World} {q q':List Tok} {vv vc vr vl:Value} {c:MCon}
theorem ConS.call (h:ConS N R M en names w0 C w q vv vc vr vl c) (hf:Fr (fun k=>k=R) w w') (hrd:Rd N R M en w' q'):ConS N R M en names w0 C w' q' vv vc vr vl c where
 rd:=hrd
 fr:=h.fr.trans hf
 nm:=h.nm.old (hf.block M h.nm.lt hrd.1.2.2)
 res:=(hf.block _ (Array.getElem?_eq_some_iff.1 h.res).1 (by have:=h.Rw;omega)).trans h.res
 con:=(hf.block _ (Array.getElem?_eq_some_iff.1 h.con).1 (by have:=h.Rw;have:=h.lt;omega)).trans h.con
 lt:=h.lt
 Rw:=h.Rw
 Nw:=h.Nw
 Mw:=h.Mw
 own:=h.own.fr hf (fun k hk=>by subst hk;exact h.Rw)
theorem ConS.below (h:ConS N R M en names w0 C w q vv vc vr vl c) (hb:Below w.heap.size w w'):ConS N R M en names w0 C w' q vv vc vr vl c:=h.call (Fr.below hb) (h.rd.below hb)
theorem ConS.base (h:ConS N R M en names w0 C w q vv vc vr vl c):w0.heap.size≤w.heap.size:=h.fr.size
theorem ConS.put (h:ConS N R M en names w0 C w q vv vc vr vl c) (i:Nat) (u:Value) (vv' vc' vr' vl':Value) (c':MCon) (hcs:(#[.int .i64 c.kind,vv,vc,.int .i64 c.n,vr,vl]:Array Value).setIfInBounds i u=#[.int .i64 c'.kind,vv',vc',.int .i64 c'.n,vr',vl'])
 (ho:ConR w0.heap.size w vv' vc' vr' vl' c'):ConS N R M en names w0 C (w.setCell ⟨C,i,none⟩ u) q vv' vc' vr' vl' c' where
 rd:=h.rd.set (p:=⟨C,i,none⟩) (by have:=h.Rw;have:=h.lt;show C≠R;omega) (by have:=h.Nw;have:=h.lt;show N≤C;omega) u
 fr:=h.fr.setNew (p:=⟨C,i,none⟩) (Nat.le_of_lt h.lt) u
 nm:=h.nm.old (Below.heap_setCell _ _ _ _ (by have:=h.Mw;have:=h.lt;show M≠C;omega))
 res:=(Below.heap_setCell _ _ _ _ (by have:=h.lt;show w0.heap.size≠C;omega)).trans h.res
 con:=by rw[heap_setCell_same w C i _ _ _ h.con,hcs]
 lt:=h.lt
 Rw:=h.Rw
 Nw:=h.Nw
 Mw:=h.Mw
 own:=ho.set h.con i u
theorem ConS.vars (h:ConS N R M en names w0 C w q vv vc vr vl c) {v:Value} {xs:List Int} (ho:w.ownsRow w0.heap.size 3 1 v xs.length (xs.map (Value.int .i64))):ConS N R M en names w0 C (w.setCell ⟨C,1,none⟩ v) q v vc vr vl { c with vars:=xs } :=
 h.put 1 v v vc vr vl { c with vars:=xs } rfl ⟨ho,h.own.2.1,h.own.2.2.1,h.own.2.2.2⟩
theorem ConS.consts (h:ConS N R M en names w0 C w q vv vc vr vl c) {v:Value} {xs:List Int} (ho:w.ownsRow w0.heap.size 3 1 v xs.length (xs.map (Value.int .i64))):ConS N R M en names w0 C (w.setCell ⟨C,2,none⟩ v) q vv v vr vl { c with consts:=xs } :=
 h.put 2 v vv v vr vl { c with consts:=xs } rfl ⟨h.own.1,ho,h.own.2.2.1,h.own.2.2.2⟩
theorem ConS.n (h:ConS N R M en names w0 C w q vv vc vr vl c) (n:Int):ConS N R M en names w0 C (w.setCell ⟨C,3,none⟩ (.int .i64 n)) q vv vc vr vl { c with n:=n } :=
 h.put 3 _ vv vc vr vl { c with n:=n } rfl h.own
theorem ConS.rows (h:ConS N R M en names w0 C w q vv vc vr vl c) {v:Value} {xs:List (List Int)} (ho:LSr w0.heap.size w0.heap.size w v xs):ConS N R M en names w0 C (w.setCell ⟨C,4,none⟩ v) q vv vc v vl { c with rows:=xs } :=
 h.put 4 v vv vc v vl { c with rows:=xs } rfl ⟨h.own.1,h.own.2.1,ho,h.own.2.2.2⟩
theorem ConS.lits (h:ConS N R M en names w0 C w q vv vc vr vl c) {v:Value} {xs:List MLit} (ho:w.ownsRow w0.heap.size 88 3 v xs.length (xs.flatMap litC)):ConS N R M en names w0 C (w.setCell ⟨C,5,none⟩ v) q vv vc vr v { c with lits:=xs } :=
 h.put 5 v vv vc vr v { c with lits:=xs } rfl ⟨h.own.1,h.own.2.1,h.own.2.2.1,ho⟩
theorem ConS.varsLit (h:ConS N R M en names w0 C w q vv vc vr vl c) (xs:List Int) (hx:xs.length≤100):ConS N R M en names w0 C ((w.setCell ⟨C,1,none⟩ (.slice (some ⟨w.heap.size,0,none⟩) xs.length xs.length)).alloc (.cells (xs.map (Value.int .i64)).toArray 3)) q (.slice (some ⟨w.heap.size,0,none⟩) xs.length xs.length) vc vr vl { c with vars:=xs }:=by
 rw[←World.setCell_alloc_past _ _ _ _ (Array.getElem?_eq_some_iff.1 h.con).1]
 refine (h.below (zAA _ _)).vars ?_
 have:=World.ownsRow_lit (e:=3) (size:=1) w (xs.map (Value.int .i64)).toArray xs.length h.base (by unfold maxLen;omega) (by simp)
 simpa using this
theorem ConS.litLit (h:ConS N R M en names w0 C w q vv vc vr vl c) (x:MLit):ConS N R M en names w0 C ((w.setCell ⟨C,5,none⟩ (.slice (some ⟨w.heap.size,0,none⟩) 1 1)).alloc (.cells #[.int .i64 x.var,.int .i64 x.op,.int .i64 x.n] 88)) q vv vc vr (.slice (some ⟨w.heap.size,0,none⟩) 1 1) { c with lits:=[x] }:=by
 rw[←World.setCell_alloc_past _ _ _ _ (Array.getElem?_eq_some_iff.1 h.con).1]
 refine (h.below (zAA _ _)).lits (xs:=[x]) ?_
 exact World.ownsRow_lit (e:=88) (size:=3) w #[.int .i64 x.var,.int .i64 x.op,.int .i64 x.n] 1 h.base (by unfold maxLen;omega) (by simp)
theorem zEW {w:World} {D:Nat} {t:TypeId} (h:∃cs,w.heap[D]? = some (.cells cs t)) (i:Nat) (u:Value):∃cs,(w.setCell ⟨D,i,none⟩ u).heap[D]? = some (.cells cs t):=by
 obtain⟨cs,h⟩:=h
 exact⟨_,heap_setCell_same w D i _ _ _ h⟩
theorem ConS.endd (h:ConS N R M en names w0 C w q vv vc vr vl c) (u0 u1 u2 u3 u4 u5:Value) (W:World)
 (hW:W=(((((w.setCell ⟨w0.heap.size,0,none⟩ u0).setCell ⟨w0.heap.size,1,none⟩ u1).setCell ⟨w0.heap.size,2,none⟩ u2).setCell ⟨w0.heap.size,3,none⟩ u3).setCell ⟨w0.heap.size,4,none⟩ u4).setCell ⟨w0.heap.size,5,none⟩ u5) :
 ConR w0.heap.size W vv vc vr vl c∧Rd N R M en W q∧Fr (fun k=>k=R) w0 W:=by
 subst hW
 have hne:w0.heap.size≠R:=by have:=h.Rw;omega
 have k0:∃cs,w.heap[w0.heap.size]? = some (.cells cs 73):=⟨_,h.res⟩
 have k1:=zEW k0 0 u0
 have k2:=zEW k1 1 u1
 have k3:=zEW k2 2 u2
 have k4:=zEW k3 3 u3
 have k5:=zEW k4 4 u4
 refine⟨?_,?_,?_⟩
 ·exact (((((h.own.set k0.choose_spec 0 u0).set k1.choose_spec 1 u1).set k2.choose_spec 2 u2).set k3.choose_spec 3 u3).set k4.choose_spec 4 u4).set k5.choose_spec 5 u5
 ·exact (((((h.rd.set (p:=⟨w0.heap.size,0,none⟩) hne h.Nw _).set (p:=⟨w0.heap.size,1,none⟩) hne h.Nw _).set (p:=⟨w0.heap.size,2,none⟩) hne h.Nw _).set (p:=⟨w0.heap.size,3,none⟩) hne h.Nw _).set (p:=⟨w0.heap.size,4,none⟩) hne h.Nw _).set (p:=⟨w0.heap.size,5,none⟩) hne h.Nw _
 ·exact (((((h.fr.setNew (p:=⟨w0.heap.size,0,none⟩) (Nat.le_refl _) _).setNew (p:=⟨w0.heap.size,1,none⟩) (Nat.le_refl _) _).setNew (p:=⟨w0.heap.size,2,none⟩) (Nat.le_refl _) _).setNew (p:=⟨w0.heap.size,3,none⟩) (Nat.le_refl _) _).setNew (p:=⟨w0.heap.size,4,none⟩) (Nat.le_refl _) _).setNew (p:=⟨w0.heap.size,5,none⟩) (Nat.le_refl _) _
end
def GC (B:Nat) (c:MCon) (v:Value) (w':World):Prop:=∃vv vc vr vl,v=conV vv vc vr vl c∧ConR B w' vv vc vr vl c
theorem zOq (en:Int) (names:List ByteArray) (k:Int) (l:List Tok) (h:¬k=1∧¬k=2∧¬k=3∧¬k=4∧¬k=5∧¬k=6∧¬k=7∧¬k=8∧¬k=9∧¬k=10):zBQ en names k l=.ok ⟨k,[],[],0,[],[]⟩ l:=by
 obtain⟨h1,h2,h3,h4,h5,h6,h7,h8,h9,h10⟩:=h
 unfold zBQ
 rw[if_neg (fun h=>h.elim h1 (fun h=>h.elim h2 h3)),if_neg h4,if_neg h5,if_neg h6,if_neg h7,if_neg h8,if_neg h9,if_neg h10]
theorem hid9 {p:Prop} (h:p):Hid p:=h
theorem zE6 {α β γ:Type} {P:PR γ} {A:PR α} {F:α→List Tok→PR β} {G:β→List Tok→PR γ} {x:α} {q:List Tok} (h:Hid (P=(A.bind F).bind G)) (hs:A=.ok x q):Hid (P=(F x q).bind G):=by rw[hs] at h;exact h
theorem hbad {α β γ:Type} {P:PR γ} {A:PR α} {F:α→List Tok→PR β} {G:β→List Tok→PR γ} {x er:Int} (h:Hid (P=(A.bind F).bind G)) (hs:A=.bad x er):Hid (P=.bad x er):=by rw[hs] at h;exact h
theorem hend {α γ:Type} {P:PR γ} {A:PR α} {G:α→List Tok→PR γ} {x:α} {q:List Tok} (h:Hid (P=A.bind G)) (hs:A=.ok x q):Hid (P=G x q):=by rw[hs] at h;exact h
theorem zTJ {α γ:Type} {P:PR γ} {A:PR α} {G:α→List Tok→PR γ} {x er:Int} (h:Hid (P=A.bind G)) (hs:A=.bad x er):Hid (P=.bad x er):=by rw[hs] at h;exact h
end Go.Proofs.YtdjbejlbmaiocagGreatDoor
