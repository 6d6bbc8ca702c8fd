/- What the proof leans on, part 37. -/
import Derived.Test.YtndcpnlaadikoaaGreatDoorPartBj
set_option maxRecDepth 100000
set_option maxHeartbeats 1600000
open Go.Proofs.Tryz
namespace Go.Proofs.YtndcpnlaadikoaaGreatDoor
open Go.RowKit Go.Maps
theorem NmS.next {w:World} {M:Nat} {l:List ByteArray} (n:ByteArray) (h:NmS w M l) (hn:n.size<=maxLen) (hl:l.length<=4000) :
 ∃w',Sem.run prog (Instr.mapUpdate 207 (.map (some M)) (.string n) (.int .i64 (l.length:Int))) w=.ok () w'/\NmS w' M (l++[n])/\w.grownBy w' (some M):=by
 obtain⟨w',XW,Z9,ht⟩:=World.ownsMap.store h j9 j' (by unfold maxLen;omega) (WideMaps.keyOf_string_mk underlying9 hn) (plainElem_int (H:=Unit) (a:=(l.length:Int)) underlying3 (WalkArith.wf_i64 (by omega)))
 exact⟨w',XW,by unfold NmS;rw[sG,ZC];exact Z9,ht.grown⟩
abbrev XRM (R M:Nat):Nat->Prop:=λk=>k=R∨k=M
theorem Fr.toRM {R M:Nat} {w w':World} (h:Fr (λk=>k=R) w w'):Fr (XRM R M) w w':=h.weak λ_ hk=>Or.inl hk
theorem zRE (N R M:Nat) (en:Int) (names:List ByteArray) (w:World) (l:List Tok) (h:Rd N R M en w l) (hn:NmS w M names) (Zr:names.length<=4000) (ye:N<=M) :
 Calls prog 221 #[.pointer (some ⟨R,0,none⟩),.int .i64 (names.length:Int)] w (Vy (PX en l) (λx v w'=>v=.agg #[.string x.name,.int .i64 x.lo,.int .i64 x.hi]/\x.name.size<=maxLen/\NmS w' M (names++[x.name])) N R M en (XRM R M) w):=by
 have HB:=hI h;have HN:=hI hn;have QH:=hI Zr;have TQ:M≠R:=h.1.2.2;have Ow:R<w.heap.size:=by obtain⟨_,_,hR,_⟩:=h;exact (Z8.1 hR).1
 have Ed:M<w.heap.size:=hn.lt;have J':N<=w.heap.size:=h.1.2.1;obtain⟨P,hP⟩:∃P,PX en l=P:=⟨_,rfl⟩;have Bp:Hid (P=(Zv en varW l).bind λ_ l=>(OA en l).bind λn l=>(Zv en colW l).bind λ_ l=>(Yi en l).bind λlo l=>(Zv en TR l).bind λ_ l=>(Yi en l).bind λhi l=>(Zv en YV l).bind λ_ l=>.ok ⟨n,lo,hi⟩ l):=by show _=_;rw[<-hP];rfl
 rw[hP];clear h hP hn Zr;obtain⟨nl,TV⟩:∃nl:Int,nl=(names.length:Int):=⟨_,rfl⟩;rw[<-TV];have vm:=hI TV;clear TV;go_enter func221,ntmps221
 go_wp2_with fail
 have Qc:=HB.o.below (Z4 w (.cells #[.string ⟨#[]⟩,.int .i64 0,.int .i64 0] 67));have XL:Hid (NmS (w.alloc (.cells #[.string ⟨#[]⟩,.int .i64 0,.int .i64 0] 67)) M names):=HN.o.old ((Z4 w _).block M Ed);have Pb:Hid (Fr (XRM R M) w (w.alloc (.cells #[.string ⟨#[]⟩,.int .i64 0,.int .i64 0] 67))):=Fr.below (Z4 _ _);have S0:Hid ((w.alloc (.cells #[.string ⟨#[]⟩,.int .i64 0,.int .i64 0] 67)).heap[w.heap.size]? = some (.cells #[.string ⟨#[]⟩,.int .i64 0,.int .i64 0] 67)):=by show (w.heap.push _)[w.heap.size]? = _;simp
 refine (TF N R M en varW rL _ l Qc).mono ?_;intro e w1 hp;cases hs:Zv en varW l with
 | bad x er =>
   rw[hs] at hp;obtain⟨rfl,Z'⟩:=hp;have ZR:=Pb.o.trans Z'.toRM;have Y6:Hid (P=.bad x er):=by show _=_;rw[Bp.o,hs];rfl
   clear hs Z' Qc;go_wp2
   exact⟨rfl,by rw[Y6.o];exact⟨rfl,ZR⟩⟩
 | ok t1 q1 =>
   rw[hs] at hp;obtain⟨v,rfl,rfl,ZV,Z'⟩:=hp;have Yl:=hI ZV;have Xh:Hid (Fr (XRM R M) w w1):=Pb.o.trans Z'.toRM;have TG:Hid (NmS w1 M names):=XL.o.old (Z'.block M XL.o.lt TQ);have Xw:Hid (w1.heap[w.heap.size]? = some (.cells #[.string ⟨#[]⟩,.int .i64 0,.int .i64 0] 67)):=(Z'.block _ (Z8.1 S0.o).1 (by omega)).trans S0.o
   have Xt:Hid (P=(OA en q1).bind λn l=>(Zv en colW l).bind λ_ l=>(Yi en l).bind λlo l=>(Zv en TR l).bind λ_ l=>(Yi en l).bind λhi l=>(Zv en YV l).bind λ_ l=>.ok ⟨n,lo,hi⟩ l):=by show _=_;rw[Bp.o,hs];rfl
   clear hs ZV Z' Qc XL Pb S0 Bp;go_wp2_with fail
   refine (zOd N R M en w1 q1 Yl.o).mono ?_;intro e w2 hp;cases hs:OA en q1 with
   | bad x er =>
     rw[hs] at hp;obtain⟨rfl,Z'⟩:=hp;have ZR:=Xh.o.trans Z'.toRM;have Y6:Hid (P=.bad x er):=by show _=_;rw[Xt.o,hs];rfl
     clear hs Z';go_wp2
     exact⟨rfl,by rw[Y6.o];exact⟨rfl,ZR⟩⟩
   | ok n q2 =>
     rw[hs] at hp;obtain⟨v,rfl,⟨rfl,Y'⟩,ZV,Z'⟩:=hp;have XF:=hI Y';have JZ:w.heap.size<w2.heap.size:=ZQ (Z8.1 Xw.o).1 Z'.size;obtain⟨W,hW⟩:∃W,W=w2.alloc (.cells #[.string n,.int .i64 0,.int .i64 0] 67):=⟨_,rfl⟩;have Z3:Bw w2 W:=by rw[hW];exact Z4 _ _
     have Wp:Hid (Rd N R M en W q2):=ZV.below Z3;have iB:Hid (Fr (XRM R M) w W):=(Xh.o.trans Z'.toRM).trans (Fr.below Z3);have QG:Hid (NmS W M names):=(TG.o.old (Z'.block M TG.o.lt TQ)).old (Z3.block M (ZQ Ed (Vm (ZQ JZ (Z2 _)))));have CC:Hid (W.heap[w.heap.size]? = some (.cells #[.string ⟨#[]⟩,.int .i64 0,.int .i64 0] 67)):=(Z3.block _ JZ).trans ((Z'.block _ (Z8.1 Xw.o).1 (by omega)).trans Xw.o)
     have GH:Hid (W.heap[w2.heap.size]? = some (.cells #[.string n,.int .i64 0,.int .i64 0] 67)):=by show _=_;rw[hW];show (w2.heap.push _)[w2.heap.size]? = _;simp
     have YB:Hid (P=(Zv en colW q2).bind λ_ l=>(Yi en l).bind λlo l=>(Zv en TR l).bind λ_ l=>(Yi en l).bind λhi l=>(Zv en YV l).bind λ_ l=>.ok ⟨n,lo,hi⟩ l):=by show _=_;rw[Xt.o,hs];rfl
     obtain⟨w3,XW,Bo,Ek⟩:=NmS.next (w:=W.drew) n (QG.o.old rfl) XF.o QH.o;rw[<-vm.o] at XW;have HG:Hid (∀k,k<W.heap.size->k≠M->w3.heap[k]? = W.heap[k]?):=λk hk ZP=>Ek.block k hk (λe=>ZP (Zl e))
     have HRd:=Wp.o;obtain⟨_,vr,hR,right⟩:=HRd;have cR:W.cell? ⟨R,2,none⟩=some (.map (some M)):=by rw[Lib.cell_of_heap hR];rfl
     have cV:W.cell? ⟨w2.heap.size,0,none⟩=some (.string n):=Z_ GH.o 0 _ rfl;have hMW:M<W.heap.size:=QG.o.lt;have P7:R<W.heap.size:=(Z8.1 hR).1;have rH:w2.heap.size<W.heap.size:=(Z8.1 GH.o).1;have yd:w2.heap.size≠M:=by omega
     have fR:w3.cell? ⟨R,2,none⟩=some (.map (some M)):=(WD (HG.o R P7 (Ne.symm TQ))).trans cR;have fV:w3.cell? ⟨w2.heap.size,0,none⟩=some (.string n):=(WD (HG.o w2.heap.size rH yd)).trans cV;have Ys:Hid (Rd N R M en w3 q2):=(Wp.o.below (w':=W.drew) (Z6 _ _).drew).grown Ek (λk hk=>by cases hk;exact⟨TQ,ye⟩)
     have Yw:Hid (Fr (XRM R M) w w3):=(iB.o.trans (Fr.below (w':=W.drew) (Z6 _ _).drew)).grown Ek (λk hk=>by cases hk;exact Or.inl (Or.inr rfl))
     have R4:=hI Bo;have hSM:w.heap.size≠M:=by omega
     have Yk:Hid (w3.heap[w.heap.size]? = some (.cells #[.string ⟨#[]⟩,.int .i64 0,.int .i64 0] 67)):=(HG.o _ (Z8.1 CC.o).1 hSM).trans CC.o;have F8:Hid (w3.heap[w2.heap.size]? = some (.cells #[.string n,.int .i64 0,.int .i64 0] 67)):=(HG.o _ rH yd).trans GH.o;clear hs ZV Z' Yl TG Xh Xw Xt Z3 Y' hR Wp iB QG CC GH HG Ek Bo;subst hW;go_wp2_with fail
     go_region_held3 (λw'=>w'.cell? ⟨R,2,none⟩=some (.map (some M))/\w'.cell? ⟨w2.heap.size,0,none⟩=some (.string n)) (first | exact⟨cR,cV⟩ | exact⟨fR,fV⟩) (fail)
     clear cR cV fR fV XW hMW P7 rH right;go_wp2_with fail
     refine (TF N R M en colW rK w3 q2 Ys.o).mono ?_;intro e w4 hp;cases hs:Zv en colW q2 with
     | bad x er =>
       rw[hs] at hp;obtain⟨rfl,Z'⟩:=hp;have ZR:=Yw.o.trans Z'.toRM;have Y6:Hid (P=.bad x er):=by show _=_;rw[YB.o,hs];rfl
       clear hs Z';go_wp2
       exact⟨rfl,by rw[Y6.o];exact⟨rfl,ZR⟩⟩
     | ok t4 q3 =>
       rw[hs] at hp;obtain⟨v,rfl,rfl,ZV,Z'⟩:=hp;have Wq:=hI ZV;have UX:Hid (Fr (XRM R M) w w4):=Yw.o.trans Z'.toRM;have L6:Hid (NmS w4 M (names++[n])):=R4.o.old (Z'.block M R4.o.lt TQ);have Vc:Hid (w4.heap[w.heap.size]? = some (.cells #[.string ⟨#[]⟩,.int .i64 0,.int .i64 0] 67)):=(Z'.block _ (Z8.1 Yk.o).1 (by omega)).trans Yk.o
       have IJ:Hid (w4.heap[w2.heap.size]? = some (.cells #[.string n,.int .i64 0,.int .i64 0] 67)):=(Z'.block _ (Z8.1 F8.o).1 (by omega)).trans F8.o
       have WG:Hid (P=(Yi en q3).bind λlo l=>(Zv en TR l).bind λ_ l=>(Yi en l).bind λhi l=>(Zv en YV l).bind λ_ l=>.ok ⟨n,lo,hi⟩ l):=by show _=_;rw[YB.o,hs];rfl
       clear hs ZV Z' Ys Yw R4 Yk F8 YB;go_wp2_with fail
       refine (BX N R M en w4 q3 Wq.o).mono ?_;intro e w5 hp;cases hs:Yi en q3 with
       | bad x er =>
         rw[hs] at hp;obtain⟨rfl,Z'⟩:=hp;have ZR:=UX.o.trans Z'.toRM;have Y6:Hid (P=.bad x er):=by show _=_;rw[WG.o,hs];rfl
         clear hs Z';go_wp2
         exact⟨rfl,by rw[Y6.o];exact⟨rfl,ZR⟩⟩
       | ok lo q4 =>
         rw[hs] at hp;obtain⟨v,rfl,⟨rfl,YM,Wc⟩,ZV,Z'⟩:=hp;have QT:=hI ZV;have QJ:Hid (Fr (XRM R M) w w5):=UX.o.trans Z'.toRM;have iA:Hid (NmS w5 M (names++[n])):=L6.o.old (Z'.block M L6.o.lt TQ);have NG:Hid (w5.heap[w.heap.size]? = some (.cells #[.string ⟨#[]⟩,.int .i64 0,.int .i64 0] 67)):=(Z'.block _ (Z8.1 Vc.o).1 (by omega)).trans Vc.o
         have yc:Hid (w5.heap[w2.heap.size]? = some (.cells #[.string n,.int .i64 0,.int .i64 0] 67)):=(Z'.block _ (Z8.1 IJ.o).1 (by omega)).trans IJ.o
         have J0:Hid (P=(Zv en TR q4).bind λ_ l=>(Yi en l).bind λhi l=>(Zv en YV l).bind λ_ l=>.ok ⟨n,lo,hi⟩ l):=by show _=_;rw[WG.o,hs];rfl
         clear hs ZV Z' Wq UX L6 Vc IJ WG;have r5:=Z_ yc.o 1 _ rfl;have z5:=Z0 yc.o 1;have Bn:Hid (Rd N R M en (w5.setCell ⟨w2.heap.size,1,none⟩ (.int .i64 lo)) q4):=QT.o.set (p:=⟨w2.heap.size,1,none⟩) (show w2.heap.size≠R by omega) (show N<=w2.heap.size by omega) _
         have F0:Hid (Fr (XRM R M) w (w5.setCell ⟨w2.heap.size,1,none⟩ (.int .i64 lo))):=QJ.o.setNew (p:=⟨w2.heap.size,1,none⟩) (Vm JZ) _;have FZ:Hid (NmS (w5.setCell ⟨w2.heap.size,1,none⟩ (.int .i64 lo)) M (names++[n])):=iA.o.old (Below.heap_setCell _ _ _ _ (show M≠w2.heap.size from Ne.symm yd))
         have FY:Hid ((w5.setCell ⟨w2.heap.size,1,none⟩ (.int .i64 lo)).heap[w.heap.size]? = some (.cells #[.string ⟨#[]⟩,.int .i64 0,.int .i64 0] 67)):=(Below.heap_setCell _ _ _ _ (show w.heap.size≠w2.heap.size by omega)).trans NG.o
         have FX:Hid ((w5.setCell ⟨w2.heap.size,1,none⟩ (.int .i64 lo)).heap[w2.heap.size]? = some (.cells #[.string n,.int .i64 lo,.int .i64 0] 67)):=by show _=_;rw[heap_setCell_same w5 w2.heap.size 1 _ _ _ yc.o];rfl
         clear QT QJ iA NG yc;go_wp2_with fail
         refine (TF N R M en TR rJ _ q4 Bn.o).mono ?_;intro e w6 hp;cases hs:Zv en TR q4 with
         | bad x er =>
           rw[hs] at hp;obtain⟨rfl,Z'⟩:=hp;have ZR:=F0.o.trans Z'.toRM;have Y6:Hid (P=.bad x er):=by show _=_;rw[J0.o,hs];rfl
           clear hs Z';go_wp2
           exact⟨rfl,by rw[Y6.o];exact⟨rfl,ZR⟩⟩
         | ok t6 q5 =>
           rw[hs] at hp;obtain⟨v,rfl,rfl,ZV,Z'⟩:=hp;have U4:=hI ZV;have VA:Hid (Fr (XRM R M) w w6):=F0.o.trans Z'.toRM;have rG:Hid (NmS w6 M (names++[n])):=FZ.o.old (Z'.block M FZ.o.lt TQ);have rF:Hid (w6.heap[w.heap.size]? = some (.cells #[.string ⟨#[]⟩,.int .i64 0,.int .i64 0] 67)):=(Z'.block _ (Z8.1 FY.o).1 (by omega)).trans FY.o
           have rE:Hid (w6.heap[w2.heap.size]? = some (.cells #[.string n,.int .i64 lo,.int .i64 0] 67)):=(Z'.block _ (Z8.1 FX.o).1 (by omega)).trans FX.o
           have Ec:Hid (P=(Yi en q5).bind λhi l=>(Zv en YV l).bind λ_ l=>.ok ⟨n,lo,hi⟩ l):=by show _=_;rw[J0.o,hs];rfl
           clear hs ZV Z' Bn F0 FZ FY FX J0;clear r5 z5;go_wp2_with fail
           refine (BX N R M en w6 q5 U4.o).mono ?_;intro e w7 hp;cases hs:Yi en q5 with
           | bad x er =>
             rw[hs] at hp;obtain⟨rfl,Z'⟩:=hp;have ZR:=VA.o.trans Z'.toRM;have Y6:Hid (P=.bad x er):=by show _=_;rw[Ec.o,hs];rfl
             clear hs Z';go_wp2
             exact⟨rfl,by rw[Y6.o];exact⟨rfl,ZR⟩⟩
           | ok hi q6 =>
             rw[hs] at hp;obtain⟨v,rfl,⟨rfl,YM,Wc⟩,ZV,Z'⟩:=hp;have Lu:=hI ZV;have Pc:Hid (Fr (XRM R M) w w7):=VA.o.trans Z'.toRM;have iz:Hid (NmS w7 M (names++[n])):=rG.o.old (Z'.block M rG.o.lt TQ);have iy:Hid (w7.heap[w.heap.size]? = some (.cells #[.string ⟨#[]⟩,.int .i64 0,.int .i64 0] 67)):=(Z'.block _ (Z8.1 rF.o).1 (by omega)).trans rF.o
             have yb:Hid (w7.heap[w2.heap.size]? = some (.cells #[.string n,.int .i64 lo,.int .i64 0] 67)):=(Z'.block _ (Z8.1 rE.o).1 (by omega)).trans rE.o
             have Eb:Hid (P=(Zv en YV q6).bind λ_ l=>.ok ⟨n,lo,hi⟩ l):=by show _=_;rw[Ec.o,hs];rfl
             clear hs ZV Z' U4 VA rG rF rE Ec;have r7:=Z_ yb.o 2 _ rfl;have z7:=Z0 yb.o 2;have Bm:Hid (Rd N R M en (w7.setCell ⟨w2.heap.size,2,none⟩ (.int .i64 hi)) q6):=Lu.o.set (p:=⟨w2.heap.size,2,none⟩) (show w2.heap.size≠R by omega) (show N<=w2.heap.size by omega) _
             have FW:Hid (Fr (XRM R M) w (w7.setCell ⟨w2.heap.size,2,none⟩ (.int .i64 hi))):=Pc.o.setNew (p:=⟨w2.heap.size,2,none⟩) (Vm JZ) _;have FV:Hid (NmS (w7.setCell ⟨w2.heap.size,2,none⟩ (.int .i64 hi)) M (names++[n])):=iz.o.old (Below.heap_setCell _ _ _ _ (show M≠w2.heap.size from Ne.symm yd))
             have FU:Hid ((w7.setCell ⟨w2.heap.size,2,none⟩ (.int .i64 hi)).heap[w.heap.size]? = some (.cells #[.string ⟨#[]⟩,.int .i64 0,.int .i64 0] 67)):=(Below.heap_setCell _ _ _ _ (show w.heap.size≠w2.heap.size by omega)).trans iy.o
             have FT:Hid ((w7.setCell ⟨w2.heap.size,2,none⟩ (.int .i64 hi)).heap[w2.heap.size]? = some (.cells #[.string n,.int .i64 lo,.int .i64 hi] 67)):=by show _=_;rw[heap_setCell_same w7 w2.heap.size 2 _ _ _ yb.o];rfl
             clear Lu Pc iz iy yb;go_wp2_with fail
             refine (TF N R M en YV J1 _ q6 Bm.o).mono ?_;intro e w8 hp;cases hs:Zv en YV q6 with
             | bad x er =>
               rw[hs] at hp;obtain⟨rfl,Z'⟩:=hp;have ZR:=FW.o.trans Z'.toRM;have Y6:Hid (P=.bad x er):=by show _=_;rw[Eb.o,hs];rfl
               clear hs Z';go_wp2
               exact⟨rfl,by rw[Y6.o];exact⟨rfl,ZR⟩⟩
             | ok t8 q7 =>
               rw[hs] at hp;obtain⟨v,rfl,rfl,ZV,Z'⟩:=hp;have Gb:=hI ZV;have TD:Hid (Fr (XRM R M) w w8):=FW.o.trans Z'.toRM;have HN8:Hid (NmS w8 M (names++[n])):=FV.o.old (Z'.block M FV.o.lt TQ);have On:Hid (w8.heap[w.heap.size]? = some (.cells #[.string ⟨#[]⟩,.int .i64 0,.int .i64 0] 67)):=(Z'.block _ (Z8.1 FU.o).1 (by omega)).trans FU.o
               have ya:Hid (w8.heap[w2.heap.size]? = some (.cells #[.string n,.int .i64 lo,.int .i64 hi] 67)):=(Z'.block _ (Z8.1 FT.o).1 (by omega)).trans FT.o
               have HP7:Hid (P=.ok ⟨n,lo,hi⟩ q7):=by show _=_;rw[Eb.o,hs];rfl
               clear hs ZV Z' Bm FW FV FU FT Eb;clear r7 z7;have a0:=Z_ ya.o 0 _ rfl;have a1:=Z_ ya.o 1 _ rfl;have a2:=Z_ ya.o 2 _ rfl;have b0:=Z_ On.o 0 _ rfl;have b1:=Z_ On.o 1 _ rfl;have b2:=Z_ On.o 2 _ rfl;have z0:=Z0 On.o 0;have z1:=Z0 On.o 1;have z2:=Z0 On.o 2;have hne2:w.heap.size≠R:=by omega
               have rD:M≠w.heap.size:=by omega
               clear On ya;go_wp2
               refine bodyPost_ret (by simp[results,results221,go_sem, *];try rfl) rfl ?_
               rw[HP7.o];refine⟨_,rfl,⟨rfl,XF.o,?_⟩,?_,?_⟩
               ·exact HN8.o.old ((Below.heap_setCell _ _ _ _ (by exact rD)).trans ((Below.heap_setCell _ _ _ _ (by exact rD)).trans (Below.heap_setCell _ _ _ _ (by exact rD))))
               ·exact ((Gb.o.set (p:=⟨w.heap.size,0,none⟩) hne2 J' _).set (p:=⟨w.heap.size,1,none⟩) hne2 J' _).set (p:=⟨w.heap.size,2,none⟩) hne2 J' _
               exact ((TD.o.setNew (p:=⟨w.heap.size,0,none⟩) (Z2 _) _).setNew (p:=⟨w.heap.size,1,none⟩) (Z2 _) _).setNew (p:=⟨w.heap.size,2,none⟩) (Z2 _) _
open Go.RowKit
theorem LSr.set {B base:Nat} {t:TypeId} {w:World} {v:Value} {acc:List (List Int)} (h:LSr B base w v acc) {C:Nat} {cs:Array Value} (hC:w.heap[C]? = some (.cells cs t)) (ht:t≠3) (ht2:t≠42) (i:Nat) (u:Value):LSr B base (w.setCell ⟨C,i,Option.none⟩ u) v acc:=by
 obtain⟨cells,h1,h2⟩:=h;refine⟨cells,V_ h1 hC ht2 i u,λj r hr=>?_⟩
 obtain⟨x,hx,ho⟩:=h2 j r hr;exact⟨x,hx,V_ ho hC ht i u⟩
theorem LSr.mono {B base base':Nat} {w:World} {v:Value} {acc:List (List Int)} (h:LSr B base w v acc) (hb:base'<=base):LSr B base' w v acc:=by
 obtain⟨cells,h1,h2⟩:=h;exact⟨cells,Ux h1 hb,h2⟩
def ConR (B:Nat) (w:World) (vv vc vr vl:Value) (c:MCon):Prop :=
 w.ownsRow B 3 1 vv c.vars.length (c.vars.map (Value.int .i64))/\w.ownsRow B 3 1 vc c.consts.length (c.consts.map (Value.int .i64))/\LSr B B w vr c.rows/\w.ownsRow B 76 3 vl c.lits.length (c.lits.flatMap litC)
theorem ConR.set {B:Nat} {w:World} {vv vc vr vl:Value} {c:MCon} (h:ConR B w vv vc vr vl c) {C:Nat} {cs:Array Value} (hC:w.heap[C]? = some (.cells cs 69)) (i:Nat) (u:Value):ConR B (w.setCell ⟨C,i,Option.none⟩ u) vv vc vr vl c :=
 ⟨V_ h.1 hC (by decide) i u,V_ h.2.1 hC (by decide) i u,h.2.2.1.set hC (by decide) (by decide) i u,V_ h.2.2.2 hC (by decide) i u⟩
theorem ConR.fr {X:Nat->Prop} {B:Nat} {w w':World} {vv vc vr vl:Value} {c:MCon} (h:ConR B w vv vc vr vl c) (hf:Fr X w w') (hX:∀k,X k->k<B):ConR B w' vv vc vr vl c :=
 ⟨TE h.1 hf hX,TE h.2.1 hf hX,h.2.2.1.fr hf hX hX,TE h.2.2.2 hf hX⟩
theorem ConR.mono {B B':Nat} {w:World} {vv vc vr vl:Value} {c:MCon} (h:ConR B w vv vc vr vl c) (hb:B'<=B):ConR B' w vv vc vr vl c:=by
 obtain⟨h1,h2,⟨cells,h3,h4⟩,h5⟩:=h;refine⟨Ux h1 hb,Ux h2 hb,⟨cells,Ux h3 hb,λi r hr=>?_⟩,Ux h5 hb⟩
 obtain⟨x,hx,ho⟩:=h4 i r hr;exact⟨x,hx,Ux ho hb⟩
theorem ConR.none (B:Nat) (w:World) (k:Int):ConR B w (.slice Option.none 0 0) (.slice Option.none 0 0) (.slice Option.none 0 0) (.slice Option.none 0 0) ⟨k,[],[],0,[],[]⟩ :=
 ⟨ZH _ _ _ _,ZH _ _ _ _,LSr.none _ _ _,ZH _ _ _ _⟩
structure ConS (N R M:Nat) (en:Int) (names:List ByteArray) (w0:World) (C:Nat) (w:World) (q:List Tok) (vv vc vr vl:Value) (c:MCon):Prop where
 rd:Rd N R M en w q
 fr:Fr (λk=>k=R) w0 w
 nm:NmS w M names
 res:w.heap[w0.heap.size]? = some (.cells #[.int .i64 0,.slice none 0 0,.slice none 0 0,.int .i64 0,.slice none 0 0,.slice none 0 0] 69)
 con:w.heap[C]? = some (.cells #[.int .i64 c.kind,vv,vc,.int .i64 c.n,vr,vl] 69)
 lt:w0.heap.size<C
 Rw:R<w0.heap.size
 Nw:N<=w0.heap.size
 Mw:M<w0.heap.size
 own:ConR w0.heap.size w vv vc vr vl c
section
variable {N R M:Nat} {en:Int} {names:List ByteArray} {w0:World} {C:Nat} {w w':World} {q q':List Tok} {vv vc vr vl:Value} {c:MCon}
theorem ConS.call (h:ConS N R M en names w0 C w q vv vc vr vl c) (hf:Fr (λk=>k=R) w w') (ZV:Rd N R M en w' q'):ConS N R M en names w0 C w' q' vv vc vr vl c where
 rd:=ZV
 fr:=h.fr.trans hf
 nm:=h.nm.old (hf.block M h.nm.lt ZV.1.2.2)
 res:=(hf.block _ (Z8.1 h.res).1 (by have:=h.Rw;omega)).trans h.res
 con:=(hf.block _ (Z8.1 h.con).1 (by have:=h.Rw;have:=h.lt;omega)).trans h.con
 lt:=h.lt
 Rw:=h.Rw
 Nw:=h.Nw
 Mw:=h.Mw
 own:=h.own.fr hf (λk hk=>by subst hk;exact h.Rw)
theorem ConS.below (h:ConS N R M en names w0 C w q vv vc vr vl c) (hb:Bw w w'):ConS N R M en names w0 C w' q vv vc vr vl c:=h.call (Fr.below hb) (h.rd.below hb)
theorem ConS.base (h:ConS N R M en names w0 C w q vv vc vr vl c):w0.heap.size<=w.heap.size:=h.fr.size
theorem ConS.put (h:ConS N R M en names w0 C w q vv vc vr vl c) (i:Nat) (u:Value) (vv' vc' vr' vl':Value) (c':MCon) (Wx:(#[.int .i64 c.kind,vv,vc,.int .i64 c.n,vr,vl]:Array Value).setIfInBounds i u=#[.int .i64 c'.kind,vv',vc',.int .i64 c'.n,vr',vl'])
 (ho:ConR w0.heap.size w vv' vc' vr' vl' c'):ConS N R M en names w0 C (w.setCell ⟨C,i,none⟩ u) q vv' vc' vr' vl' c' where
 rd:=h.rd.set (p:=⟨C,i,none⟩) (by have:=h.Rw;have:=h.lt;show C≠R;omega) (by have:=h.Nw;have:=h.lt;show N<=C;omega) u
 fr:=h.fr.setNew (p:=⟨C,i,none⟩) (Vm h.lt) u
 nm:=h.nm.old (Below.heap_setCell _ _ _ _ (by have:=h.Mw;have:=h.lt;show M≠C;omega))
 res:=(Below.heap_setCell _ _ _ _ (by have:=h.lt;show w0.heap.size≠C;omega)).trans h.res
 con:=by rw[heap_setCell_same w C i _ _ _ h.con,Wx]
 lt:=h.lt
 Rw:=h.Rw
 Nw:=h.Nw
 Mw:=h.Mw
 own:=ho.set h.con i u
theorem ConS.vars (h:ConS N R M en names w0 C w q vv vc vr vl c) {v:Value} {xs:List Int} (ho:w.ownsRow w0.heap.size 3 1 v xs.length (xs.map (Value.int .i64))):ConS N R M en names w0 C (w.setCell ⟨C,1,none⟩ v) q v vc vr vl { c with vars:=xs } :=
 h.put 1 v v vc vr vl { c with vars:=xs } rfl ⟨ho,h.own.2.1,h.own.2.2.1,h.own.2.2.2⟩
theorem ConS.consts (h:ConS N R M en names w0 C w q vv vc vr vl c) {v:Value} {xs:List Int} (ho:w.ownsRow w0.heap.size 3 1 v xs.length (xs.map (Value.int .i64))):ConS N R M en names w0 C (w.setCell ⟨C,2,none⟩ v) q vv v vr vl { c with consts:=xs } :=
 h.put 2 v vv v vr vl { c with consts:=xs } rfl ⟨h.own.1,ho,h.own.2.2.1,h.own.2.2.2⟩
theorem ConS.n (h:ConS N R M en names w0 C w q vv vc vr vl c) (n:Int):ConS N R M en names w0 C (w.setCell ⟨C,3,none⟩ (.int .i64 n)) q vv vc vr vl { c with n:=n } :=
 h.put 3 _ vv vc vr vl { c with n:=n } rfl h.own
theorem ConS.rows (h:ConS N R M en names w0 C w q vv vc vr vl c) {v:Value} {xs:List (List Int)} (ho:LSr w0.heap.size w0.heap.size w v xs):ConS N R M en names w0 C (w.setCell ⟨C,4,none⟩ v) q vv vc v vl { c with rows:=xs } :=
 h.put 4 v vv vc v vl { c with rows:=xs } rfl ⟨h.own.1,h.own.2.1,ho,h.own.2.2.2⟩
theorem ConS.lits (h:ConS N R M en names w0 C w q vv vc vr vl c) {v:Value} {xs:List MLit} (ho:w.ownsRow w0.heap.size 76 3 v xs.length (xs.flatMap litC)):ConS N R M en names w0 C (w.setCell ⟨C,5,none⟩ v) q vv vc vr v { c with lits:=xs } :=
 h.put 5 v vv vc vr v { c with lits:=xs } rfl ⟨h.own.1,h.own.2.1,h.own.2.2.1,ho⟩
theorem ConS.varsLit (h:ConS N R M en names w0 C w q vv vc vr vl c) (xs:List Int) (hx:xs.length<=100):ConS N R M en names w0 C ((w.setCell ⟨C,1,none⟩ (.slice (some ⟨w.heap.size,0,none⟩) xs.length xs.length)).alloc (.cells (xs.map (Value.int .i64)).toArray 3)) q (.slice (some ⟨w.heap.size,0,none⟩) xs.length xs.length) vc vr vl { c with vars:=xs }:=by
 rw[<-World.setCell_alloc_past _ _ _ _ (Z8.1 h.con).1];refine (h.below (Z4 _ _)).vars ?_;have:=World.ownsRow_lit (e:=3) (size:=1) w (xs.map (Value.int .i64)).toArray xs.length h.base (by unfold maxLen;omega) (by simp)
 simpa using this
theorem ConS.litLit (h:ConS N R M en names w0 C w q vv vc vr vl c) (x:MLit):ConS N R M en names w0 C ((w.setCell ⟨C,5,none⟩ (.slice (some ⟨w.heap.size,0,none⟩) 1 1)).alloc (.cells #[.int .i64 x.var,.int .i64 x.op,.int .i64 x.n] 76)) q vv vc vr (.slice (some ⟨w.heap.size,0,none⟩) 1 1) { c with lits:=[x] }:=by
 rw[<-World.setCell_alloc_past _ _ _ _ (Z8.1 h.con).1];refine (h.below (Z4 _ _)).lits (xs:=[x]) ?_;exact World.ownsRow_lit (e:=76) (size:=3) w #[.int .i64 x.var,.int .i64 x.op,.int .i64 x.n] 1 h.base (by unfold maxLen;omega) (by simp)
theorem O' {w:World} {D:Nat} {t:TypeId} (h:∃cs,w.heap[D]? = some (.cells cs t)) (i:Nat) (u:Value):∃cs,(w.setCell ⟨D,i,none⟩ u).heap[D]? = some (.cells cs t):=by
 obtain⟨cs,h⟩:=h;exact⟨_,heap_setCell_same w D i _ _ _ h⟩
theorem ConS.endd (h:ConS N R M en names w0 C w q vv vc vr vl c) (u0 u1 u2 u3 u4 u5:Value) (W:World)
 (hW:W=(((((w.setCell ⟨w0.heap.size,0,none⟩ u0).setCell ⟨w0.heap.size,1,none⟩ u1).setCell ⟨w0.heap.size,2,none⟩ u2).setCell ⟨w0.heap.size,3,none⟩ u3).setCell ⟨w0.heap.size,4,none⟩ u4).setCell ⟨w0.heap.size,5,none⟩ u5) :
 ConR w0.heap.size W vv vc vr vl c/\Rd N R M en W q/\Fr (λk=>k=R) w0 W:=by
 subst hW;have ZP:w0.heap.size≠R:=by have:=h.Rw;omega
 have k0:∃cs,w.heap[w0.heap.size]? = some (.cells cs 69):=⟨_,h.res⟩;have k1:=O' k0 0 u0;have k2:=O' k1 1 u1;have k3:=O' k2 2 u2;have k4:=O' k3 3 u3;have k5:=O' k4 4 u4;refine⟨?_,?_,?_⟩
 ·exact (((((h.own.set k0.choose_spec 0 u0).set k1.choose_spec 1 u1).set k2.choose_spec 2 u2).set k3.choose_spec 3 u3).set k4.choose_spec 4 u4).set k5.choose_spec 5 u5
 ·exact (((((h.rd.set (p:=⟨w0.heap.size,0,none⟩) ZP h.Nw _).set (p:=⟨w0.heap.size,1,none⟩) ZP h.Nw _).set (p:=⟨w0.heap.size,2,none⟩) ZP h.Nw _).set (p:=⟨w0.heap.size,3,none⟩) ZP h.Nw _).set (p:=⟨w0.heap.size,4,none⟩) ZP h.Nw _).set (p:=⟨w0.heap.size,5,none⟩) ZP h.Nw _
 exact (((((h.fr.setNew (p:=⟨w0.heap.size,0,none⟩) (Z2 _) _).setNew (p:=⟨w0.heap.size,1,none⟩) (Z2 _) _).setNew (p:=⟨w0.heap.size,2,none⟩) (Z2 _) _).setNew (p:=⟨w0.heap.size,3,none⟩) (Z2 _) _).setNew (p:=⟨w0.heap.size,4,none⟩) (Z2 _) _).setNew (p:=⟨w0.heap.size,5,none⟩) (Z2 _) _
end
def GC (B:Nat) (c:MCon) (v:Value) (w':World):Prop:=∃vv vc vr vl,v=conV vv vc vr vl c/\ConR B w' vv vc vr vl c
theorem zRF (en:Int) (names:List ByteArray) (k:Int) (l:List Tok) (h:¬k=1/\¬k=2/\¬k=3/\¬k=4/\¬k=5/\¬k=6/\¬k=7/\¬k=8/\¬k=9/\¬k=10):Wn en names k l=.ok ⟨k,[],[],0,[],[]⟩ l:=by
 obtain⟨h1,h2,h3,h4,h5,h6,h7,h8,h9,Up⟩:=h;unfold Wn;rw[if_neg (λh=>h.elim h1 (λh=>h.elim h2 h3)),if_neg h4,if_neg h5,if_neg h6,if_neg h7,if_neg h8,if_neg h9,if_neg Up]
theorem ZE {p:Prop} (h:p):Hid p:=h
theorem Q1 {α β γ:Type} {P:PR γ} {A:PR α} {F:α->List Tok->PR β} {G:β->List Tok->PR γ} {x:α} {q:List Tok} (h:Hid (P=(A.bind F).bind G)) (hs:A=.ok x q):Hid (P=(F x q).bind G):=by rw[hs] at h;exact h
theorem hbad {α β γ:Type} {P:PR γ} {A:PR α} {F:α->List Tok->PR β} {G:β->List Tok->PR γ} {x er:Int} (h:Hid (P=(A.bind F).bind G)) (hs:A=.bad x er):Hid (P=.bad x er):=by rw[hs] at h;exact h
theorem hend {α γ:Type} {P:PR γ} {A:PR α} {G:α->List Tok->PR γ} {x:α} {q:List Tok} (h:Hid (P=A.bind G)) (hs:A=.ok x q):Hid (P=G x q):=by rw[hs] at h;exact h
theorem rC {α γ:Type} {P:PR γ} {A:PR α} {G:α->List Tok->PR γ} {x er:Int} (h:Hid (P=A.bind G)) (hs:A=.bad x er):Hid (P=.bad x er):=by rw[hs] at h;exact h
theorem zJv (w:World) (ty:TypeId) (base n c:Nat) (v:Value) (xs:List Value) (Z9:w.ownsRow base 3 1 v n xs) :
 (Builtin.append_ #[42,42] ty #[v,.slice none 0 c]).run prog w=.ok v w:=by
 obtain⟨i0,hi,Ze,Y_,Zb⟩:=info_parts Eh;rcases Z9.2 with ⟨rfl,rfl⟩ | ⟨g,cap,cur,rfl,_,_,L8,_⟩
 ·simp[Builtin.append_,run_underlying Gc,sizeOf,typeInfo,hi,Builtin.lenOf,Builtin.firstCells]
 simp[Builtin.append_,run_underlying Gc,sizeOf,typeInfo,hi,Builtin.lenOf,Builtin.firstCells,L8,storeCells]
theorem zTK (l:List Int):∀u∈l.map (Value.int .i64),u.oneCell'=true:=by
 intro u hu;obtain⟨z,_,rfl⟩:=Zj.1 hu;rfl
theorem iw {α:Type} {en:Int} {item:List Tok->PR α} (hE:Eats item):∀(f:Nat) (acc:List α) (l:List Tok) (xs:List α) (r:List Tok),VV en item f acc l=.ok xs r->xs.length+r.length<=acc.length+l.length
 | 0,acc,l,xs,r,h=>by cases h
 | f+1,acc,l,xs,r,h=>by
   unfold VV at h
   split at h
   ·rename_i hb
    obtain⟨t,q,h1,h2⟩:=PR.bind_ok h;obtain⟨x,q2,h3,h4⟩:=PR.bind_ok h2;have e1:=Ox Gd h1;have e2:=hE q x q2 h3;have e3:=iw hE f _ q2 xs r h4;simp at e3;omega
   obtain⟨t,q,h1,h2⟩:=PR.bind_ok h;have e1:=Ox IR h1;cases h2
   omega
theorem zTL {α:Type} {en:Int} {item:List Tok->PR α} (hE:Eats item) {l r:List Tok} {xs:List α} (h:Yf en item l=.ok xs r):xs.length+r.length<=l.length:=by
 unfold Yf at h;obtain⟨t,q,h1,h2⟩:=PR.bind_ok h;have e1:=Ox Ge h1
 split at h2
 ·obtain⟨t2,q2,h3,h4⟩:=PR.bind_ok h2
  have e2:=Ox IR h3;cases h4
  simp;omega
 obtain⟨x,q2,h3,h4⟩:=PR.bind_ok h2;have e2:=hE q x q2 h3;have e3:=iw hE _ _ q2 xs r h4;simp at e3;omega
theorem iv {w:World} {o:Oper} {a:Act} {K:Act->World->Prop} {Q:Exit->Act->World->Prop} (s x:Operand)
 (ho:o.op=.call { callee:=.builtin .append,args:=#[s,x],argTypes:=#[42,42] }) (base:Nat)
 (v:Value) (xs:List Int) (hs:a.eval s=v) (Z9:w.ownsRow base 3 1 v xs.length (xs.map (Value.int .i64)))
 (u:Value) (l:List Int) (hx:a.eval x=u) (base2:Nat) (hl:w.ownsRow base2 3 1 u l.length (l.map (Value.int .i64))) (hn:xs.length+l.length<=100000) (Yv:base<=w.heap.size)
 (h:∀v' w',w'.ownsRow base 3 1 v' (xs++l).length ((xs++l).map (Value.int .i64))->w.grownBy w' v.ownBlock->K (a.put o.dst v') w'):o.wp prog a w K Q:=by
 obtain⟨i0,hi,Ze,Y_,Zb⟩:=info_parts Eh;rcases hl.2 with ⟨rfl,h0⟩ | ⟨g,cap,cur,rfl,_⟩
 ·have Xm:l=[]:=Xo.1 h0
  subst Xm;have hr:=zJv w o.type base xs.length 0 v _ Z9;unfold Oper.wp execOp;simp only[ho,resolve,invoke,builtin,Sem.run_bind,Sem.run_pure,Result.andThen_ok,Qu,VH,T9,hs,hx,hr];exact h v w (by rw[TA];exact Z9) ⟨rfl,rfl,rfl,Z2 _,λ_ _ _=>rfl⟩
 refine wp_append_own w s x 42 ho base 3 i0 (.int .i64 0) 1 8 Gc hi Ze Y_ Zb rfl (by decide) v xs.length _ hs Z9 ⟨g,0,none⟩ l.length cap (l.map (Value.int .i64)) hx (by simp) ?_ (zTK l) (by unfold maxLen;omega) (by omega) Yv ?_
 ·exact hl.cells rfl
 intro v' w' h1 h2 h3;exact h v' w' (by rw[ZC,YY];exact h1) h2
theorem x_ {w:World} {B:Nat} {e t:TypeId} {size n g cap:Nat} {xs:List Value} (h:w.ownsRow B e size (.slice (some ⟨g,0,none⟩) n cap) n xs) {C:Nat} {cs:Array Value} (hC:w.heap[C]? = some (.cells cs t)) (ht:t≠e):C≠g:=by
 rcases h.2 with ⟨hn,_⟩ | ⟨g',cap',cur,hv,_,hh,_⟩
 ·cases hn
 simp only[Value.slice.injEq,Option.some.injEq,Addr.mk.injEq,and_true,true_and] at hv;obtain⟨rfl,rfl⟩:=hv;intro e1;rw[e1,hh] at hC
 injection hC with h1
 injection h1 with _ h2
 exact ht h2.symm
theorem ConS.append8 {N R M:Nat} {en:Int} {names:List ByteArray} {w0:World} {C g:Nat} {w w':World} {q:List Tok} {a:Int} {vs:List Int} {v':Value} (h:ConS N R M en names w0 C w q (.slice (some ⟨g,0,none⟩) 1 1) (.slice none 0 0) (.slice none 0 0) (.slice none 0 0) ⟨8,[a],[],0,[],[]⟩)
 (Z9:w'.ownsRow w0.heap.size 3 1 v' ([a]++vs).length (([a]++vs).map (Value.int .i64))) (hg:w.grownBy w' (some g)) :
 ConS N R M en names w0 C (w'.setCell ⟨C,1,none⟩ v') q v' (.slice none 0 0) (.slice none 0 0) (.slice none 0 0) ⟨8,[a]++vs,[],0,[],[]⟩/\w'.heap[C]? = some (.cells #[.int .i64 8,.slice (some ⟨g,0,none⟩) 1 1,.slice none 0 0,.int .i64 0,.slice none 0 0,.slice none 0 0] 69):=by
 have Jl:=h.own.1.lt g rfl;have e1:C≠g:=x_ h.own.1 h.con (by decide)
 have e2:w0.heap.size≠g:=x_ h.own.1 h.res (by decide)
 have VY:=(hg.block C (Z8.1 h.con).1 (λe=>e1 (Zl e))).trans h.con
 refine⟨?_,VY⟩;exact {
  rd:=(h.rd.grown hg (λk hk=>by cases hk;have:=h.Rw;have:=h.Nw;omega)).set (p:=⟨C,1,none⟩) (by have:=h.Rw;have:=h.lt;show C≠R;omega) (by have:=h.Nw;have:=h.lt;show N<=C;omega) _
  fr:=(h.fr.grown hg (λk hk=>by cases hk;exact Or.inr Jl.1)).setNew (p:=⟨C,1,none⟩) (Vm h.lt) _
  nm:=(h.nm.old (hg.block M h.nm.lt (λe=>by have:=Zl e;have:=h.Mw;omega))).old (Below.heap_setCell _ _ _ _ (by have:=h.Mw;have:=h.lt;show M≠C;omega))
  res:=(Below.heap_setCell _ _ _ _ (by have:=h.lt;show w0.heap.size≠C;omega)).trans ((hg.block _ (Z8.1 h.res).1 (λe=>e2 (Zl e))).trans h.res)
  con:=by rw[heap_setCell_same w' C 1 _ _ _ VY];rfl
  lt:=h.lt
  Rw:=h.Rw
  Nw:=h.Nw
  Mw:=h.Mw
  own:=⟨V_ Z9 VY (by decide) 1 v',ZH _ _ _ _,LSr.none _ _ _,ZH _ _ _ _⟩ }
end Go.Proofs.YtndcpnlaadikoaaGreatDoor
