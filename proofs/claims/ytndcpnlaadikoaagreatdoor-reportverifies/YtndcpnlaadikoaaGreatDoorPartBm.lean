/- What the proof leans on, part 39. -/
import Derived.Test.YtndcpnlaadikoaaGreatDoorPartBl
set_option maxRecDepth 100000
set_option maxHeartbeats 6400000
open Go.Proofs.Tryz
namespace Go.Proofs.YtndcpnlaadikoaaGreatDoor
open Go.RowKit
def x9 (en:Int) (vs:List MVar) (l:List Tok):PR Mod :=
 (Oy en (vs.map MVar.name) (l.length+1) [] l).bind λcs l=>(J_ en (vs.map MVar.name) l).bind λg l=>if 0<l.length then .bad (ZL en l).place 1 else .ok ⟨vs,cs,g.1,g.2⟩ l
def endP (en:Int) (vs:List MVar) (cs:List MCon) (l:List Tok):PR Mod :=
 (J_ en (vs.map MVar.name) l).bind λg l=>if 0<l.length then .bad (ZL en l).place 1 else .ok ⟨vs,cs,g.1,g.2⟩ l
def GM (B:Nat) (m:Mod) (v:Value) (w':World):Prop:=∃vs cs,v=modV vs cs m/\w'.ownsRow B 67 3 vs m.vars.length (m.vars.flatMap varC)/\LCr B w' cs m.cons/\(∀x∈m.vars,x.name.size<=maxLen)/\m.vars.length<=4000/\m.cons.length<=4000
theorem ij (x:MVar):∀u∈varC x,u.oneCell'=true:=by
 intro u hu;simp only[varC,YJ,Tx,or_false] at hu;rcases hu with rfl | rfl | rfl <;> rfl
theorem ii {B:Nat} {w:World} {vv vc vr vl:Value} {c:MCon} (h:ConR B w vv vc vr vl c):∀u∈conC vv vc vr vl c,u.oneCell'=true:=by
 obtain⟨a1,c1,rfl⟩:=ZJ h.1;obtain⟨a2,c2,rfl⟩:=ZJ h.2.1;obtain⟨a3,c3,rfl⟩:=h.2.2.1.form;obtain⟨a4,c4,rfl⟩:=ZJ h.2.2.2;intro u hu;simp only[conC,YJ,Tx,or_false] at hu;rcases hu with rfl | rfl | rfl | rfl | rfl | rfl <;> rfl
theorem ModSt.endd {N R M:Nat} {en:Int} {names:List ByteArray} {w0 w:World} {q:List Tok} {vs cs:Value} {vars:List MVar} {cons:List MCon} (h:ModSt N R M en w0 w q names vs cs vars cons) (u2 u3 e0 e1 e2 e3:Value) (W:World)
 (hW:W=(((((w.setCell ⟨w0.heap.size+1,2,none⟩ u2).setCell ⟨w0.heap.size+1,3,none⟩ u3).setCell ⟨w0.heap.size,0,none⟩ e0).setCell ⟨w0.heap.size,1,none⟩ e1).setCell ⟨w0.heap.size,2,none⟩ e2).setCell ⟨w0.heap.size,3,none⟩ e3) :
 W.ownsRow w0.heap.size 67 3 vs vars.length (vars.flatMap varC)/\LCr w0.heap.size W cs cons/\Rd N R M en W q/\Fr (XRM R M) w0 W:=by
 subst hW;have Ow:=h.Rw;have J':=h.Nw;have ZP:w0.heap.size≠R:=by omega
 have Bg:w0.heap.size+1≠R:=by omega
 have ig:N<=w0.heap.size+1:=by omega
 have m0:∃cs,w.heap[w0.heap.size+1]? = some (.cells cs 25):=⟨_,h.mod⟩;have m1:=O' m0 2 u2;have k0:∃cs,((w.setCell ⟨w0.heap.size+1,2,none⟩ u2).setCell ⟨w0.heap.size+1,3,none⟩ u3).heap[w0.heap.size]? = some (.cells cs 25) :=
  ⟨_,(Below.heap_setCell _ _ _ _ (show w0.heap.size≠w0.heap.size+1 by omega)).trans ((Below.heap_setCell _ _ _ _ (show w0.heap.size≠w0.heap.size+1 by omega)).trans h.res)⟩
 have k1:=O' k0 0 e0;have k2:=O' k1 1 e1;have k3:=O' k2 2 e2;refine⟨?_,?_,?_,?_⟩
 ·exact V_ (V_ (V_ (V_ (V_ (V_ h.vown m0.choose_spec (by decide) 2 u2) m1.choose_spec (by decide) 3 u3) k0.choose_spec (by decide) 0 e0) k1.choose_spec (by decide) 1 e1) k2.choose_spec (by decide) 2 e2) k3.choose_spec (by decide) 3 e3
 ·exact (((((h.cown.set m0.choose_spec 2 u2).set m1.choose_spec 3 u3).set k0.choose_spec 0 e0).set k1.choose_spec 1 e1).set k2.choose_spec 2 e2).set k3.choose_spec 3 e3
 ·exact (((((h.rd.set (p:=⟨w0.heap.size+1,2,none⟩) Bg ig _).set (p:=⟨w0.heap.size+1,3,none⟩) Bg ig _).set (p:=⟨w0.heap.size,0,none⟩) ZP h.Nw _).set (p:=⟨w0.heap.size,1,none⟩) ZP h.Nw _).set (p:=⟨w0.heap.size,2,none⟩) ZP h.Nw _).set (p:=⟨w0.heap.size,3,none⟩) ZP h.Nw _
 exact (((((h.fr.setNew (p:=⟨w0.heap.size+1,2,none⟩) (Nat.le_succ _) _).setNew (p:=⟨w0.heap.size+1,3,none⟩) (Nat.le_succ _) _).setNew (p:=⟨w0.heap.size,0,none⟩) (Z2 _) _).setNew (p:=⟨w0.heap.size,1,none⟩) (Z2 _) _).setNew (p:=⟨w0.heap.size,2,none⟩) (Z2 _) _).setNew (p:=⟨w0.heap.size,3,none⟩) (Z2 _) _
theorem zRH (N R M:Nat) (en:Int) (w:World) (l:List Tok) (h:Rd N R M en w l) (hn:NmS w M []) (ye:N<=M) :
 Calls prog 138 #[.pointer (some ⟨R,0,none⟩)] w (Vy (Gi en l) (GM w.heap.size) N R M en (XRM R M) w):=by
 have HB:=hI h;have HN:=hI hn;have TQ:M≠R:=h.1.2.2;have Ow:R<w.heap.size:=by obtain⟨_,_,hR,_⟩:=h;exact (Z8.1 hR).1
 have Ed:M<w.heap.size:=hn.lt;have J':N<=w.heap.size:=h.1.2.1;have Pk:=h.len;obtain⟨iV,rA,FQ,FP,FO⟩:=info_parts iq;obtain⟨iC,rz,FN,FM,FL⟩:=info_parts io;obtain⟨P,hP⟩:∃P,Gi en l=P:=⟨_,rfl⟩;have Bp:Hid (P=(MH en (l.length+1) [] l).bind (x9 en)):=by show _=_;rw[<-hP];rfl
 rw[hP];clear h hP hn;go_enter func138,ntmps138
 go_wp2_with fail
 obtain⟨W0,Bf⟩:∃W0,W0=(w.alloc (.cells #[.slice none 0 0,.slice none 0 0,.int .i64 0,.int .i64 0] 25)).alloc (.cells #[.slice none 0 0,.slice none 0 0,.int .i64 0,.int .i64 0] 25):=⟨_,rfl⟩;have Xi:Bw w W0:=by rw[Bf];exact (Z4 _ _).trans ((Z4 _ _).mono (by simp))
 have Xd:Hid (ModSt N R M en w W0 l [] (.slice none 0 0) (.slice none 0 0) [] []):=by
  refine⟨HB.o.below Xi,Fr.below Xi,HN.o.old (Xi.block M Ed),?_,?_,Ow,J',Ed,ye,ZH _ _ _ _,LCr.none _ _⟩
  ·rw[Bf];exact ((Z4 _ _).block _ (by simp)).trans (by show (w.heap.push _)[w.heap.size]? = _;simp)
  have Y':w.heap.size+1=(w.alloc (.cells #[.slice none 0 0,.slice none 0 0,.int .i64 0,.int .i64 0] 25)).heap.size:=by simp
  rw[Bf,Y'];exact heap_alloc_new _ _
 rw[<-Bf];clear Xi Bf;go_loopw [] (λwr=>∃(f:Nat) (vars:List MVar) (q:List Tok) (vs:Value),Hid (P=(MH en f vars q).bind (x9 en))/\Hid (ModSt N R M en w wr q (vars.map MVar.name) vs (.slice none 0 0) vars [])/\Hid (∀n∈vars.map MVar.name,n.data.toList≠[])/\Hid (∀x∈vars,x.name.size<=maxLen)/\q.length+1<=f/\vars.length+q.length<=4000) (λwr=>Ss R wr)
 case atStart=>exact⟨_,[],l,_,Bp,Xd,λn hn=>by (simp at hn),λx hx=>by (simp at hx),by omega,by simp;omega⟩
 obtain⟨f,vars,q,vs,JV,WW,Vx,XF,hf,Zr⟩:=hrel;obtain⟨g,rfl⟩:∃g,f=g+1:=⟨f - 1,by omega⟩
 have Ye:=PW (ZL en q);obtain⟨av,cv,hv⟩:=ZJ WW.o.vown;subst hv;have GH:Hid ((⟨#[118,97,114]⟩:ByteArray).toList=[118,97,114]):=by show _=_;simp[go_sem]
 cases hc:((ZL en q).text.toList==[118,97,114])
 ·have VU:Hid (P=(Oy en (vars.map MVar.name) (q.length+1) [] q).bind (endP en vars)):=by show _=_;rw[JV.o,MH,hc];rfl
  obtain⟨names,Vv⟩:∃names,vars.map MVar.name=names:=⟨_,rfl⟩;have Gf:=hI Vv;rw[Vv] at VU WW Vx;clear JV Vv;go_wp2_with fail
  refine (Vz N R M en _ q WW.o.rd).mono ?_;rintro e w6 ⟨rfl,Yz⟩;have Wr:=hI (WW.o.below Yz);have X8:vars.length<=4000:=by omega
  unfold tokA;clear Yz WW;go_wp2_with fail
  clear hc Ye;go_loopw [] (λwr=>∃(f:Nat) (cons:List MCon) (q:List Tok) (cs:Value),Hid (P=(Oy en names f cons q).bind (endP en vars))/\Hid (ModSt N R M en w wr q names (.slice av vars.length cv) cs vars cons)/\q.length+1<=f/\cons.length+q.length<=4000) (λwr=>Ss R wr)
  case atStart=>exact⟨_,[],q,_,VU,Wr,by omega,by simp;omega⟩
  clear VU Wr hf Zr;obtain⟨f,cons,q,cs,JV,WW,hf,Zr⟩:=hrel;obtain⟨g,rfl⟩:∃g,f=g+1:=⟨f - 1,by omega⟩
  have Ye:=PW (ZL en q);obtain⟨ac,cc,hv⟩:=WW.o.cown.form;subst hv;have y8:Hid ((⟨#[99,111,110]⟩:ByteArray).toList=[99,111,110]):=by show _=_;simp[go_sem]
  cases hc:((ZL en q).text.toList==[99,111,110])
  ·have VU:Hid (P=endP en vars cons q):=by show _=_;rw[JV.o,Oy,hc];rfl
   clear JV;go_wp2_with fail
   refine (Vz N R M en _ q WW.o.rd).mono ?_;rintro e w7 ⟨rfl,Sf⟩;have Vu:=hI (WW.o.below Sf);unfold tokA;clear Sf WW;go_wp2_with fail
   clear hc Ye;refine (zTJ N R M en names w7 q Vu.o.rd Vu.o.nm Vx.o).mono ?_;intro e w8 hp;cases hs:J_ en names q with
   | bad x er =>
     rw[hs] at hp;obtain⟨rfl,Z'⟩:=hp;have ZR:=Vu.o.fr.trans Z'.toRM;have Y6:Hid (P=.bad x er):=by show _=_;rw[VU.o];unfold endP;rw[Gf.o,hs];rfl
     clear hs Z';go_wp2
     exact⟨rfl,by rw[Y6.o];exact⟨rfl,ZR⟩⟩
   | ok gg q5 =>
     rw[hs] at hp;obtain⟨v,rfl,rfl,ZV,Z'⟩:=hp;have Wz:Hid (ModSt N R M en w w8 q5 names (.slice av vars.length cv) (.slice ac cons.length cc) vars cons):=Vu.o.callR Z' ZV;have Rl:Hid (P=if 0<q5.length then .bad (ZL en q5).place 1 else .ok ⟨vars,cons,gg.1,gg.2⟩ q5):=by show _=_;rw[VU.o];unfold endP;rw[Gf.o,hs];rfl
     have r2:=Z_ Wz.o.mod 2 _ rfl;have r3:=Z_ Wz.o.mod 3 _ rfl;have r0:=Z_ Wz.o.mod 0 _ rfl;have r1:=Z_ Wz.o.mod 1 _ rfl;have z2:=Z0 Wz.o.mod 2;have z3:=Z0 Wz.o.mod 3;have b0:=Z_ Wz.o.res 0 _ rfl;have b1:=Z_ Wz.o.res 1 _ rfl;have b2:=Z_ Wz.o.res 2 _ rfl;have b3:=Z_ Wz.o.res 3 _ rfl;have y0:=Z0 Wz.o.res 0;have y1:=Z0 Wz.o.res 1;have y2:=Z0 Wz.o.res 2;have y3:=Z0 Wz.o.res 3;obtain⟨_,vr,hR,ar,cr,rfl,⟨ry,ru⟩,_,_⟩:=Wz.o.rd;have cR:w8.cell? ⟨R,0,none⟩=some (.slice ar q5.length cr):=by rw[Lib.cell_of_heap hR];rfl
     have Be:R≠w.heap.size+1:=by omega
     obtain⟨g1,hg1⟩:∃g1,gg.1=g1:=⟨_,rfl⟩;obtain⟨g2,hg2⟩:∃g2,gg.2=g2:=⟨_,rfl⟩;rw[hg1,hg2] at Rl ⊢;have Jf:Hid (Rd N R M en ((w8.setCell ⟨w.heap.size+1,2,none⟩ (.int .i64 g1)).setCell ⟨w.heap.size+1,3,none⟩ (.int .i64 g2)) q5/\Fr (XRM R M) w ((w8.setCell ⟨w.heap.size+1,2,none⟩ (.int .i64 g1)).setCell ⟨w.heap.size+1,3,none⟩ (.int .i64 g2))) :=
      ⟨(Wz.o.rd.set (p:=⟨w.heap.size+1,2,none⟩) (Ne.symm Be) (show N<=w.heap.size+1 by omega) _).set (p:=⟨w.heap.size+1,3,none⟩) (Ne.symm Be) (show N<=w.heap.size+1 by omega) _,(Wz.o.fr.setNew (p:=⟨w.heap.size+1,2,none⟩) (show w.heap.size<=w.heap.size+1 by omega) _).setNew (p:=⟨w.heap.size+1,3,none⟩) (show w.heap.size<=w.heap.size+1 by omega) _⟩
     clear hs Z' ZV VU Vu hR hg1 hg2 ry ru;cases q5 with
     | nil =>
       have G5:Hid (P=.ok ⟨vars,cons,g1,g2⟩ []):=by show _=_;rw[Rl.o];rfl
       go_wp2
       refine bodyPost_ret (by simp[results,results138,go_sem, *];try rfl) rfl ?_
       rw[G5.o];obtain⟨e1,e2,e3,e4⟩:=Wz.o.endd _ _ _ _ _ _ _ rfl;exact⟨_,rfl,⟨_,_,rfl,e1,e2,XF.o,X8,by show cons.length<=4000;omega⟩,e3,e4⟩
     | cons t5 r5 =>
       have G5:Hid (P=.bad t5.place 1):=by show _=_;rw[Rl.o];rfl
       have iY:((t5 :: r5).length:Int)=(r5.length:Int)+1:=by simp
       go_wp2_with fail
       refine (sJ N R M en 1 _ (t5 :: r5) Jf.o.1).mono ?_;rintro e w9 ⟨rfl,U6⟩;have ZR:=Jf.o.2.trans (Fr.below U6);go_wp2
       exact⟨rfl,by rw[G5.o];exact⟨rfl,ZR⟩⟩
  have VU:Hid (P=((conP en names q).bind λc l=>Oy en names g (cons++[c]) l).bind (endP en vars)):=by show _=_;rw[JV.o,Oy,hc,if_pos rfl]
  clear JV;go_wp2_with fail
  refine (Vz N R M en _ q WW.o.rd).mono ?_;rintro e w7 ⟨rfl,Sf⟩;have Vu:=hI (WW.o.below Sf);have HM7:Hid (Ss R wr=q.length):=Lv WW.o.rd;unfold tokA;clear Sf WW;go_wp2_with fail
  have c1:w7.cell? ⟨w.heap.size+1,1,none⟩=some (.slice ac cons.length cc):=Z_ Vu.o.mod 1 _ rfl;have WR:Hid (ModSt N R M en w w7.drew q names (.slice av vars.length cv) (.slice ac cons.length cc) vars cons):=Vu.o.below (Z6 _ _).drew;have Xs:=zU8 N R M en names w7.drew q WR.o.rd WR.o.nm Vx.o;cases hs:conP en names q with
  | bad x er =>
    have Y6:Hid (P=.bad x er):=by show _=_;rw[VU.o,hs];rfl
    rw[hs] at Xs;clear hs hc Ye;refine wp_region_held_drew (S:=λw'=>w'=w7.drew) (by kernel_rfl) rfl (λS6=>?_)
    refine wpAnyH_take (i:=0) (v:=?v0b) rfl (by kernel_rfl) (by kernel_rfl) (by kernel_rfl) (λ_ _ _ h=>h) (Or.inl ⟨by rfl,?y0b⟩) rfl ?r0b
    case y0b=>intro wq WA;subst WA;go_simp;with_reducible rfl
    refine wpAnyH_take (i:=1) (v:=?v1b) rfl (by kernel_rfl) (by kernel_rfl) (by kernel_rfl) (λ_ _ _ h=>h) (Or.inl ⟨by rfl,?y1b⟩) rfl ?r1b
    case y1b=>intro wq WA;subst WA;go_simp;with_reducible rfl
    refine wpAnyH_take (i:=2) (v:=?v2b) rfl (by kernel_rfl) (by kernel_rfl) (by kernel_rfl) (λ_ _ _ h=>h) (Or.inl ⟨by rfl,?y2b⟩) rfl ?r2b
    case y2b=>intro wq WA;subst WA;go_simp;with_reducible rfl
    refine wpAnyH_ready (rs:=[3]) (by kernel_rfl) (by simp) ?_
    refine AllReadyH.cons rfl (λK hK=>?_) AllReadyH.nil
    clear hK;go_simp
    refine Xs.mono ?_;rintro e w8 ⟨rfl,Z'⟩;have ZR:=WR.o.fr.trans Z'.toRM;clear Xs Z';go_wp2
    exact⟨rfl,by rw[Y6.o];exact⟨rfl,ZR⟩⟩
  | ok x q2 =>
    have YA:q2.length+1<=q.length:=zWY hs;have Rl:Hid (P=(Oy en names g (cons++[x]) q2).bind (endP en vars)):=by show _=_;rw[VU.o,hs];rfl
    rw[hs] at Xs;clear hs hc Ye VU;go_region_law
     (first
       | (rw[if_pos (by rfl)];refine wp_append_own _ _ _ 23 rfl w.heap.size 69 iC _ 6 112 im rz FN FM FL rfl (by decide) _ _ _ rfl (QF.alloc _) ⟨w8.heap.size,0,none⟩ 1 1 (conC _ _ _ _ x) rfl rfl (ik w8 _ _ _ _ x) (ii Wj) ?_ ?_ ?_ ?_;(unfold maxLen;omega);omega;(have:=HT.base;simp;omega);intro v9 w9 Zp Xg _;have HU:=HT.pushCon Wj QF hcells8 Xg Zp;have d0:=Z_ HU.1 1 _ rfl;have z0:=Z0 HU.1 1;obtain⟨a9,b9,Rk⟩:=ZJ Zp;subst Rk)
       | (rw[if_pos (by rfl)];go_simp;go_at_call 222;refine Xs.mono ?_;rintro e w8 ⟨v8,rfl,⟨vv,vc,vr,vl,rfl,Bd⟩,Bc,Tg⟩;have HT:=WR.o.callR Tg Bc;have Wj:=Bd.mono WR.o.base;obtain⟨x1,y1,Rf⟩:=ZJ Wj.1;obtain⟨x2,y2,GN⟩:=ZJ Wj.2.1;obtain⟨x3,y3,Pm⟩:=Wj.2.2.1.form;obtain⟨x4,y4,Gn⟩:=ZJ Wj.2.2.2;subst Rf GN Pm Gn;obtain⟨cells8,QF,hcells8⟩:=HT.cown;have c8:=Z_ HT.mod 1 _ rfl;have rt:w.heap.size+1<w8.heap.size:=(Z8.1 HT.mod).1;unfold conV;dsimp only))
    all_goals
     have Ub:=hI HU.2;have MB:Hid (Ss R (w9.setCell ⟨w.heap.size+1,1,none⟩ (.slice a9 (cons.length+1) b9))<Ss R wr):=by show _<_;rw[Lv Ub.o.rd,HM7.o];omega
     clear HT HU WR Xs Xg Zp d0 z0 c1 c8 Bc Tg Vu Wj Bd QF hcells8;go_wp2
     go_roundw
     case rel=>exact⟨g,cons++[x],q2,_,Rl,Ub,by omega,by simp;omega⟩
     case measure=>exact MB.o
 have VU:Hid (P=((PX en q).bind λv l=>MH en g (vars++[v]) l).bind (x9 en)):=by show _=_;rw[JV.o,MH,hc,if_pos rfl]
 clear JV;go_wp2_with fail
 refine (Vz N R M en _ q WW.o.rd).mono ?_;rintro e w6 ⟨rfl,Yz⟩;have Wr:=hI (WW.o.below Yz);have CP:Hid (Ss R wr=q.length):=Lv WW.o.rd;unfold tokA;clear Yz WW;go_wp2_with fail
 have c0:w6.cell? ⟨w.heap.size+1,0,none⟩=some (.slice av vars.length cv):=Z_ Wr.o.mod 0 _ rfl;have WR:Hid (ModSt N R M en w w6.drew q (vars.map MVar.name) (.slice av vars.length cv) (.slice none 0 0) vars []):=Wr.o.below (Z6 _ _).drew;have Xs:=zRE N R M en (vars.map MVar.name) w6.drew q WR.o.rd WR.o.nm (by simp;omega) ye
 rw[YU] at Xs;cases hs:PX en q with
 | bad x er =>
   have Y6:Hid (P=.bad x er):=by show _=_;rw[VU.o,hs];rfl
   rw[hs] at Xs;clear hs hc Ye;refine wp_region_held_drew (S:=λw'=>w'=w6.drew) (by kernel_rfl) rfl (λS6=>?_)
   refine wpAnyH_take (i:=0) (v:=?v0) rfl (by kernel_rfl) (by kernel_rfl) (by kernel_rfl) (λ_ _ _ h=>h) (Or.inl ⟨by rfl,?y0⟩) rfl ?r0
   case y0=>intro wq WA;subst WA;go_simp;with_reducible rfl
   refine wpAnyH_take (i:=1) (v:=?v1) rfl (by kernel_rfl) (by kernel_rfl) (by kernel_rfl) (λ_ _ _ h=>h) (Or.inl ⟨by rfl,?y1⟩) rfl ?r1
   case y1=>intro wq WA;subst WA;go_simp;with_reducible rfl
   refine wpAnyH_take (i:=2) (v:=?v2) rfl (by kernel_rfl) (by kernel_rfl) (by kernel_rfl) (λ_ _ _ h=>h) (Or.inl ⟨by rfl,?y2⟩) rfl ?r2
   case y2=>intro wq WA;subst WA;go_simp;with_reducible rfl
   refine wpAnyH_take (i:=3) (v:=?v3) rfl (by kernel_rfl) (by kernel_rfl) (by kernel_rfl) (λ_ _ _ h=>h) (Or.inl ⟨by rfl,?y3⟩) rfl ?r3
   case y3=>intro wq WA;subst WA;go_simp;with_reducible rfl
   refine wpAnyH_take (i:=4) (v:=?v4) rfl (by kernel_rfl) (by kernel_rfl) (by kernel_rfl) (λ_ _ _ h=>h) (Or.inl ⟨by rfl,?y4⟩) rfl ?r4
   case y4=>intro wq WA;subst WA;go_simp;with_reducible rfl
   refine wpAnyH_take (i:=5) (v:=?v5) rfl (by kernel_rfl) (by kernel_rfl) (by kernel_rfl) (λ_ _ _ h=>h) (Or.inl ⟨by rfl,?y5⟩) rfl ?r5
   case y5=>intro wq WA;subst WA;go_simp;with_reducible rfl
   refine wpAnyH_ready (rs:=[6]) (by kernel_rfl) (by simp) ?_
   refine AllReadyH.cons rfl (λK hK=>?_) AllReadyH.nil
   clear hK;go_simp
   refine Xs.mono ?_;rintro e w7 ⟨rfl,Z'⟩;have ZR:=WR.o.fr.trans Z';clear Xs Z';go_wp2
   exact⟨rfl,by rw[Y6.o];exact⟨rfl,ZR⟩⟩
 | ok x q2 =>
   have XA:Hid (∀n∈(vars++[x]).map MVar.name,n.data.toList≠[]):=by
    intro n hn;rw[YY,Xn] at hn;rcases hn with hn | hn
    ·exact Vx.o n hn
    simp at hn;subst hn;exact zTM hs
   have YA:q2.length+1<=q.length:=zRG hs;have Rl:Hid (P=(MH en g (vars++[x]) q2).bind (x9 en)):=by show _=_;rw[VU.o,hs];rfl
   rw[hs] at Xs;clear hs hc Ye VU;go_region_law
    (first
      | (rw[if_pos (by rfl)];refine wp_append_own _ _ _ 22 rfl w.heap.size 67 iV _ 3 32 ip rA FQ FP FO rfl (by decide) _ _ _ rfl (HT.vown.alloc _) ⟨w7.heap.size,0,none⟩ 1 1 (varC x) rfl rfl (il w7 x) (ij x) ?_ ?_ ?_ ?_;(unfold maxLen;omega);omega;(have:=HT.base;simp;omega);intro v8 w8 Mm ie _;have HU:=HT.pushVar x ie Mm;have d0:=Z_ HU.1 0 _ rfl;have z0:=Z0 HU.1 0;obtain⟨a8,b8,rq⟩:=ZJ Mm;subst rq)
      | (rw[if_pos (by rfl)];go_simp;go_at_call 221;refine Xs.mono ?_;rintro e w7 ⟨v7,rfl,⟨rfl,Bb,Ba⟩,A_,A'⟩;have HT:=WR.o.call A' A_ Ba;have c7:=Z_ HT.mod 0 _ rfl;have hl7:w.heap.size+1<w7.heap.size:=(Z8.1 HT.mod).1;dsimp only))
   all_goals
    have Ub:Hid (ModSt N R M en w (w8.setCell ⟨w.heap.size+1,0,none⟩ (.slice a8 (vars.length+1) b8)) q2 ((vars++[x]).map MVar.name) (.slice a8 (vars.length+1) b8) (.slice none 0 0) (vars++[x]) []):=by
     have:=HU.2;rw[YY];exact this
    have Eo:Hid (∀y∈vars++[x],y.name.size<=maxLen):=by
     intro y hy;rw[Xn] at hy;rcases hy with hy | hy
     ·exact XF.o y hy
     simp at hy;subst hy;exact Bb
    have MB:Hid (Ss R (w8.setCell ⟨w.heap.size+1,0,none⟩ (.slice a8 (vars.length+1) b8))<Ss R wr):=by show _<_;rw[Lv Ub.o.rd,CP.o];omega
    clear HT HU WR Xs ie Mm d0 z0 c0 c7 A_ A' Ba Bb Wr;go_wp2
    go_roundw
    case rel=>exact⟨g,vars++[x],q2,_,Rl,Ub,XA,Eo,by omega,by simp;omega⟩
    case measure=>exact MB.o
theorem ic (b:Nat) (v:Value):(#[.pointer (some ⟨b,0,none⟩),.pointer (some ⟨b+1,0,none⟩),.pointer (some ⟨b+2,0,none⟩)]:Array Value)++((Array.replicate 19 undef).setIfInBounds 3 v).setIfInBounds 0 v=#[.pointer (some ⟨b,0,none⟩),.pointer (some ⟨b+1,0,none⟩),.pointer (some ⟨b+2,0,none⟩),v,undef,undef,v,undef,undef,undef,undef,undef,undef,undef,undef,undef,undef,undef,undef,undef,undef,undef]:=by kernel_rfl
theorem zVA (x er:Int) (w:World):Sem.run prog (Instr.typeAssert (.iface 204 (.agg #[.int .i64 x,.int .i64 er])) 20 204 true) w=.ok (.tuple #[.agg #[.int .i64 x,.int .i64 er],.bool true]) w:=by kernel_rfl
theorem zRI (b:Nat) (w:World) :
 CallsD prog 137 #[.pointer (some ⟨b,0,none⟩),.pointer (some ⟨b+1,0,none⟩),.pointer (some ⟨b+2,0,none⟩)] .returning w λe u' w'=>e=.returned (.tuple #[])/\u'=.returning/\w'=w:=by
 refine callsD_of_wpS func137 rfl λc₀ cs hu=>?_
 apply wpS_seq;apply wpS_region;simp[wpOpsS,go_sem,recoverD,hu,ntmps137,Exit.thenS];rw[ic];refine wpS_of_wp ?_;go_wp2
 cases c₀
 simp_all[bodyPostS,results,results137]
def TO (b:Nat) (x er:Int) (w0 w:World):Prop :=
 w.heap[b]? = some (.cells #[.slice none 0 0,.slice none 0 0,.int .i64 0,.int .i64 0] 25)/\w.heap[b+1]? = some (.cells #[.int .i64 x] 3)/\w.heap[b+2]? = some (.cells #[.int .i64 er] 29)/\Fr (λk=>k=b∨k=b+1∨k=b+2) w0 w
theorem TO.zero {b:Nat} {x er:Int} {w0 w:World} (h:TO b x er w0 w) (i:Nat) (u:Value) (Wx:(#[.slice none 0 0,.slice none 0 0,.int .i64 0,.int .i64 0]:Array Value).setIfInBounds i u=#[.slice none 0 0,.slice none 0 0,.int .i64 0,.int .i64 0]):TO b x er w0 (w.setCell ⟨b,i,none⟩ u):=by
 obtain⟨h0,h1,h2,h3⟩:=h;refine⟨?_,?_,?_,h3.setX (p:=⟨b,i,none⟩) (Or.inl rfl) u⟩
 ·rw[heap_setCell_same w b i _ _ u h0,Wx]
 ·exact (Below.heap_setCell _ _ _ _ (show b+1≠b by omega)).trans h1
 exact (Below.heap_setCell _ _ _ _ (show b+2≠b by omega)).trans h2
theorem TO.one {b:Nat} {x er y:Int} {w0 w:World} (h:TO b x er w0 w):TO b y er w0 (w.setCell ⟨b+1,0,none⟩ (.int .i64 y)):=by
 obtain⟨h0,h1,h2,h3⟩:=h;refine⟨?_,?_,?_,h3.setX (p:=⟨b+1,0,none⟩) (Or.inr (Or.inl rfl)) _⟩
 ·exact (Below.heap_setCell _ _ _ _ (show b≠b+1 by omega)).trans h0
 ·rw[heap_setCell_same w (b+1) 0 _ _ _ h1];rfl
 exact (Below.heap_setCell _ _ _ _ (show b+2≠b+1 by omega)).trans h2
theorem TO.two {b:Nat} {x er y:Int} {w0 w:World} (h:TO b x er w0 w):TO b x y w0 (w.setCell ⟨b+2,0,none⟩ (.int .i64 y)):=by
 obtain⟨h0,h1,h2,h3⟩:=h;refine⟨?_,?_,?_,h3.setX (p:=⟨b+2,0,none⟩) (Or.inr (Or.inr rfl)) _⟩
 ·exact (Below.heap_setCell _ _ _ _ (show b≠b+2 by omega)).trans h0
 ·exact (Below.heap_setCell _ _ _ _ (show b+1≠b+2 by omega)).trans h1
 rw[heap_setCell_same w (b+2) 0 _ _ _ h2];rfl
theorem TO.below {b:Nat} {x er:Int} {w0 w w':World} (h:TO b x er w0 w) (hb:Bw w w'):TO b x er w0 w' :=
 ⟨(hb.block _ (Z8.1 h.1).1).trans h.1,(hb.block _ (Z8.1 h.2.1).1).trans h.2.1,(hb.block _ (Z8.1 h.2.2.1).1).trans h.2.2.1,h.2.2.2.trans (Fr.below hb)⟩
theorem zTO (b:Nat) (x er:Int) (w:World) (hT:TO b 0 0 w w) :
 CallsD prog 137 #[.pointer (some ⟨b,0,none⟩),.pointer (some ⟨b+1,0,none⟩),.pointer (some ⟨b+2,0,none⟩)] (.panicking [{ v:=.iface 204 (.agg #[.int .i64 x,.int .i64 er]),recovered:=false }]) w λe u' w'=>e=.returned (.tuple #[])/\u'=.panicking [{ v:=.iface 204 (.agg #[.int .i64 x,.int .i64 er]),recovered:=true }] /\
  TO b x er w w':=by
 have HT:=hI hT;obtain⟨h0,h1,h2,_⟩:=hT;have r0:=Z_ h0 0 _ rfl;have r1:=Z_ h0 1 _ rfl;have r2:=Z_ h0 2 _ rfl;have r3:=Z_ h0 3 _ rfl;have r4:=Z_ h1 0 _ rfl;have r5:=Z_ h2 0 _ rfl;have z0:=Z0 h0 0;have z1:=Z0 h0 1;have z2:=Z0 h0 2;have z3:=Z0 h0 3;have z4:=Z0 h1 0;have z5:=Z0 h2 0;have Xm:b<w.heap.size:=(Z8.1 h0).1;have WS:b+1<w.heap.size:=(Z8.1 h1).1;have Yn:b+2<w.heap.size:=(Z8.1 h2).1;clear h0 h1 h2;refine callsD_of_wpS func137 rfl λc₀ cs hu=>?_
 apply wpS_seq;apply wpS_region;simp[wpOpsS,go_sem,recoverD,hu,ntmps137,Exit.thenS];rw[ic];refine wpS_of_wp ?_;have Eu:=zVA x er;go_wp2_with fail
 go_region
 all_goals
  refine⟨rfl,_,rfl,_,results_none rfl _ _ _,rfl,rfl,?_⟩;refine TO.below ?_ (Z6 _ _).drew;refine TO.below ?_ (Z4 _ _);exact (((((HT.o.zero 0 _ rfl).zero 1 _ rfl).zero 2 _ rfl).zero 3 _ rfl).one (y:=x)).two (y:=er)
open Go.RowKit Go.Maps
theorem A9 {α:Type} (f:α->List Value) (s:Nat) (hf:∀x,(f x).length=s):∀(l:List α) (i k:Nat) (x:α),l[i]? = some x->k<s->(l.flatMap f)[i * s+k]? = (f x)[k]?
 | [],i,k,x,h,_=>by simp at h
 | y :: l,0,k,x,h,hk=>by
   simp at h;subst h;rw[Qw,SM,Zn,V8 (by rw[hf];exact hk)]
 | y :: l,i+1,k,x,h,hk=>by
   have h2:l[i]? = some x:=by simpa using h
   rw[Qw,V9 (by rw[hf,W5];omega),hf,show (i+1) * s+k - s=i * s+k by rw[W5];omega]
   exact A9 f s hf l i k x h2 hk
theorem FK {w:World} {B:Nat} {e:TypeId} {size n:Nat} {v:Value} {xs:List Value} (h:w.ownsRow B e size v n xs) :
 ∃a c,v=.slice a n c/\(n<=c/\c<=maxLen)/\∀i,i<n->∃g,a=some ⟨g,0,none⟩/\g<w.heap.size/\∀j,j<n * size->w.cell? ⟨g,j,none⟩=xs[j]? := by
 have h0:=h;rcases h.2 with ⟨rfl,rfl⟩ | ⟨g,cap,cur,rfl,_,hg,hc,hm,_⟩
 ·exact⟨none,0,rfl,⟨Z2 _,YI _⟩,λi hi=>absurd hi (Nat.not_lt_zero _)⟩
 exact⟨_,_,rfl,⟨hc,hm⟩,λi hi=>⟨g,rfl,(Z8.1 hg).1,λj hj=>h0.cellAt j hj⟩⟩
theorem ro {w:World} {B:Nat} {v:Value} {l:List Int} (h:w.ownsRow B 3 1 v l.length (l.map (Value.int .i64))):IArg w v l:=by
 obtain⟨a,c,hv,hm,hr⟩:=FK h;refine⟨a,c,hv,hm,λi z hz=>?_⟩
 have hi:i<l.length:=(ZN.1 hz).1;obtain⟨g,ha,hg,hc⟩:=hr i hi;exact⟨g,0,ha,hg,by rw[Zn,hc i (by omega),YN,hz];rfl⟩
theorem zVB {w:World} {B base:Nat} {v:Value} {l:List (List Int)} (h:LSr B base w v l):RArg w v l:=by
 obtain⟨cells,h1,h2⟩:=h;obtain⟨a,c,hv,hm,hr⟩:=FK h1;refine⟨a,c,hv,hm,λi z hz=>?_⟩
 have hi:i<l.length:=(ZN.1 hz).1;obtain⟨g,ha,hg,hc⟩:=hr i hi;obtain⟨x,hx,ho⟩:=h2 i z hz;exact⟨g,0,x,ha,hg,by rw[Zn,hc i (by omega),hx],ro ho⟩
theorem zVC {w:World} {B:Nat} {v:Value} {l:List MLit} (h:w.ownsRow B 76 3 v l.length (l.flatMap litC)):LArg w v l:=by
 obtain⟨a,c,hv,hm,hr⟩:=FK h;refine⟨a,c,hv,hm,λi z hz=>?_⟩
 have hi:i<l.length:=(ZN.1 hz).1;obtain⟨g,ha,hg,hc⟩:=hr i hi;have hf:=A9 litC 3 (λ_=>rfl) l i
 exact⟨g,0,ha,hg,by rw[Zn,hc _ (by omega)];exact hf 0 z hz (by omega),by rw[Zn,hc _ (by omega)];exact hf 1 z hz (by omega),by rw[Zn,hc _ (by omega)];exact hf 2 z hz (by omega)⟩
theorem zVD {w:World} {B:Nat} {v:Value} {l:List MVar} (h:w.ownsRow B 67 3 v l.length (l.flatMap varC)) (hs:∀x∈l,x.name.size<=maxLen):VArg w v l:=by
 obtain⟨a,c,hv,hm,hr⟩:=FK h;refine⟨a,c,hv,hm,λi z hz=>⟨hs z (Zz hz),?_⟩⟩
 have hi:i<l.length:=(ZN.1 hz).1;obtain⟨g,ha,hg,hc⟩:=hr i hi;have hf:=A9 varC 3 (λ_=>rfl) l i
 exact⟨g,0,ha,hg,by rw[Zn,hc _ (by omega)];exact hf 0 z hz (by omega),by rw[Zn,hc _ (by omega)];exact hf 1 z hz (by omega),by rw[Zn,hc _ (by omega)];exact hf 2 z hz (by omega)⟩
theorem zVE {w:World} {B:Nat} {vv vc vr vl:Value} {c:MCon} (h:ConR B w vv vc vr vl c):KArg w vv vc vr vl c:=⟨ro h.1,ro h.2.1,zVB h.2.2.1,zVC h.2.2.2⟩
theorem zVF {w:World} {B:Nat} {v:Value} {l:List MCon} (h:LCr B w v l):CArg w v l:=by
 obtain⟨cells,h1,h2⟩:=h;obtain⟨a,c,hv,hm,hr⟩:=FK h1;refine⟨a,c,hv,hm,λi z hz=>?_⟩
 have hi:i<l.length:=(ZN.1 hz).1;obtain⟨g,ha,hg,hc⟩:=hr i hi;obtain⟨vv,vc,vr,vl,XD,ho⟩:=h2 i z hz;refine⟨g,0,vv,vc,vr,vl,ha,hg,?_,?_,?_,?_,?_,?_,zVE ho⟩
 ·rw[Zn,hc _ (by omega)];exact XD 0 (by omega)
 ·rw[Zn,hc _ (by omega)];exact XD 1 (by omega)
 ·rw[Zn,hc _ (by omega)];exact XD 2 (by omega)
 ·rw[Zn,hc _ (by omega)];exact XD 3 (by omega)
 ·rw[Zn,hc _ (by omega)];exact XD 4 (by omega)
 rw[Zn,hc _ (by omega)];exact XD 5 (by omega)
def ModR (B:Nat) (w:World) (vs cs:Value) (m:Mod):Prop:=w.ownsRow B 67 3 vs m.vars.length (m.vars.flatMap varC)/\LCr B w cs m.cons/\∀x∈m.vars,x.name.size<=maxLen
theorem ModR.marg {B:Nat} {w:World} {vs cs:Value} {m:Mod} (h:ModR B w vs cs m):MArg w vs cs m:=⟨zVD h.1 h.2.2,zVF h.2.1⟩
theorem ModR.fr {X:Nat->Prop} {B:Nat} {w w':World} {vs cs:Value} {m:Mod} (h:ModR B w vs cs m) (hf:Fr X w w') (hX:∀k,X k->k<B):ModR B w' vs cs m:=⟨TE h.1 hf hX,h.2.1.fr hf hX,h.2.2⟩
theorem ModR.below {B:Nat} {w w':World} {vs cs:Value} {m:Mod} (h:ModR B w vs cs m) (hb:Bw w w'):ModR B w' vs cs m:=h.fr (X:=λ_=>False) (Fr.below hb) (λ_ hk=>hk.elim)
theorem ModR.mono {B B':Nat} {w:World} {vs cs:Value} {m:Mod} (h:ModR B w vs cs m) (hb:B'<=B):ModR B' w vs cs m:=by
 obtain⟨h1,⟨cells,h2,h3⟩,h4⟩:=h;refine⟨Ux h1 hb,⟨cells,Ux h2 hb,λi c hc=>?_⟩,h4⟩
 obtain⟨vv,vc,vr,vl,XD,ho⟩:=h3 i c hc;exact⟨vv,vc,vr,vl,XD,ho.mono hb⟩
def TB:Mod:=⟨[],[],0,0⟩
def Sn (en:Int) (l:List Tok):Mod×Int×Int:=match Gi en l with
 | .ok m _=>(m,0,0)
 | .bad x e=>(TB,x,e)
theorem FJ (B:Nat) (w:World):ModR B w (.slice none 0 0) (.slice none 0 0) TB:=⟨ZH _ _ _ _,LCr.none _ _,λx hx=>by simp[TB] at hx⟩
theorem zRJ (w:World) (v:Value) (l:List Tok) (en:Int) (hv:TArg w.heap.size w v l) (W:World)
 (hW:W=((((w.alloc (.cells #[.slice none 0 0,.slice none 0 0,.int .i64 0,.int .i64 0] 25)).alloc (.cells #[.int .i64 0] 3)).alloc (.cells #[.int .i64 0] 29)).alloc (.map #[] 0)).alloc (.cells #[v,.int .i64 en,.map (some (w.heap.size+1+1+1))] 209)) :
 Rd w.heap.size (w.heap.size+1+1+1+1) (w.heap.size+1+1+1) en W l/\NmS W (w.heap.size+1+1+1) []/\TO w.heap.size 0 0 W W/\Bw w W/\W.heap.size=w.heap.size+5:=by
 obtain⟨w1,e1⟩:∃w1,w1=w.alloc (.cells #[.slice none 0 0,.slice none 0 0,.int .i64 0,.int .i64 0] 25):=⟨_,rfl⟩;rw[<-e1] at hW;obtain⟨w2,e2⟩:∃w2,w2=w1.alloc (.cells #[.int .i64 0] 3):=⟨_,rfl⟩;rw[<-e2] at hW;obtain⟨w3,e3⟩:∃w3,w3=w2.alloc (.cells #[.int .i64 0] 29):=⟨_,rfl⟩;rw[<-e3] at hW;obtain⟨w4,e4⟩:∃w4,w4=w3.alloc (.map #[] 0):=⟨_,rfl⟩;rw[<-e4] at hW;have s1:w1.heap.size=w.heap.size+1:=by rw[e1];simp
 have s2:w2.heap.size=w.heap.size+1+1:=by rw[e2];simp[s1]
 have s3:w3.heap.size=w.heap.size+1+1+1:=by rw[e3];simp[s2]
 have s4:w4.heap.size=w.heap.size+1+1+1+1:=by rw[e4];simp[s3]
 have s5:W.heap.size=w.heap.size+1+1+1+1+1:=by rw[hW];simp[s4]
 have b1:Bw w w1:=by rw[e1];exact Z4 _ _
 have b2:Bw w1 w2:=by rw[e2];exact Z4 _ _
 have b3:Bw w2 w3:=by rw[e3];exact Z4 _ _
 have b4:Bw w3 w4:=by rw[e4];exact Z4 _ _
 have b5:Bw w4 W:=by rw[hW];exact Z4 _ _
 have h1:w1.heap[w.heap.size]? = some (.cells #[.slice none 0 0,.slice none 0 0,.int .i64 0,.int .i64 0] 25):=by rw[e1];exact heap_alloc_new _ _
 have h2:w2.heap[w1.heap.size]? = some (.cells #[.int .i64 0] 3):=by rw[e2];exact heap_alloc_new _ _
 have h3:w3.heap[w2.heap.size]? = some (.cells #[.int .i64 0] 29):=by rw[e3];exact heap_alloc_new _ _
 have h5:W.heap[w4.heap.size]? = some (.cells #[v,.int .i64 en,.map (some (w.heap.size+1+1+1))] 209):=by rw[hW];exact heap_alloc_new _ _
 have hn:NmS w4 w3.heap.size []:=by rw[e4];exact World.ownsMap_made _ _ _ _
 have hb:Bw w W:=b1.trans ((b2.mono (by omega)).trans ((b3.mono (by omega)).trans ((b4.mono (by omega)).trans (b5.mono (by omega)))))
 rw[s1] at h2;rw[s2] at h3;rw[s4] at h5;rw[s3] at hn;refine⟨⟨⟨by omega,hb.size,by omega⟩,v,h5,hv.old λp hp=>hb.cell hp⟩,hn.old (b5.block _ (by omega)),⟨?_,?_,?_,Fr.refl _ _⟩,hb,by omega⟩
 ·exact (b5.block _ (by omega)).trans ((b4.block _ (by omega)).trans ((b3.block _ (by omega)).trans ((b2.block _ (by omega)).trans h1)))
 ·exact (b5.block _ (by omega)).trans ((b4.block _ (by omega)).trans ((b3.block _ (by omega)).trans h2))
 exact (b5.block _ (by omega)).trans ((b4.block _ (by omega)).trans h3)
theorem TO.fr {X:Nat->Prop} {b:Nat} {x er:Int} {w0 w w':World} (h:TO b x er w0 w) (hf:Fr X w w') (h0:¬X b) (h1:¬X (b+1)) (h2:¬X (b+2)):TO b x er w' w' :=
 ⟨(hf.block _ (Z8.1 h.1).1 h0).trans h.1,(hf.block _ (Z8.1 h.2.1).1 h1).trans h.2.1,(hf.block _ (Z8.1 h.2.2.1).1 h2).trans h.2.2.1,Fr.refl _ _⟩
theorem zVG (v:Value) (l:List Tok) (en:Int) (w:World) (hv:TArg w.heap.size w v l) :
 Calls prog 75 #[v,.int .i64 en] w λe w'=>∃vs cs,e=.returned (.tuple #[modV vs cs (Sn en l).1,.int .i64 (Sn en l).2.1,.int .i64 (Sn en l).2.2])/\ModR w.heap.size w' vs cs (Sn en l).1/\Bw w w':=by
 have HV:=hI hv;obtain⟨a,c,rfl,_⟩:=hv;obtain⟨m0,x0,e0,hA⟩:∃m0 x0 e0,Sn en l=(m0,x0,e0):=⟨_,_,_,rfl⟩;have HA:=hI hA;rw[hA];simp only;clear hA;have hmf:∀(fn:Fn) (first cap:Array Value) (w:World),(Instr.makeFunc fn first cap).run prog w=.ok (.func fn first cap) w:=λ_ _ _ _=>rfl
 have K3:=@run_makeMap prog;go_enter_defers func75,ntmps75
 go_wp2_with fail
 obtain⟨W,hW⟩:∃W,W=((((w.alloc (.cells #[.slice none 0 0,.slice none 0 0,.int .i64 0,.int .i64 0] 25)).alloc (.cells #[.int .i64 0] 3)).alloc (.cells #[.int .i64 0] 29)).alloc (.map #[] 0)).alloc (.cells #[.slice a l.length c,.int .i64 en,.map (some (w.heap.size+1+1+1))] 209):=⟨_,rfl⟩;have Wp:Hid (Rd w.heap.size (w.heap.size+1+1+1+1) (w.heap.size+1+1+1) en W l/\NmS W (w.heap.size+1+1+1) []/\TO w.heap.size 0 0 W W/\Bw w W/\W.heap.size=w.heap.size+5):=zRJ w _ l en HV.o W hW;rw[<-hW];clear hW hmf K3;refine (zRH w.heap.size (w.heap.size+1+1+1+1) (w.heap.size+1+1+1) en W l Wp.o.1 Wp.o.2.1 (by omega)).mono ?_
 intro e w1 hp;cases hs:Gi en l with
 | bad x er =>
   rw[hs] at hp;obtain⟨rfl,Z'⟩:=hp;have Y6:Hid (m0=TB/\x0=x/\e0=er):=by have h:=HA.o;unfold Sn at h;rw[hs] at h;cases h;exact⟨rfl,rfl,rfl⟩
   have HF:=hI Z';have Hj:Hid (TO w.heap.size 0 0 w1 w1):=Wp.o.2.2.1.fr Z' (λh=>by rcases h with h | h <;> omega) (λh=>by rcases h with h | h <;> omega) (λh=>by rcases h with h | h <;> omega)
   clear hs Z';go_wp2
   refine leaves_cons (f:=137) (args:=#[.pointer (some ⟨w.heap.size,0,none⟩),.pointer (some ⟨w.heap.size+1,0,none⟩),.pointer (some ⟨w.heap.size+2,0,none⟩)]) (by simp) (by simp[go_sem]) ?_
   refine (zTO w.heap.size x er w1 Hj.o).mono ?_;rintro e u' w2 ⟨rfl,rfl,h0,h1,h2,ZR⟩;have HE:Hid (Bw w w2):=Fr.toBelow (((Fr.below Wp.o.2.2.2.1).trans (HF.o.weak λk hk=>by rcases hk with rfl | rfl <;> omega)).trans (ZR.weak λk hk=>by omega))
   have r0:=Z_ h0 0 _ rfl;have r1:=Z_ h0 1 _ rfl;have r2:=Z_ h0 2 _ rfl;have r3:=Z_ h0 3 _ rfl;have r4:=Z_ h1 0 _ rfl;have r5:=Z_ h2 0 _ rfl;clear h0 h1 h2 ZR;obtain⟨k0,k1,k2⟩:=Y6.o;subst k0 k1 k2;simp[Leaves,settle,results,results75,go_sem,r0,r1,r2,r3,r4,r5];exact⟨_,_,rfl,FJ _ _,HE.o⟩
 | ok m r =>
   rw[hs] at hp;obtain⟨v,rfl,⟨vs,cs,rfl,Rr,LR,Y',X8,XD⟩,ZV,Z'⟩:=hp;have Y6:Hid (m0=m/\x0=0/\e0=0):=by have h:=HA.o;unfold Sn at h;rw[hs] at h;cases h;exact⟨rfl,rfl,rfl⟩
   have HF:=hI Z';have Hj:Hid (TO w.heap.size 0 0 w1 w1):=Wp.o.2.2.1.fr Z' (λh=>by rcases h with h | h <;> omega) (λh=>by rcases h with h | h <;> omega) (λh=>by rcases h with h | h <;> omega)
   have YQ:=hI Rr;have Hq:=hI LR;have XF:=hI Y';obtain⟨a1,c1,hv1⟩:=ZJ Rr;obtain⟨a2,c2,hv2⟩:=LR.form;subst hv1 hv2;obtain⟨h0,h1,h2,_⟩:=Hj.o;have r0:=Z_ h0 0 _ rfl;have r1:=Z_ h0 1 _ rfl;have r2:=Z_ h0 2 _ rfl;have r3:=Z_ h0 3 _ rfl;have r4:=Z_ h1 0 _ rfl;have r5:=Z_ h2 0 _ rfl;have z0:=Z0 h0 0;have z1:=Z0 h0 1;have z2:=Z0 h0 2;have z3:=Z0 h0 3;have z4:=Z0 h1 0;have z5:=Z0 h2 0;clear hs Z' ZV Rr LR Y' X8 XD h0 h1 h2;unfold modV;go_wp2
   refine leaves_cons (f:=137) (args:=#[.pointer (some ⟨w.heap.size,0,none⟩),.pointer (some ⟨w.heap.size+1,0,none⟩),.pointer (some ⟨w.heap.size+2,0,none⟩)]) (by simp) (by simp[go_sem]) ?_
   refine (zRI w.heap.size _).mono ?_;rintro e u' w2 ⟨rfl,rfl,rfl⟩;obtain⟨k0,k1,k2⟩:=Y6.o;subst k0 k1 k2;simp[Leaves,settle,results,results75,go_sem, *];have Ap:=Wp.o.2.2.2.2;have fE:Fr (λk=>k=w.heap.size∨k=w.heap.size+1∨k=w.heap.size+2) w1 _:=((((((Fr.refl _ w1).setX (p:=⟨w.heap.size,0,none⟩) (Or.inl rfl) (.slice a1 m0.vars.length c1)).setX (p:=⟨w.heap.size,1,none⟩) (Or.inl rfl) (.slice a2 m0.cons.length c2)).setX (p:=⟨w.heap.size,2,none⟩) (Or.inl rfl) (.int .i64 m0.goal)).setX (p:=⟨w.heap.size,3,none⟩) (Or.inl rfl) (.int .i64 m0.var)).setX (p:=⟨w.heap.size+1,0,none⟩) (Or.inr (Or.inl rfl)) (.int .i64 0)).setX (p:=⟨w.heap.size+1+1,0,none⟩) (Or.inr (Or.inr rfl)) (.int .i64 0)
   refine⟨_,_,rfl,(ModR.fr (B:=W.heap.size) (m:=m0) ⟨YQ.o,Hq.o,XF.o⟩ fE (λk hk=>by omega)).mono (by omega),?_⟩
   exact Fr.toBelow (((Fr.below Wp.o.2.2.2.1).trans (HF.o.weak λk hk=>by rcases hk with rfl | rfl <;> omega)).trans (fE.weak λk hk=>by omega))
end Go.Proofs.YtndcpnlaadikoaaGreatDoor
