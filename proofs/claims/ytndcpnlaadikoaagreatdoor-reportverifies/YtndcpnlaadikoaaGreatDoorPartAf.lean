/- What the proof leans on, part 6. -/
import Derived.Test.YtndcpnlaadikoaaGreatDoorPartAe
import Derived.Shelf.Sort.Plain
import Derived.Shelf.Slices.CompactI
set_option maxRecDepth 100000
set_option maxHeartbeats 3200000
open Go.Proofs.Tryz
namespace Go.Proofs.YtndcpnlaadikoaaGreatDoor
open Go.RowKit
theorem DH (n:Int) (c:MCon) (h:conE n c=0):(1<=c.kind/\c.kind<=10)/\QX c=false/\UT c=true/\QW c n=true/\RI c=true/\Io c.lits=0:=by
 unfold conE at h
 split at h
 ·rename_i hk
  cases h1:QX c
  ·cases h2:UT c
   ·rw[h1,h2] at h;simp at h
   cases h3:QW c n
   ·rw[h1,h2,h3] at h;simp at h
   cases h4:RI c
   ·rw[h1,h2,h3,h4] at h;simp at h
   rw[h1,h2,h3,h4] at h;simp at h;exact⟨hk,rfl,rfl,rfl,rfl,h⟩
  rw[h1] at h;simp at h
 cases h
theorem pa (vars vals:List Int) (h:∀x∈vals,-50<=x/\x<=50) (x:Int) (hx:x∈ownV vars vals):-50<=x/\x<=50:=by
 obtain⟨v,_,rfl⟩:=Zj.1 hx;unfold Zx;rw[ZO];cases hq:vals[v.toNat]? with
 | none=>simp
 | some y=>exact h y (Zz hq)
theorem wP (vars vals:List Int):(ownV vars vals).length=vars.length:=by simp[ownV]
theorem DG (c:MCon) (n:Int) (h:QW c n=true):(∀x∈c.vars,0<=x/\x<n)/\∀l∈c.lits,0<=l.var/\l.var<n:=by
 unfold QW at h;rw[ZB,W8,W8] at h;exact⟨λx hx=>by simpa[Wd] using h.1 x hx,λl hl=>by simpa[Wd] using h.2 l hl⟩
theorem o_ (c:MCon) (h:RI c=true):∀x∈c.consts,-1000<=x/\x<=1000:=by
 unfold RI at h;rw[ZB,W8] at h;exact λx hx=>by simpa[XC,inB] using h.1 x hx
theorem As (c:MCon) (h:QX c=false):c.vars.length<=4/\c.lits.length<=4/\c.consts.length<=8/\c.rows.length<=20:=by
 unfold QX at h;simp at h;omega
theorem wO (c:MCon) (vals:List Int) (vv vc vr vl v:Value) (w:World) (hk:KArg w vv vc vr vl c) (hv:IArg w v vals) (hc:conE vals.length c=0) (hb:∀x∈vals,-50<=x/\x<=50) :
 Calls prog 98 #[conV vv vc vr vl c,v] w λe w'=>e=.returned (.bool (YL c vals))/\Bw w w':=by
 obtain⟨⟨X6,Nl⟩,Rv,Vf,Ve,Vd,Nk⟩:=DH _ _ hc;obtain⟨Jz,Ar,hc8,_⟩:=As c Rv;have Aq:Hid (∀x∈c.vars,0<=x/\x<(vals.length:Int)):=(DG c _ Ve).1;have E':Hid (∀l∈c.lits,0<=l.var/\l.var<(vals.length:Int)):=(DG c _ Ve).2;have Jy:Hid (∀x∈c.consts,-1000<=x/\x<=1000):=o_ c Vd;have Ru:Hid (∀x∈ownV c.vars vals,-50<=x/\x<=50):=pa c.vars vals hb;have UD:Hid (∀w':World,Bw w w'->KArg w' vv vc vr vl c):=λw' h=>KArg.below h hk
 have Ww:Hid (∀w':World,Bw w w'->IArg w' v vals):=λw' h=>IArg.below h hv
 have PC:=hI Vf;obtain⟨⟨a1,c1,rfl,_,_⟩,⟨a2,c2,rfl,Wk,_⟩,⟨a3,c3,rfl,_,_⟩,⟨a4,c4,rfl,hm4,_⟩⟩:=hk;obtain⟨a5,c5,rfl,_,_⟩:=hv;unfold maxLen at Wk hm4;obtain⟨Qi,Wk⟩:=Wk;obtain⟨OY,hm4⟩:=hm4;obtain⟨R,hR⟩:∃R,YL c vals=R:=⟨_,rfl⟩;rw[hR];have HR:=hI hR;unfold conV;clear hR hc hb Rv Vf Ve Vd Nk;go_enter func98,ntmps98
 go_wp2_with fail
 refine (ea c.vars vals _ _ _ ?_ ?_ Jz Aq.o).mono ?_
 ·exact (UD.o _ (Z4 _ _)).1
 ·exact Ww.o _ (Z4 _ _)
 rintro e w1 ⟨x,rfl,hx,Z5⟩;have d0:w1.cell? ⟨w.heap.size,0,none⟩=some (.int .i64 c.kind):=(Z5.cell (by simp)).trans (by simp)
 have d2:w1.cell? ⟨w.heap.size,2,none⟩=some (.slice a2 c.consts.length c2):=(Z5.cell (by simp)).trans (by simp)
 have d3:w1.cell? ⟨w.heap.size,3,none⟩=some (.int .i64 c.n):=(Z5.cell (by simp)).trans (by simp)
 have d4:w1.cell? ⟨w.heap.size,4,none⟩=some (.slice a3 c.rows.length c3):=(Z5.cell (by simp)).trans (by simp)
 have d5:w1.cell? ⟨w.heap.size,5,none⟩=some (.slice a4 c.lits.length c4):=(Z5.cell (by simp)).trans (by simp)
 have Vt:w.heap.size+1<=w1.heap.size:=by simpa using Z5.size
 have ZU:Hid (Bw w w1):=(Z4 _ _).trans (Z5.mono (by simp))
 have HX:Hid (∀w':World,Bw w1 w'->IArg w' x (ownV c.vars vals)):=λw' h=>IArg.below h hx
 obtain⟨own,X4⟩:∃own,Hid (ownV c.vars vals=own):=⟨_,rfl⟩;have Us:Hid (own.length=c.vars.length):=by rw[<-X4.o];exact wP _ _
 rw[X4.o] at HX Ru hx;obtain⟨a6,c6,rfl,Nj,h6⟩:=hx;unfold maxLen at Nj;obtain⟨H_,Nj⟩:=Nj;have H6:=hI h6;clear Z5 h6;have Xm:w.heap.size<w1.heap.size:=by omega
 have ZI:Hid (Bw w (w1.alloc (.cells #[.slice a6 own.length c6] 42))):=ZU.o.trans ((Z4 _ _).mono (by omega))
 obtain⟨kd,Yr⟩:∃kd,c.kind=kd:=⟨_,rfl⟩;have VQ:=hI Yr;rw[Yr] at d0 X6 Nl;clear Yr Vt;have HN:Hid (R=true∨R=false):=by cases R <;> simp[Hid]
 have VF:kd=1∨kd=2∨kd=3∨kd=4∨kd=5∨kd=6∨kd=7∨kd=8∨kd=9∨kd=10:=by omega
 clear X6 Nl;rcases VF with rfl | rfl | rfl | rfl | rfl | rfl | rfl | rfl | rfl | rfl
 ·
  have HL:Hid (c.consts.length=own.length):=by
   have h:=PC.o;unfold UT at h;rw[VQ.o] at h;simp at h;exact h.2.1.trans Us.o.symm
  have HE:Hid (R=decide (sumV c.consts own<=c.n)):=by rw[<-HR.o,<-X4.o];unfold YL;rw[VQ.o];rfl
  have HS:Hid (∀n,Calls prog 164 #[.slice a2 c.consts.length c2,.slice a6 own.length c6] ((w1.alloc (.cells #[.slice a6 own.length c6] 42)).drewN n) λe w'=>e=.returned (.int .i64 (sumV c.consts own))/\∃k,w'=(w1.alloc (.cells #[.slice a6 own.length c6] 42)).drewN k):=by
   intro n;refine (wT c.consts own _ _ _ ((UD.o _ (below_drewN ZI.o n)).2.1) (HX.o _ (below_drewN (Z4 _ _) n)) HL.o hc8 Jy.o Ru.o).mono ?_;rintro e w' ⟨rfl,rfl⟩;exact⟨rfl,n,rfl⟩
  go_wp2
  go_quiet ((go_at_call 164;exact HS.o _))
  go_wp2
  go_ret
  exact⟨ZD HE.o.symm,below_drewN ZI.o _⟩
 ·
  have HL:Hid (c.consts.length=own.length):=by
   have h:=PC.o;unfold UT at h;rw[VQ.o] at h;simp at h;exact h.2.1.trans Us.o.symm
  have HE:Hid (R=(sumV c.consts own==c.n)):=by rw[<-HR.o,<-X4.o];unfold YL;rw[VQ.o];rfl
  have HS:Hid (∀n,Calls prog 164 #[.slice a2 c.consts.length c2,.slice a6 own.length c6] ((w1.alloc (.cells #[.slice a6 own.length c6] 42)).drewN n) λe w'=>e=.returned (.int .i64 (sumV c.consts own))/\∃k,w'=(w1.alloc (.cells #[.slice a6 own.length c6] 42)).drewN k):=by
   intro n;refine (wT c.consts own _ _ _ ((UD.o _ (below_drewN ZI.o n)).2.1) (HX.o _ (below_drewN (Z4 _ _) n)) HL.o hc8 Jy.o Ru.o).mono ?_;rintro e w' ⟨rfl,rfl⟩;exact⟨rfl,n,rfl⟩
  go_wp2
  go_quiet ((go_at_call 164;exact HS.o _))
  go_wp2
  go_ret
  exact⟨ZD HE.o.symm,below_drewN ZI.o _⟩
 ·
  have HL:Hid (c.consts.length=own.length):=by
   have h:=PC.o;unfold UT at h;rw[VQ.o] at h;simp at h;exact h.2.1.trans Us.o.symm
  have HE:Hid (R=(sumV c.consts own != c.n)):=by rw[<-HR.o,<-X4.o];unfold YL;rw[VQ.o];rfl
  have HS:Hid (∀n,Calls prog 164 #[.slice a2 c.consts.length c2,.slice a6 own.length c6] ((w1.alloc (.cells #[.slice a6 own.length c6] 42)).drewN n) λe w'=>e=.returned (.int .i64 (sumV c.consts own))/\∃k,w'=(w1.alloc (.cells #[.slice a6 own.length c6] 42)).drewN k):=by
   intro n;refine (wT c.consts own _ _ _ ((UD.o _ (below_drewN ZI.o n)).2.1) (HX.o _ (below_drewN (Z4 _ _) n)) HL.o hc8 Jy.o Ru.o).mono ?_;rintro e w' ⟨rfl,rfl⟩;exact⟨rfl,n,rfl⟩
  go_wp2
  go_quiet ((go_at_call 164;exact HS.o _))
  go_wp2
  go_ret
  exact⟨ZD HE.o.symm,below_drewN ZI.o _⟩
 ·
  have HE:Hid (R=decide own.Nodup):=by rw[<-HR.o,<-X4.o];unfold YL;rw[VQ.o];rfl
  have dL:own.length<=4:=by have:=Us.o;omega
  go_wp2_with fail
  refine (dV own _ _ (HX.o _ (Z4 _ _)) dL Ru.o).mono ?_;rintro e w3 ⟨rfl,ZG⟩;have Zd:Bw w w3:=ZI.o.trans (ZG.mono (by simp;omega))
  clear ZG;go_wp2
  go_ret
  exact⟨ZD HE.o.symm,Zd⟩
 ·
  have HL:Hid (own.length=2):=by
   have h:=PC.o;unfold UT at h;rw[VQ.o] at h;simp at h;exact Us.o.trans h.2.1
  obtain⟨p,q,rfl⟩:∃p q,own=[p,q]:=by
   match own,HL.o with
   | [p,q],_=>exact⟨p,q,rfl⟩
  obtain⟨b,off,rfl,hb,e0⟩:=H6.o 0 p rfl;obtain⟨b',off',V2,XI,e1⟩:=H6.o 1 q rfl;cases V2
  rw[Wl] at e0;have HE:Hid (R=(decide (0<=p)&&(decide (p<c.consts.length)&&(c.consts.getD p.toNat 0==q)))):=by rw[<-HR.o];unfold YL;rw[VQ.o,X4.o];rfl
  by_cases q1:0<=p
  ·obtain⟨j,rfl⟩:∃j:Nat,p=(j:Int):=⟨p.toNat,by omega⟩
   by_cases q2:j<c.consts.length
   ·obtain⟨y,hy⟩:∃y,c.consts[j]? = some y:=⟨c.consts[j],by simp[q2]⟩
    obtain⟨a2',c2',Zf,_,Tb⟩:=(UD.o _ ZU.o).2.1;obtain⟨b2,off2,Wv,ZY,e2⟩:=Tb j y hy;have PI:a2=some ⟨b2,off2,none⟩:=by cases Zf;exact Wv
    subst PI;have WO:Hid (R=(y==q)):=by
     show _=_;rw[HE.o,decide_eq_true q1,decide_eq_true (show (j:Int)<c.consts.length by omega),YK,ZO,hy];rfl
    have q2':(j:Int)<(c.consts.length:Int):=by omega
    clear hy Zf Tb Wv;go_wp2
    go_quiet (fail)
    go_wp2
    go_ret
    exact⟨ZD WO.o.symm,below_drewN ZI.o _⟩
   have WO:Hid (R=false):=by
    show _=_;rw[HE.o,decide_eq_true q1,decide_eq_false (show ¬(j:Int)<c.consts.length by omega)];rfl
   have q3:decide (j<c.consts.length)=false:=decide_eq_false q2;have q4:decide ((j:Int)<(c.consts.length:Int))=false:=decide_eq_false (by omega)
   clear q2;go_wp2
   go_quiet (fail)
   go_wp2
   go_ret
   exact⟨ZD WO.o.symm,below_drewN ZI.o _⟩
  have WO:Hid (R=false):=by
   show _=_;rw[HE.o,decide_eq_false q1];rfl
  have q3:decide (0<=p)=false:=decide_eq_false q1;go_wp2
  go_quiet (fail)
  go_wp2
  go_ret
  exact⟨ZD WO.o.symm,below_drewN ZI.o _⟩
 ·
  have HE:Hid (R=c.rows.any λr=>decide (r=own)):=by rw[<-HR.o,<-X4.o];unfold YL;rw[VQ.o];rfl
  go_wp2_with fail
  refine (dS 167 _ (λr=>decide (r=own)) c.rows _ _ ((UD.o _ ZI.o).2.2.1) ⟨dQ,?_⟩).mono ?_
  ·intro r x w' XI dK
   exact dO own r _ x w1.heap.size w' (HX.o _ ((Z4 _ _).trans (XI.mono (by simp)))) dK ((XI.cell (by simp)).trans (by simp))
  rintro e w3 ⟨rfl,ZG⟩;have Zd:Bw w w3:=ZI.o.trans (ZG.mono (by simp;omega))
  clear ZG;go_wp2
  go_ret
  exact⟨ZD HE.o.symm,Zd⟩
 ·
  have HL:Hid (own.length=3):=by
   have h:=PC.o;unfold UT at h;rw[VQ.o] at h;simp at h;exact Us.o.trans h.2.1
  obtain⟨p,q,r,rfl⟩:∃p q r,own=[p,q,r]:=by
   match own,HL.o with
   | [p,q,r],_=>exact⟨p,q,r,rfl⟩
  obtain⟨b,off,rfl,hb,e0⟩:=H6.o 0 p rfl;obtain⟨b',off',V2,XI,e1⟩:=H6.o 1 q rfl;cases V2
  obtain⟨b',off',V2,XI,e2⟩:=H6.o 2 r rfl;cases V2
  rw[Wl] at e0;have HE:Hid (R=(p * q==r)):=by rw[<-HR.o];unfold YL;rw[VQ.o,X4.o];rfl
  obtain⟨g1,g2⟩:=Au p q (by have:=Ru.o p (by simp);omega) (by have:=Ru.o p (by simp);omega) (Ru.o q (by simp)).1 (Ru.o q (by simp)).2
  go_wp2
  go_quiet (fail)
  go_wp2
  go_ret
  exact⟨ZD HE.o.symm,below_drewN ZI.o _⟩
 ·
  have HL:Hid (2<=own.length):=by
   have h:=PC.o;unfold UT at h;rw[VQ.o] at h;simp at h;have:=Us.o;show 2<=_;omega
  obtain⟨p,q,r,rfl⟩:∃p q r,own=p :: q :: r:=by
   match own,HL.o with
   | p :: q :: r,_=>exact⟨p,q,r,rfl⟩
  obtain⟨b,off,rfl,hb,e0⟩:=H6.o 0 p rfl;rw[Wl] at e0;have HE:Hid (R=(p==r.foldl max q)):=by rw[<-HR.o];unfold YL;rw[VQ.o,X4.o];rfl
  obtain⟨n,hn⟩:∃n,(p :: q :: r).length=n:=⟨_,rfl⟩;have E9:2<=n:=by rw[<-hn];simp
  have HT:Hid (IArg w1 (.slice (some ⟨b,off+1,none⟩) (n - 1) (c6 - 1)) (q :: r)):=by
   refine⟨_,_,by rw[<-hn];rfl,⟨by rw[<-hn] at *;simp at *;omega,by unfold maxLen;omega⟩,λi z hz=>?_⟩
   obtain⟨b',off',V2,XI,e1⟩:=H6.o (i+1) z (by simpa using hz)
   cases V2
   exact⟨b,off+1,rfl,hb,by rw[UU,Nat.add_comm 1 i];exact e1⟩
  rw[hn] at H_ ZI ⊢;clear hn;go_wp2
  go_quiet ((go_at_call 169;exact (dZ q r _ _ (IArg.below (below_drewN (Z4 _ _) _) HT.o)).mono (λ_ _ h=>⟨h.1,_,h.2⟩)))
  go_wp2
  go_ret
  exact⟨ZD HE.o.symm,below_drewN ZI.o _⟩
 ·
  have HE:Hid (R=c.lits.any (litB vals)):=by rw[<-HR.o];unfold YL;rw[VQ.o];rfl
  go_wp2_with fail
  refine (dM c.lits vals _ _ _ ((UD.o _ ZI.o).2.2.2) (Ww.o _ ZI.o) E'.o).mono ?_;rintro e w3 ⟨rfl,ZG⟩;have Zd:Bw w w3:=ZI.o.trans (ZG.mono (by simp;omega))
  clear ZG;go_wp2
  go_ret
  exact⟨ZD HE.o.symm,Zd⟩
 ·
  have OU:Hid (own.length=1/\c.lits.length=1):=by
   have h:=PC.o;unfold UT at h;rw[VQ.o] at h;simp at h;exact⟨Us.o.trans h.2.1,h.2.2.1⟩
  obtain⟨p,rfl⟩:∃p,own=[p]:=by
   match own,OU.o.1 with
   | [p],_=>exact⟨p,rfl⟩
  obtain⟨l,hl⟩:∃l,c.lits=[l]:=by
   match c.lits,OU.o.2 with
   | [l],_=>exact⟨l,rfl⟩
  obtain⟨b,off,rfl,hb,e0⟩:=H6.o 0 p rfl;rw[Wl] at e0;have HE:Hid (R=(p==(if litB vals l then 1 else 0))):=by rw[<-HR.o];unfold YL;rw[VQ.o,X4.o,hl];rfl
  obtain⟨a2',c2',Zf,_,Tb⟩:=(UD.o _ ZU.o).2.2.2;obtain⟨b2,off2,Wv,ZY,g0,g1,g2⟩:=Tb 0 l (by rw[hl];rfl)
  have PI:a4=some ⟨b2,off2,none⟩:=by cases Zf;exact Wv
  subst PI;simp only[SM,Wl] at g0 g1 g2;have Um:=E'.o l (by rw[hl];simp)
  have Zr:c.lits.length=1:=by rw[hl];rfl
  obtain⟨j,hj⟩:∃j:Nat,l.var=(j:Int):=⟨l.var.toNat,by omega⟩
  have OW:j<vals.length:=by omega
  obtain⟨y,hy⟩:∃y,vals[j]? = some y:=⟨vals[j],by simp[OW]⟩
  obtain⟨a7,c7,H',o',DF⟩:=Ww.o _ ZU.o;obtain⟨b7,off7,DE,Sf,g7⟩:=DF j y hy;have wN:a5=some ⟨b7,off7,none⟩:=by cases H';exact DE
  have DD:vals.length<=c5/\c5<=maxLen:=by cases H';exact o'
  unfold maxLen at DD;obtain⟨dJ,dI⟩:=DD;subst wN;obtain⟨B,HB⟩:∃B:Bool,Hid (litB vals l=B):=⟨_,rfl⟩;rw[HB.o] at HE;have Wa:Hid (litV y l=B):=by
   have h:=HB.o;unfold litB at h;rwa [hj,Ia vals j y hy] at h
  obtain⟨N,hN⟩:∃N:Int,(if B then (1:Int) else 0)=N:=⟨_,rfl⟩
  have dH:Hid (∀W':World,Calls prog 171 #[.bool B] W' λe w'=>e=.returned (.int .i64 N)/\w'=W'):=by
   intro W';rw[<-hN];exact ec B W'
  rw[hN] at HE;clear hN;obtain⟨W,hW⟩:∃W:World,W=w1.alloc (.cells #[.slice (some ⟨b,off,none⟩) 1 c6] 42):=⟨_,rfl⟩;have HW:=hI hW;have DC:Hid (Bw w W):=by rw[hW];exact ZI.o
  have XR:Hid (∀wq:World,Bw W wq->Calls prog 172 #[.agg #[.int .i64 (j:Int),.int .i64 l.op,.int .i64 l.n],.int .i64 y] wq λe w'=>e=.returned (.bool B)/\Bw W w'):=by
   intro wq hq;rw[<-hj];refine (wU l y wq).mono ?_;rintro e w' ⟨rfl,hb⟩;exact⟨by rw[Wa.o],hq.trans (hb.mono hq.size)⟩
  have k0:W.cell? ⟨w1.heap.size,0,none⟩=some (.slice (some ⟨b,off,none⟩) 1 c6):=by rw[hW];simp
  have k1:W.cell? ⟨b,off,none⟩=some (.int .i64 p):=by rw[hW];exact (W7 _ _ _ hb).trans e0
  have k2:W.cell? ⟨w.heap.size,5,none⟩=some (.slice (some ⟨b2,off2,none⟩) 1 c4):=by rw[hW,<-Zr];exact (W7 _ _ _ Xm).trans d5
  have k3:W.cell? ⟨b2,off2,none⟩=some (.int .i64 (j:Int)):=by rw[hW,<-hj];exact (W7 _ _ _ ZY).trans g0
  have k4:W.cell? ⟨b2,off2+1,none⟩=some (.int .i64 l.op):=by rw[hW];exact (W7 _ _ _ ZY).trans g1
  have k5:W.cell? ⟨b2,off2+2,none⟩=some (.int .i64 l.n):=by rw[hW];exact (W7 _ _ _ ZY).trans g2
  have k7:W.cell? ⟨b7,off7+j,none⟩=some (.int .i64 y):=by rw[hW];exact (W7 _ _ _ Sf).trans g7
  have Ap:W.heap.size=w1.heap.size+1:=by rw[hW];simp
  have Se:=hI Ap;clear hW Ap Zf Tb Wv hl H' DF DE o' hy hj;go_wp2
  rw[<-HW.o];clear d0 d2 d3 d4 d5 e0 g0 g1 g2 g7 H6 HX UD Ww Aq E' Jy Ru PC OU Us X4 Um HR VQ ZU Qi OY Wk hm4 H_ Nj;refine pi (by kernel_rfl) (by kernel_rfl) ?_
  go_big_quiet_want
  refine⟨.slice (some ⟨b,off,none⟩) 1 c6,λwq hq=>?_,?_⟩
  ·have h0:=(hq.cell (p:=⟨w1.heap.size,0,none⟩) (by have:=Se.o;simp only;omega)).trans k0
   simp[Oper.quietAt,go_sem,h0]
  go_simp
  go_big_quiet_on
  go_big_quiet_want
  go_big_quiet_op
  first | go_big_quiet_on | (refine⟨_,λ_ _=>rfl,?_⟩;go_big_quiet_on)
  go_big_quiet_want
  refine⟨.int .i64 p,λwq hq=>?_,?_⟩
  ·have h0:=(hq.cell (p:=⟨b,off,none⟩) (by have:=Se.o;simp only;omega)).trans k1
   simp[Oper.quietAt,go_sem,h0]
  go_simp
  go_big_quiet_on
  go_big_quiet_want
  go_big_quiet_op
  first | go_big_quiet_on | (refine⟨_,λ_ _=>rfl,?_⟩;go_big_quiet_on)
  go_big_quiet_want
  refine⟨.slice (some ⟨b2,off2,none⟩) 1 c4,λwq hq=>?_,?_⟩
  ·have h0:=(hq.cell (p:=⟨w.heap.size,5,none⟩) (by have:=Se.o;simp only;omega)).trans k2
   simp[Oper.quietAt,go_sem,h0]
  go_simp
  go_big_quiet_on
  go_big_quiet_want
  go_big_quiet_op
  first | go_big_quiet_on | (refine⟨_,λ_ _=>rfl,?_⟩;go_big_quiet_on)
  go_big_quiet_want
  refine⟨.agg #[.int .i64 (j:Int),.int .i64 l.op,.int .i64 l.n],λwq hq=>?_,?_⟩
  ·have h0:=(hq.cell (p:=⟨b2,off2,none⟩) (by have:=Se.o;simp only;omega)).trans k3
   have h1:=(hq.cell (p:=⟨b2,off2+1,none⟩) (by have:=Se.o;simp only;omega)).trans k4
   have h2:=(hq.cell (p:=⟨b2,off2+2,none⟩) (by have:=Se.o;simp only;omega)).trans k5
   simp[Oper.quietAt,go_sem,h0,h1,h2]
  go_simp
  go_big_quiet_on
  go_big_quiet_want
  go_big_quiet_op
  first | go_big_quiet_on | (refine⟨_,λ_ _=>rfl,?_⟩;go_big_quiet_on)
  go_big_quiet_want
  go_big_quiet_op
  first | go_big_quiet_on | (refine⟨_,λ_ _=>rfl,?_⟩;go_big_quiet_on)
  go_big_quiet_want
  refine⟨.slice (some ⟨b2,off2,none⟩) 1 c4,λwq hq=>?_,?_⟩
  ·have h0:=(hq.cell (p:=⟨w.heap.size,5,none⟩) (by have:=Se.o;simp only;omega)).trans k2
   simp[Oper.quietAt,go_sem,h0]
  go_simp
  go_big_quiet_on
  go_big_quiet_want
  go_big_quiet_op
  first | go_big_quiet_on | (refine⟨_,λ_ _=>rfl,?_⟩;go_big_quiet_on)
  go_big_quiet_want
  go_big_quiet_op
  first | go_big_quiet_on | (refine⟨_,λ_ _=>rfl,?_⟩;go_big_quiet_on)
  go_big_quiet_want
  refine⟨.int .i64 (j:Int),λwq hq=>?_,?_⟩
  ·have h0:=(hq.cell (p:=⟨b2,off2,none⟩) (by have:=Se.o;simp only;omega)).trans k3
   simp[Oper.quietAt,go_sem,h0]
  go_simp
  go_big_quiet_on
  go_big_quiet_want
  go_big_quiet_op
  first | go_big_quiet_on | (refine⟨_,λ_ _=>rfl,?_⟩;go_big_quiet_on)
  go_big_quiet_want
  refine⟨.int .i64 y,λwq hq=>?_,?_⟩
  ·have h0:=(hq.cell (p:=⟨b7,off7+j,none⟩) (by have:=Se.o;simp only;omega)).trans k7
   simp[Oper.quietAt,go_sem,h0]
  go_simp
  go_big_quiet_on
  go_big_quiet_want
  refine⟨.bool B,λwq hq=>?_,?_⟩
  ·simp[Oper.quietAt,go_sem]
   exact XR.o wq hq
  go_simp
  go_big_quiet_on
  go_big_quiet_want
  refine⟨.int .i64 N,λwq hq=>?_,?_⟩
  ·simp[Oper.quietAt,go_sem]
   exact (dH.o wq).mono (λe w' h=>⟨h.1,by rw[h.2];exact hq⟩)
  go_simp
  go_big_quiet_on
  go_big_quiet_want
  go_big_quiet_op
  first | go_big_quiet_on | (refine⟨_,λ_ _=>rfl,?_⟩;go_big_quiet_on)
  go_big_quiet_want
  go_big_quiet_op
  first | go_big_quiet_on | (refine⟨_,λ_ _=>rfl,?_⟩;go_big_quiet_on)
  refine wpQuiet_nil ?_;intro w' DI;have Zd:Bw w w':=DC.o.trans (DI.mono DC.o.size);clear DI;go_wp2
  go_ret
  exact⟨ZD HE.o.symm,Zd⟩
def KY (m:Mod) (con:Int):Int:=if Zs m=0 then (if con<0∨(m.cons.length:Int)<=con then 5 else 0) else Zs m
def Ao:MCon:=⟨0,[],[],0,[],[]⟩
def Ul (v:MVar) (x:Int):Bool:=!decide (x<v.lo)&&!decide (v.hi<x)
def allA (m:Mod) (vals:List Int):Bool×Int :=
 if Zs m=0 then
  (if vals.length=m.vars.length then ((m.vars.zip vals).all (λp=>Ul p.1 p.2)&&m.cons.all (λc=>YL c vals),0) else (false,1))
 else (false,Zs m)
theorem dG (m:Mod) (con:Int) (vs cs:Value) (w:World) (hm:MArg w vs cs m) :
 Calls prog 71 #[modV vs cs m,.int .i64 con] w λe w'=>e=.returned (.int .i64 (KY m con))/\Bw w w':=by
 have Y3:Hid (∀w':World,Bw w w'->MArg w' vs cs m):=λw' h=>MArg.below h hm
 obtain⟨⟨a1,c1,rfl,_,_⟩,⟨a2,c2,rfl,Yn,_⟩⟩:=hm;unfold maxLen at Yn;obtain⟨Nq,Yn⟩:=Yn;obtain⟨R,hR⟩:∃R,KY m con=R:=⟨_,rfl⟩;rw[hR];obtain⟨er,Yy⟩:∃er,Zs m=er:=⟨_,rfl⟩;have Xj:=hI Yy;have HE:Hid (R=if er=0 then (if con<0∨(m.cons.length:Int)<=con then 5 else 0) else er):=by rw[<-hR,<-Yy];rfl
 clear hR Yy;unfold modV;go_enter func71,ntmps71
 go_wp2_with fail
 refine (JE m (.slice a1 m.vars.length c1) (.slice a2 m.cons.length c2) _ ?_).mono ?_
 ·exact Y3.o _ (Z4 _ _)
 rintro e w1 ⟨rfl,Z5⟩;rw[Xj.o];have d1:w1.cell? ⟨w.heap.size,1,none⟩=some (.slice a2 m.cons.length c2):=(Z5.cell (by simp)).trans (by simp)
 have ZU:Hid (Bw w w1):=(Z4 _ _).trans (Z5.mono (by simp))
 clear Z5;by_cases he:er=0
 ·subst he
  by_cases q1:con<0
  ·have HN:Hid (R=5):=by rw[HE.o,if_pos rfl,if_pos (Or.inl q1)];rfl
   go_wp2
   go_ret
   exact⟨Zm HN.o.symm,ZU.o⟩
  by_cases q2:(m.cons.length:Int)<=con
  ·have HN:Hid (R=5):=by rw[HE.o,if_pos rfl,if_pos (Or.inr q2)];rfl
   go_wp2
   go_ret
   exact⟨Zm HN.o.symm,ZU.o⟩
  have HN:Hid (R=0):=by rw[HE.o,if_pos rfl,if_neg (by omega)];rfl
  go_wp2
  go_ret
  exact⟨Zm HN.o.symm,ZU.o⟩
 have HN:Hid (R=er):=by rw[HE.o,if_neg he];rfl
 have V3:(er != 0)=true:=by simpa using he
 clear he;go_wp2
 go_ret
 exact⟨Zm HN.o.symm,ZU.o⟩
theorem dF (m:Mod) (con:Int) (h:KY m con=0):Zs m=0/\0<=con/\con<m.cons.length:=by
 unfold KY at h
 split at h
 ·rename_i h0
  split at h
  ·cases h
  exact⟨h0,by omega,by omega⟩
 contradiction
end Go.Proofs.YtndcpnlaadikoaaGreatDoor
namespace Go.Proofs
open Go.Shelf
def Tryz.lays189_ren:Go.Shelf.Ren:=⟨λ| 189=>72 | 125=>133 | 257=>132 | 128=>212 | 129=>213 | 294=>203 | 295=>204 | 296=>205 | 297=>206 | 298=>207 | 299=>208 | 216=>209 | 300=>210 | 301=>211 | 328=>253 | 329=>254 | 330=>255 | 331=>256 | 332=>257 | 215=>258 | 343=>277 | n=>n,λ| 28=>42 | 3=>3 | 46=>199 | 0=>0 | 51=>266 | 53=>135 | 4=>4 | 183=>259 | 182=>258 | 131=>263 | 5=>5 | 9=>9 | 218=>295 | 222=>299 | 228=>312 | 229=>158 | n=>n,λ| n=>n⟩
theorem Tryz.lays189:Go.Proofs.Lays.n189 prog Tryz.lays189_ren:={
 mixed:=by kernel_rfl
 f125:=func133.trans (congrArg some (by kernel_rfl))
 f128:=func212.trans (congrArg some (by kernel_rfl))
 f129:=func213.trans (congrArg some (by kernel_rfl))
 f189:=func72.trans (congrArg some (by kernel_rfl))
 f215:=func258.trans (congrArg some (by kernel_rfl))
 f216:=func209.trans (congrArg some (by kernel_rfl))
 f257:=func132.trans (congrArg some (by kernel_rfl))
 f294:=func203.trans (congrArg some (by kernel_rfl))
 f295:=func204.trans (congrArg some (by kernel_rfl))
 f296:=func205.trans (congrArg some (by kernel_rfl))
 f297:=func206.trans (congrArg some (by kernel_rfl))
 f298:=func207.trans (congrArg some (by kernel_rfl))
 f299:=func208.trans (congrArg some (by kernel_rfl))
 f300:=func210.trans (congrArg some (by kernel_rfl))
 f301:=func211.trans (congrArg some (by kernel_rfl))
 f328:=func253.trans (congrArg some (by kernel_rfl))
 f329:=func254.trans (congrArg some (by kernel_rfl))
 f330:=func255.trans (congrArg some (by kernel_rfl))
 f331:=func256.trans (congrArg some (by kernel_rfl))
 f332:=func257.trans (congrArg some (by kernel_rfl))
 f343:=func277.trans (congrArg some (by kernel_rfl))
 t0:=underlying0
 a0:=isAgg0
 z0:=sizeOf0
 v0:=zeroValue0
 t3:=underlying3
 a3:=isAgg3
 z3:=sizeOf3
 v3:=zeroValue3
 t4:=underlying4
 a4:=isAgg4
 z4:=sizeOf4
 v4:=zeroValue4
 t5:=underlying5
 a5:=isAgg5
 z5:=sizeOf5
 v5:=zeroValue5
 t9:=underlying9
 a9:=isAgg9
 z9:=sizeOf9
 v9:=zeroValue9
 t28:=underlying42
 a28:=isAgg42
 z28:=sizeOf42
 v28:=zeroValue42
 t46:=underlying199
 a46:=isAgg199
 z46:=sizeOf199
 v46:=zeroValue199
 t51:=underlying266
 a51:=isAgg266
 z51:=sizeOf266
 v51:=zeroValue266
 t53:=underlying135
 a53:=isAgg135
 z53:=sizeOf135
 v53:=zeroValue135
 t131:=underlying263
 a131:=isAgg263
 z131:=sizeOf263
 v131:=zeroValue263
 t182:=underlying258
 a182:=isAgg258
 z182:=sizeOf258
 v182:=zeroValue258
 t183:=underlying259
 a183:=isAgg259
 z183:=sizeOf259
 v183:=zeroValue259
 t218:=underlying295
 a218:=isAgg295
 z218:=sizeOf295
 v218:=zeroValue295
 t222:=underlying299
 a222:=isAgg299
 z222:=sizeOf299
 v222:=zeroValue299
 t228:=underlying312
 a228:=isAgg312
 z228:=sizeOf312
 v228:=zeroValue312
 t229:=underlying158
 a229:=isAgg158
 z229:=sizeOf158
 v229:=zeroValue158 }
open Go.Sort Go.RowKit in
theorem Tryz.slices_Sort_int (blk off cap:Nat) (zs:List Int) (w:World) (hH:Holds (Value.int .i64) w blk off zs.toArray) (Id:blk<w.heap.size) (Y':zs.length<4611686018427387904) :
 Calls prog 72 #[.slice (some ⟨blk,off,none⟩) zs.length cap] w λe w' =>
  e=.returned (.tuple #[])/\∃n os,w'=grow (putRow (Value.int .i64) (Sort.ahead w n) blk off (zs.mergeSort λx y=>decide (x<=y)).toArray) os:=Any.slices_Sort_int Tryz.lays189 blk off cap zs w hH Id Y'
def Tryz.laysNm220_ren:Go.Shelf.Ren:=⟨λ| 20=>73 | n=>n,λ| 22=>42 | 3=>3 | 4=>4 | 0=>0 | n=>n,λ| n=>n⟩
theorem Tryz.laysNm220:Go.Proofs.Lays2.n20 prog Tryz.laysNm220_ren:={
 mixed:=by kernel_rfl
 f20:=func73.trans (congrArg some (by kernel_rfl))
 t0:=underlying0
 a0:=isAgg0
 z0:=sizeOf0
 v0:=zeroValue0
 t3:=underlying3
 a3:=isAgg3
 z3:=sizeOf3
 v3:=zeroValue3
 t4:=underlying4
 a4:=isAgg4
 z4:=sizeOf4
 v4:=zeroValue4
 t22:=underlying42
 a22:=isAgg42
 z22:=sizeOf42
 v22:=zeroValue42
 i3:=by kernel_rfl }
open Go.RowKit Go.Lib Go.Sort in
theorem Tryz.slices_Compact_int (blk off cap:Nat) (zs:List Int) (w:World) (hH:Holds (Value.int .i64) w blk off zs.toArray) (Y':zs.length<=9223372036854775807) (Ni:zs.length<=cap) :
 Calls prog 73 #[.slice (some ⟨blk,off,none⟩) zs.length cap] w λe w'=>e=.returned (.slice (some ⟨blk,off,none⟩) (Lib.compact zs).length cap)/\∃q,w'=putRow (Value.int .i64) (Sort.ahead w q) blk off (Lib.compact zs++List.replicate (zs.length - (Lib.compact zs).length) 0).toArray:=Any.slices_Compact_int Tryz.laysNm220 blk off cap zs w hH Y' Ni
end Go.Proofs
namespace Go.Proofs.YtndcpnlaadikoaaGreatDoor
open Go.RowKit Go.Sort
theorem o9 (w:World) (n g B:Nat) (d:Array Int) (hB:B<=g):Below B w (putRow (Value.int .i64) (Sort.ahead w n) g 0 d):=by
 refine⟨rfl,rfl,rfl,by simp[putRow,mapBlock,Sort.ahead],λk hk=>?_⟩
 show (Array.modify _ _ _)[k]? = _;rw[Array.getElem?_modify,if_neg (by omega)];rfl
theorem dE (w:World) (os:Array Obj) (B:Nat) (hB:B<=w.heap.size):Below B w (grow w os) :=
 ⟨rfl,rfl,rfl,by simp,λk hk=>heap_grow_old w os (by omega)⟩
def IRow (w:World) (g:Nat) (zs:List Int):Prop:=Holds (Value.int .i64) w g 0 zs.toArray/\g<w.heap.size
theorem dD {w:World} {base g cap:Nat} {zs:List Int} (h:w.ownsRow base 3 1 (.slice (some ⟨g,0,none⟩) zs.length cap) zs.length (zs.map (Value.int .i64))):IRow w g zs:=by
 refine⟨λj hj=>?_,(h.lt g rfl).2⟩
 have DB:j<zs.length:=by simpa using hj
 rw[Zn];refine⟨?_,h.frozenAt j⟩;rw[h.cellAt j (by omega),YN]
 simp[DB]
theorem dC {w:World} {g cap n:Nat} {zs:List Int} (h:IRow w g zs) (hn:n=zs.length) (hc:n<=cap) (hm:cap<=maxLen):IArg w (.slice (some ⟨g,0,none⟩) n cap) zs:=by
 subst hn;refine⟨_,cap,rfl,⟨hc,hm⟩,λi z hz=>⟨g,0,rfl,h.2,?_⟩⟩
 have hi:i<zs.length:=(ZN.1 hz).1;have dA:zs[i]=z:=by simpa[hi] using hz
 have:=(h.1 i (by simpa using hi)).1
 rw[this];simp[hi,dA]
def PA (zs:List Int):List Int:=zs.mergeSort λx y=>decide (x<=y)
theorem DA (zs:List Int):(PA zs).length=zs.length:=by simp[PA]
theorem dz (zs:List Int) (g cap B:Nat) (w:World) (h:IRow w g zs) (hB:B<=g) (hn:zs.length<=1000) :
 Calls prog 72 #[.slice (some ⟨g,0,none⟩) zs.length cap] w λe w'=>e=.returned (.tuple #[])/\IRow w' g (PA zs)/\Below B w w':=by
 refine (Tryz.slices_Sort_int g 0 cap zs w h.1 h.2 (by omega)).mono ?_
 rintro e w' ⟨rfl,n,os,rfl⟩;have hp:Holds (Value.int .i64) (Sort.ahead w n) g 0 zs.toArray:=h.1;have hs:g<(putRow (Value.int .i64) (Sort.ahead w n) g 0 (PA zs).toArray).heap.size:=by
  have:(putRow (Value.int .i64) (Sort.ahead w n) g 0 (PA zs).toArray).heap.size=w.heap.size:=by simp[putRow,mapBlock,Sort.ahead]
  rw[this];exact h.2
 have h2:=h.2;refine⟨rfl,⟨holds_grow _ _ _ _ _ _ hs (holds_putRow _ _ _ _ _ _ hp (by simp)),by simp;omega⟩,(o9 w n g B _ hB).trans (dE _ _ _ (ZT hB (Vm hs)))⟩
def Ob (zs:List Int):List Int:=Lib.compact zs
theorem dy {w:World} {g:Nat} (a b:List Int) (h:Holds (Value.int .i64) w g 0 (a++b).toArray):Holds (Value.int .i64) w g 0 a.toArray:=by
 intro j hj;have DB:j<a.length:=by simpa using hj
 have:=h j (by simp;omega)
 have e1:(a++b).toArray[j]! = a.toArray[j]! := by
  simp[V8 DB]
 rw[e1] at this;exact this
theorem wM (zs:List Int):(Ob zs).length<=zs.length:=by
 unfold Ob Lib.compact Lib.compactUpTo;rw[YU];exact ZT (Tz _ _) (by simp)
theorem dw (zs:List Int) (g cap B:Nat) (w:World) (h:IRow w g zs) (hB:B<=g) (hn:zs.length<=1000) (hc:zs.length<=cap) :
 Calls prog 73 #[.slice (some ⟨g,0,none⟩) zs.length cap] w λe w'=>e=.returned (.slice (some ⟨g,0,none⟩) (Ob zs).length cap)/\IRow w' g (Ob zs)/\Below B w w':=by
 refine (Tryz.slices_Compact_int g 0 cap zs w h.1 (by omega) hc).mono ?_
 rintro e w' ⟨rfl,q,rfl⟩;have hp:Holds (Value.int .i64) (Sort.ahead w q) g 0 zs.toArray:=h.1;refine⟨rfl,⟨?_,?_⟩,o9 w q g B _ hB⟩
 ·refine dy (Ob zs) (List.replicate (zs.length - (Ob zs).length) 0) ?_
  have hl:=wM zs;exact holds_putRow _ _ _ _ _ _ hp (by simp;unfold Ob at *;omega)
 have:(putRow (Value.int .i64) (Sort.ahead w q) g 0 (Lib.compact zs++List.replicate (zs.length - (Lib.compact zs).length) 0).toArray).heap.size=w.heap.size:=by simp[putRow,mapBlock,Sort.ahead]
 rw[this];exact h.2
end Go.Proofs.YtndcpnlaadikoaaGreatDoor
