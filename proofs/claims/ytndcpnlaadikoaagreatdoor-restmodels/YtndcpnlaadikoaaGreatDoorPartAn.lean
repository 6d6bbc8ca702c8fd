/- What the proof leans on, part 14. -/
import Derived.Test.YtndcpnlaadikoaaGreatDoorPartAm
import Derived.Test.YtndcpnlaadikoaaGreatDoorProg
import Derived.Shelf.Sort.Plain
import Derived.Ground.Names2Prog
import Derived.Shelf.Slices.CompactI
set_option maxRecDepth 100000
set_option maxHeartbeats 3200000
namespace Go.Proofs.YtndcpnlaadikoaaGreatDoor
open Go.RowKit
theorem zEX (n:Int) (c:MCon) (h:conE n c=0):(1≤c.kind∧c.kind≤10)∧zFa c=false∧zCJ c=true∧zHF c n=true∧zDE c=true∧zNW c.lits=0:=by
 unfold conE at h
 split at h
 ·rename_i hk
  cases h1:zFa c
  ·cases h2:zCJ c
   ·rw[h1,h2] at h;simp at h
   ·cases h3:zHF c n
    ·rw[h1,h2,h3] at h;simp at h
    ·cases h4:zDE c
     ·rw[h1,h2,h3,h4] at h;simp at h
     ·rw[h1,h2,h3,h4] at h;simp at h
      exact⟨hk,rfl,rfl,rfl,rfl,h⟩
  ·rw[h1] at h;simp at h
 ·cases h
theorem zNo (vars vals:List Int) (h:∀x∈vals,-50≤x∧x≤50) (x:Int) (hx:x∈ownV vars vals):-50≤x∧x≤50:=by
 obtain⟨v,_,rfl⟩:=List.mem_map.1 hx;unfold zAf;rw[List.getD_eq_getElem?_getD];cases hq:vals[v.toNat]? with
 | none=>simp
 | some y=>exact h y (List.mem_of_getElem? hq)
theorem zMr (vars vals:List Int):(ownV vars vals).length=vars.length:=by simp[ownV]
theorem zHU (c:MCon) (n:Int) (h:zHF c n=true):(∀x∈c.vars,0≤x∧x<n)∧∀l∈c.lits,0≤l.var∧l.var<n:=by
 unfold zHF at h;rw[Bool.and_eq_true,List.all_eq_true,List.all_eq_true] at h;exact⟨fun x hx=>by simpa[zBd] using h.1 x hx,fun l hl=>by simpa[zBd] using h.2 l hl⟩
theorem zKO (c:MCon) (h:zDE c=true):∀x∈c.consts,-1000≤x∧x≤1000:=by
 unfold zDE at h;rw[Bool.and_eq_true,List.all_eq_true] at h;exact fun x hx=>by simpa[zAT,inB] using h.1 x hx
theorem zG4 (c:MCon) (h:zFa c=false):c.vars.length≤4∧c.lits.length≤4∧c.consts.length≤8∧c.rows.length≤20:=by
 unfold zFa at h;simp at h;omega
theorem zFg (c:MCon) (vals:List Int) (vv vc vr vl v:Value) (w:World) (hk:KArg w vv vc vr vl c) (hv:IArg w v vals) (hc:conE vals.length c=0) (hb:∀x∈vals,-50≤x∧x≤50) :
 Calls Tryz.prog 98 #[conV vv vc vr vl c,v] w fun e w'=>e=.returned (.bool (zAR c vals))∧Below w.heap.size w w':=by
 obtain⟨⟨hk1,hk10⟩,hmany,hform,hvars,hconsts,hlits⟩:=zEX _ _ hc;obtain⟨hn4,hl4,hc8,_⟩:=zG4 c hmany;have HVI:Hid (∀x∈c.vars,0≤x∧x<(vals.length:Int)):=(zHU c _ hvars).1;have HLI:Hid (∀l∈c.lits,0≤l.var∧l.var<(vals.length:Int)):=(zHU c _ hvars).2;have HCI:Hid (∀x∈c.consts,-1000≤x∧x≤1000):=zKO c hconsts;have HOB:Hid (∀x∈ownV c.vars vals,-50≤x∧x≤50):=zNo c.vars vals hb;have HKA:Hid (∀w':World,Below w.heap.size w w'→KArg w' vv vc vr vl c):=fun w' h=>KArg.below h hk
 have HVA:Hid (∀w':World,Below w.heap.size w w'→IArg w' v vals):=fun w' h=>IArg.below h hv
 have HFO:Hid (zCJ c=true):=hform;obtain⟨⟨a1,c1,rfl,_,_⟩,⟨a2,c2,rfl,hm2,_⟩,⟨a3,c3,rfl,_,_⟩,⟨a4,c4,rfl,hm4,_⟩⟩:=hk;obtain⟨a5,c5,rfl,_,_⟩:=hv;unfold maxLen at hm2 hm4;obtain⟨hm21,hm2⟩:=hm2;obtain⟨hm41,hm4⟩:=hm4;obtain⟨R,hR⟩:∃R,zAR c vals=R:=⟨_,rfl⟩;rw[hR];have HR:Hid (zAR c vals=R):=hR;unfold conV;clear hR hc hb hmany hform hvars hconsts hlits;go_enter Tryz.func98,Tryz.ntmps98
 go_wp2_with fail
 refine (zKN c.vars vals _ _ _ ?_ ?_ hn4 HVI.out).mono ?_
 ·exact (HKA.out _ (zAA _ _)).1
 ·exact HVA.out _ (zAA _ _)
 rintro e w1 ⟨x,rfl,hx,hb1⟩;have d0:w1.cell? ⟨w.heap.size,0,none⟩=some (.int .i64 c.kind):=(hb1.cell (by simp)).trans (by simp)
 have d2:w1.cell? ⟨w.heap.size,2,none⟩=some (.slice a2 c.consts.length c2):=(hb1.cell (by simp)).trans (by simp)
 have d3:w1.cell? ⟨w.heap.size,3,none⟩=some (.int .i64 c.n):=(hb1.cell (by simp)).trans (by simp)
 have d4:w1.cell? ⟨w.heap.size,4,none⟩=some (.slice a3 c.rows.length c3):=(hb1.cell (by simp)).trans (by simp)
 have d5:w1.cell? ⟨w.heap.size,5,none⟩=some (.slice a4 c.lits.length c4):=(hb1.cell (by simp)).trans (by simp)
 have hs1:w.heap.size+1≤w1.heap.size:=by simpa using hb1.size
 have HB1:Hid (Below w.heap.size w w1):=(zAA _ _).trans (hb1.mono (by simp))
 have HX:Hid (∀w':World,Below w1.heap.size w1 w'→IArg w' x (ownV c.vars vals)):=fun w' h=>IArg.below h hx
 obtain⟨own,HOWN⟩:∃own,Hid (ownV c.vars vals=own):=⟨_,rfl⟩;have HOL:Hid (own.length=c.vars.length):=by rw[←HOWN.out];exact zMr _ _
 rw[HOWN.out] at HX HOB hx;obtain⟨a6,c6,rfl,hm6,h6⟩:=hx;unfold maxLen at hm6;obtain⟨hm61,hm6⟩:=hm6;have H6:Hid (∀(i:Nat) (z:Int),own[i]? = some z→∃b off,a6=some ⟨b,off,none⟩∧b<w1.heap.size∧w1.cell? ⟨b,off+i,none⟩=some (.int .i64 z)):=h6;clear hb1 h6;have hl0:w.heap.size<w1.heap.size:=by omega
 have HB2:Hid (Below w.heap.size w (w1.alloc (.cells #[.slice a6 own.length c6] 42))):=HB1.out.trans ((zAA _ _).mono (by omega))
 obtain⟨kd,hkd⟩:∃kd,c.kind=kd:=⟨_,rfl⟩;have HKD:Hid (c.kind=kd):=hkd;rw[hkd] at d0 hk1 hk10;clear hkd hs1;have HN:Hid (R=true∨R=false):=by cases R <;> simp[Hid]
 have hcases:kd=1∨kd=2∨kd=3∨kd=4∨kd=5∨kd=6∨kd=7∨kd=8∨kd=9∨kd=10:=by omega
 clear hk1 hk10;rcases hcases with rfl | rfl | rfl | rfl | rfl | rfl | rfl | rfl | rfl | rfl
 ·
  have HL:Hid (c.consts.length=own.length):=by
   have h:=HFO.out;unfold zCJ at h;rw[HKD.out] at h;simp at h;exact h.2.1.trans HOL.out.symm
  have HE:Hid (R=decide (sumV c.consts own≤c.n)):=by rw[←HR.out,←HOWN.out];unfold zAR;rw[HKD.out];rfl
  have HS:Hid (∀n,Calls Tryz.prog 164 #[.slice a2 c.consts.length c2,.slice a6 own.length c6] ((w1.alloc (.cells #[.slice a6 own.length c6] 42)).drewN n) fun e w'=>e=.returned (.int .i64 (sumV c.consts own))∧∃k,w'=(w1.alloc (.cells #[.slice a6 own.length c6] 42)).drewN k):=by
   intro n;refine (zGC c.consts own _ _ _ ((HKA.out _ (below_drewN HB2.out n)).2.1) (HX.out _ (below_drewN (zAA _ _) n)) HL.out hc8 HCI.out HOB.out).mono ?_;rintro e w' ⟨rfl,rfl⟩;exact⟨rfl,n,rfl⟩
  go_wp2
  go_quiet ((go_at_call 164;exact HS.out _))
  go_wp2
  go_ret
  exact⟨zAD HE.out.symm,below_drewN HB2.out _⟩
 ·
  have HL:Hid (c.consts.length=own.length):=by
   have h:=HFO.out;unfold zCJ at h;rw[HKD.out] at h;simp at h;exact h.2.1.trans HOL.out.symm
  have HE:Hid (R=(sumV c.consts own==c.n)):=by rw[←HR.out,←HOWN.out];unfold zAR;rw[HKD.out];rfl
  have HS:Hid (∀n,Calls Tryz.prog 164 #[.slice a2 c.consts.length c2,.slice a6 own.length c6] ((w1.alloc (.cells #[.slice a6 own.length c6] 42)).drewN n) fun e w'=>e=.returned (.int .i64 (sumV c.consts own))∧∃k,w'=(w1.alloc (.cells #[.slice a6 own.length c6] 42)).drewN k):=by
   intro n;refine (zGC c.consts own _ _ _ ((HKA.out _ (below_drewN HB2.out n)).2.1) (HX.out _ (below_drewN (zAA _ _) n)) HL.out hc8 HCI.out HOB.out).mono ?_;rintro e w' ⟨rfl,rfl⟩;exact⟨rfl,n,rfl⟩
  go_wp2
  go_quiet ((go_at_call 164;exact HS.out _))
  go_wp2
  go_ret
  exact⟨zAD HE.out.symm,below_drewN HB2.out _⟩
 ·
  have HL:Hid (c.consts.length=own.length):=by
   have h:=HFO.out;unfold zCJ at h;rw[HKD.out] at h;simp at h;exact h.2.1.trans HOL.out.symm
  have HE:Hid (R=(sumV c.consts own != c.n)):=by rw[←HR.out,←HOWN.out];unfold zAR;rw[HKD.out];rfl
  have HS:Hid (∀n,Calls Tryz.prog 164 #[.slice a2 c.consts.length c2,.slice a6 own.length c6] ((w1.alloc (.cells #[.slice a6 own.length c6] 42)).drewN n) fun e w'=>e=.returned (.int .i64 (sumV c.consts own))∧∃k,w'=(w1.alloc (.cells #[.slice a6 own.length c6] 42)).drewN k):=by
   intro n;refine (zGC c.consts own _ _ _ ((HKA.out _ (below_drewN HB2.out n)).2.1) (HX.out _ (below_drewN (zAA _ _) n)) HL.out hc8 HCI.out HOB.out).mono ?_;rintro e w' ⟨rfl,rfl⟩;exact⟨rfl,n,rfl⟩
  go_wp2
  go_quiet ((go_at_call 164;exact HS.out _))
  go_wp2
  go_ret
  exact⟨zAD HE.out.symm,below_drewN HB2.out _⟩
 ·
  have HE:Hid (R=decide own.Nodup):=by rw[←HR.out,←HOWN.out];unfold zAR;rw[HKD.out];rfl
  have ho4:own.length≤4:=by have:=HOL.out;omega
  go_wp2_with fail
  refine (zIg own _ _ (HX.out _ (zAA _ _)) ho4 HOB.out).mono ?_;rintro e w3 ⟨rfl,hb3⟩;have hb4:Below w.heap.size w w3:=HB2.out.trans (hb3.mono (by simp;omega))
  clear hb3;go_wp2
  go_ret
  exact⟨zAD HE.out.symm,hb4⟩
 ·
  have HL:Hid (own.length=2):=by
   have h:=HFO.out;unfold zCJ at h;rw[HKD.out] at h;simp at h;exact HOL.out.trans h.2.1
  obtain⟨p,q,rfl⟩:∃p q,own=[p,q]:=by
   match own,HL.out with
   | [p,q],_=>exact⟨p,q,rfl⟩
  obtain⟨b,off,rfl,hb,e0⟩:=H6.out 0 p rfl;obtain⟨b',off',hab,hb',e1⟩:=H6.out 1 q rfl;cases hab
  rw[Nat.add_zero] at e0;have HE:Hid (R=(decide (0≤p)&&(decide (p<c.consts.length)&&(c.consts.getD p.toNat 0==q)))):=by rw[←HR.out];unfold zAR;rw[HKD.out,HOWN.out];rfl
  by_cases q1:0≤p
  ·obtain⟨j,rfl⟩:∃j:Nat,p=(j:Int):=⟨p.toNat,by omega⟩
   by_cases q2:j<c.consts.length
   ·obtain⟨y,hy⟩:∃y,c.consts[j]? = some y:=⟨c.consts[j],by simp[q2]⟩
    obtain⟨a2',c2',hva,_,hrc⟩:=(HKA.out _ HB1.out).2.1;obtain⟨b2,off2,hax,hb2,e2⟩:=hrc j y hy;have ha2:a2=some ⟨b2,off2,none⟩:=by cases hva;exact hax
    subst ha2;have HE2:Hid (R=(y==q)):=by
     show _=_;rw[HE.out,decide_eq_true q1,decide_eq_true (show (j:Int)<c.consts.length by omega),Int.toNat_natCast,List.getD_eq_getElem?_getD,hy];rfl
    have q2':(j:Int)<(c.consts.length:Int):=by omega
    clear hy hva hrc hax;go_wp2
    go_quiet (fail)
    go_wp2
    go_ret
    exact⟨zAD HE2.out.symm,below_drewN HB2.out _⟩
   ·have HE2:Hid (R=false):=by
     show _=_;rw[HE.out,decide_eq_true q1,decide_eq_false (show ¬(j:Int)<c.consts.length by omega)];rfl
    have q3:decide (j<c.consts.length)=false:=decide_eq_false q2;have q4:decide ((j:Int)<(c.consts.length:Int))=false:=decide_eq_false (by omega)
    clear q2;go_wp2
    go_quiet (fail)
    go_wp2
    go_ret
    exact⟨zAD HE2.out.symm,below_drewN HB2.out _⟩
  ·have HE2:Hid (R=false):=by
    show _=_;rw[HE.out,decide_eq_false q1];rfl
   have q3:decide (0≤p)=false:=decide_eq_false q1;go_wp2
   go_quiet (fail)
   go_wp2
   go_ret
   exact⟨zAD HE2.out.symm,below_drewN HB2.out _⟩
 ·
  have HE:Hid (R=c.rows.any fun r=>decide (r=own)):=by rw[←HR.out,←HOWN.out];unfold zAR;rw[HKD.out];rfl
  go_wp2_with fail
  refine (zE6 167 _ (fun r=>decide (r=own)) c.rows _ _ ((HKA.out _ HB2.out).2.2.1) ⟨zIh,?_⟩).mono ?_
  ·intro r x w' hb' hx'
   exact zMp own r _ x w1.heap.size w' (HX.out _ ((zAA _ _).trans (hb'.mono (by simp)))) hx' ((hb'.cell (by simp)).trans (by simp))
  rintro e w3 ⟨rfl,hb3⟩;have hb4:Below w.heap.size w w3:=HB2.out.trans (hb3.mono (by simp;omega))
  clear hb3;go_wp2
  go_ret
  exact⟨zAD HE.out.symm,hb4⟩
 ·
  have HL:Hid (own.length=3):=by
   have h:=HFO.out;unfold zCJ at h;rw[HKD.out] at h;simp at h;exact HOL.out.trans h.2.1
  obtain⟨p,q,r,rfl⟩:∃p q r,own=[p,q,r]:=by
   match own,HL.out with
   | [p,q,r],_=>exact⟨p,q,r,rfl⟩
  obtain⟨b,off,rfl,hb,e0⟩:=H6.out 0 p rfl;obtain⟨b',off',hab,hb',e1⟩:=H6.out 1 q rfl;cases hab
  obtain⟨b',off',hab,hb',e2⟩:=H6.out 2 r rfl;cases hab
  rw[Nat.add_zero] at e0;have HE:Hid (R=(p * q==r)):=by rw[←HR.out];unfold zAR;rw[HKD.out,HOWN.out];rfl
  obtain⟨g1,g2⟩:=zHQ p q (by have:=HOB.out p (by simp);omega) (by have:=HOB.out p (by simp);omega) (HOB.out q (by simp)).1 (HOB.out q (by simp)).2
  go_wp2
  go_quiet (fail)
  go_wp2
  go_ret
  exact⟨zAD HE.out.symm,below_drewN HB2.out _⟩
 ·
  have HL:Hid (2≤own.length):=by
   have h:=HFO.out;unfold zCJ at h;rw[HKD.out] at h;simp at h;have:=HOL.out;show 2≤_;omega
  obtain⟨p,q,r,rfl⟩:∃p q r,own=p :: q :: r:=by
   match own,HL.out with
   | p :: q :: r,_=>exact⟨p,q,r,rfl⟩
  obtain⟨b,off,rfl,hb,e0⟩:=H6.out 0 p rfl;rw[Nat.add_zero] at e0;have HE:Hid (R=(p==r.foldl max q)):=by rw[←HR.out];unfold zAR;rw[HKD.out,HOWN.out];rfl
  obtain⟨n,hn⟩:∃n,(p :: q :: r).length=n:=⟨_,rfl⟩;have hn2:2≤n:=by rw[←hn];simp
  have HT:Hid (IArg w1 (.slice (some ⟨b,off+1,none⟩) (n - 1) (c6 - 1)) (q :: r)):=by
   refine⟨_,_,by rw[←hn];rfl,⟨by rw[←hn] at *;simp at *;omega,by unfold maxLen;omega⟩,fun i z hz=>?_⟩
   obtain⟨b',off',hab,hb',e1⟩:=H6.out (i+1) z (by simpa using hz)
   cases hab
   exact⟨b,off+1,rfl,hb,by rw[Nat.add_assoc,Nat.add_comm 1 i];exact e1⟩
  rw[hn] at hm61 HB2 ⊢;clear hn;go_wp2
  go_quiet ((go_at_call 169;exact (zO5 q r _ _ (IArg.below (below_drewN (zAA _ _) _) HT.out)).mono (fun _ _ h=>⟨h.1,_,h.2⟩)))
  go_wp2
  go_ret
  exact⟨zAD HE.out.symm,below_drewN HB2.out _⟩
 ·
  have HE:Hid (R=c.lits.any (litB vals)):=by rw[←HR.out];unfold zAR;rw[HKD.out];rfl
  go_wp2_with fail
  refine (zHS c.lits vals _ _ _ ((HKA.out _ HB2.out).2.2.2) (HVA.out _ HB2.out) HLI.out).mono ?_;rintro e w3 ⟨rfl,hb3⟩;have hb4:Below w.heap.size w w3:=HB2.out.trans (hb3.mono (by simp;omega))
  clear hb3;go_wp2
  go_ret
  exact⟨zAD HE.out.symm,hb4⟩
 ·
  have HFF:Hid (own.length=1∧c.lits.length=1):=by
   have h:=HFO.out;unfold zCJ at h;rw[HKD.out] at h;simp at h;exact⟨HOL.out.trans h.2.1,h.2.2.1⟩
  obtain⟨p,rfl⟩:∃p,own=[p]:=by
   match own,HFF.out.1 with
   | [p],_=>exact⟨p,rfl⟩
  obtain⟨l,hl⟩:∃l,c.lits=[l]:=by
   match c.lits,HFF.out.2 with
   | [l],_=>exact⟨l,rfl⟩
  obtain⟨b,off,rfl,hb,e0⟩:=H6.out 0 p rfl;rw[Nat.add_zero] at e0;have HE:Hid (R=(p==(if litB vals l then 1 else 0))):=by rw[←HR.out];unfold zAR;rw[HKD.out,HOWN.out,hl];rfl
  obtain⟨a2',c2',hva,_,hrc⟩:=(HKA.out _ HB1.out).2.2.2;obtain⟨b2,off2,hax,hb2,g0,g1,g2⟩:=hrc 0 l (by rw[hl];rfl)
  have ha2:a4=some ⟨b2,off2,none⟩:=by cases hva;exact hax
  subst ha2;simp only[Nat.zero_mul,Nat.add_zero] at g0 g1 g2;have HLL:=HLI.out l (by rw[hl];simp)
  have hlen:c.lits.length=1:=by rw[hl];rfl
  obtain⟨j,hj⟩:∃j:Nat,l.var=(j:Int):=⟨l.var.toNat,by omega⟩
  have hjl:j<vals.length:=by omega
  obtain⟨y,hy⟩:∃y,vals[j]? = some y:=⟨vals[j],by simp[hjl]⟩
  obtain⟨a7,c7,hva7,hm7,hrc7⟩:=HVA.out _ HB1.out;obtain⟨b7,off7,hax7,hb7,g7⟩:=hrc7 j y hy;have ha5:a5=some ⟨b7,off7,none⟩:=by cases hva7;exact hax7
  have hm75:vals.length≤c5∧c5≤maxLen:=by cases hva7;exact hm7
  unfold maxLen at hm75;obtain⟨hm71,hm72⟩:=hm75;subst ha5;obtain⟨B,HB⟩:∃B:Bool,Hid (litB vals l=B):=⟨_,rfl⟩;rw[HB.out] at HE;have HBV:Hid (litV y l=B):=by
   have h:=HB.out;unfold litB at h;rwa [hj,zFf vals j y hy] at h
  obtain⟨N,hN⟩:∃N:Int,(if B then (1:Int) else 0)=N:=⟨_,rfl⟩
  have HOI:Hid (∀W':World,Calls Tryz.prog 171 #[.bool B] W' fun e w'=>e=.returned (.int .i64 N)∧w'=W'):=by
   intro W';rw[←hN];exact zKM B W'
  rw[hN] at HE;clear hN;obtain⟨W,hW⟩:∃W:World,W=w1.alloc (.cells #[.slice (some ⟨b,off,none⟩) 1 c6] 42):=⟨_,rfl⟩;have HW:Hid (W=w1.alloc (.cells #[.slice (some ⟨b,off,none⟩) 1 c6] 42)):=hW;have HB2W:Hid (Below w.heap.size w W):=by rw[hW];exact HB2.out
  have HCL:Hid (∀wq:World,Below W.heap.size W wq→Calls Tryz.prog 172 #[.agg #[.int .i64 (j:Int),.int .i64 l.op,.int .i64 l.n],.int .i64 y] wq fun e w'=>e=.returned (.bool B)∧Below W.heap.size W w'):=by
   intro wq hq;rw[←hj];refine (zG3 l y wq).mono ?_;rintro e w' ⟨rfl,hb⟩;exact⟨by rw[HBV.out],hq.trans (hb.mono hq.size)⟩
  have k0:W.cell? ⟨w1.heap.size,0,none⟩=some (.slice (some ⟨b,off,none⟩) 1 c6):=by rw[hW];simp
  have k1:W.cell? ⟨b,off,none⟩=some (.int .i64 p):=by rw[hW];exact (World.cell?_alloc_past _ _ _ hb).trans e0
  have k2:W.cell? ⟨w.heap.size,5,none⟩=some (.slice (some ⟨b2,off2,none⟩) 1 c4):=by rw[hW,←hlen];exact (World.cell?_alloc_past _ _ _ hl0).trans d5
  have k3:W.cell? ⟨b2,off2,none⟩=some (.int .i64 (j:Int)):=by rw[hW,←hj];exact (World.cell?_alloc_past _ _ _ hb2).trans g0
  have k4:W.cell? ⟨b2,off2+1,none⟩=some (.int .i64 l.op):=by rw[hW];exact (World.cell?_alloc_past _ _ _ hb2).trans g1
  have k5:W.cell? ⟨b2,off2+2,none⟩=some (.int .i64 l.n):=by rw[hW];exact (World.cell?_alloc_past _ _ _ hb2).trans g2
  have k7:W.cell? ⟨b7,off7+j,none⟩=some (.int .i64 y):=by rw[hW];exact (World.cell?_alloc_past _ _ _ hb7).trans g7
  have hsW:W.heap.size=w1.heap.size+1:=by rw[hW];simp
  have HSW:Hid (W.heap.size=w1.heap.size+1):=hsW;clear hW hsW hva hrc hax hl hva7 hrc7 hax7 hm7 hy hj;go_wp2
  rw[←HW.out];clear d0 d2 d3 d4 d5 e0 g0 g1 g2 g7 H6 HX HKA HVA HVI HLI HCI HOB HFO HFF HOL HOWN HLL HR HKD HB1 hm21 hm41 hm2 hm4 hm61 hm6;refine zEW (by kernel_rfl) (by kernel_rfl) ?_
  go_big_quiet_want
  refine⟨.slice (some ⟨b,off,none⟩) 1 c6,fun wq hq=>?_,?_⟩
  ·have h0:=(hq.cell (p:=⟨w1.heap.size,0,none⟩) (by have:=HSW.out;simp only;omega)).trans k0
   simp[Oper.quietAt,go_sem,h0]
  go_simp
  go_big_quiet_on
  go_big_quiet_want
  go_big_quiet_op
  first | go_big_quiet_on | (refine⟨_,fun _ _=>rfl,?_⟩;go_big_quiet_on)
  go_big_quiet_want
  refine⟨.int .i64 p,fun wq hq=>?_,?_⟩
  ·have h0:=(hq.cell (p:=⟨b,off,none⟩) (by have:=HSW.out;simp only;omega)).trans k1
   simp[Oper.quietAt,go_sem,h0]
  go_simp
  go_big_quiet_on
  go_big_quiet_want
  go_big_quiet_op
  first | go_big_quiet_on | (refine⟨_,fun _ _=>rfl,?_⟩;go_big_quiet_on)
  go_big_quiet_want
  refine⟨.slice (some ⟨b2,off2,none⟩) 1 c4,fun wq hq=>?_,?_⟩
  ·have h0:=(hq.cell (p:=⟨w.heap.size,5,none⟩) (by have:=HSW.out;simp only;omega)).trans k2
   simp[Oper.quietAt,go_sem,h0]
  go_simp
  go_big_quiet_on
  go_big_quiet_want
  go_big_quiet_op
  first | go_big_quiet_on | (refine⟨_,fun _ _=>rfl,?_⟩;go_big_quiet_on)
  go_big_quiet_want
  refine⟨.agg #[.int .i64 (j:Int),.int .i64 l.op,.int .i64 l.n],fun wq hq=>?_,?_⟩
  ·have h0:=(hq.cell (p:=⟨b2,off2,none⟩) (by have:=HSW.out;simp only;omega)).trans k3
   have h1:=(hq.cell (p:=⟨b2,off2+1,none⟩) (by have:=HSW.out;simp only;omega)).trans k4
   have h2:=(hq.cell (p:=⟨b2,off2+2,none⟩) (by have:=HSW.out;simp only;omega)).trans k5
   simp[Oper.quietAt,go_sem,h0,h1,h2]
  go_simp
  go_big_quiet_on
  go_big_quiet_want
  go_big_quiet_op
  first | go_big_quiet_on | (refine⟨_,fun _ _=>rfl,?_⟩;go_big_quiet_on)
  go_big_quiet_want
  go_big_quiet_op
  first | go_big_quiet_on | (refine⟨_,fun _ _=>rfl,?_⟩;go_big_quiet_on)
  go_big_quiet_want
  refine⟨.slice (some ⟨b2,off2,none⟩) 1 c4,fun wq hq=>?_,?_⟩
  ·have h0:=(hq.cell (p:=⟨w.heap.size,5,none⟩) (by have:=HSW.out;simp only;omega)).trans k2
   simp[Oper.quietAt,go_sem,h0]
  go_simp
  go_big_quiet_on
  go_big_quiet_want
  go_big_quiet_op
  first | go_big_quiet_on | (refine⟨_,fun _ _=>rfl,?_⟩;go_big_quiet_on)
  go_big_quiet_want
  go_big_quiet_op
  first | go_big_quiet_on | (refine⟨_,fun _ _=>rfl,?_⟩;go_big_quiet_on)
  go_big_quiet_want
  refine⟨.int .i64 (j:Int),fun wq hq=>?_,?_⟩
  ·have h0:=(hq.cell (p:=⟨b2,off2,none⟩) (by have:=HSW.out;simp only;omega)).trans k3
   simp[Oper.quietAt,go_sem,h0]
  go_simp
  go_big_quiet_on
  go_big_quiet_want
  go_big_quiet_op
  first | go_big_quiet_on | (refine⟨_,fun _ _=>rfl,?_⟩;go_big_quiet_on)
  go_big_quiet_want
  refine⟨.int .i64 y,fun wq hq=>?_,?_⟩
  ·have h0:=(hq.cell (p:=⟨b7,off7+j,none⟩) (by have:=HSW.out;simp only;omega)).trans k7
   simp[Oper.quietAt,go_sem,h0]
  go_simp
  go_big_quiet_on
  go_big_quiet_want
  refine⟨.bool B,fun wq hq=>?_,?_⟩
  ·simp[Oper.quietAt,go_sem]
   exact HCL.out wq hq
  go_simp
  go_big_quiet_on
  go_big_quiet_want
  refine⟨.int .i64 N,fun wq hq=>?_,?_⟩
  ·simp[Oper.quietAt,go_sem]
   exact (HOI.out wq).mono (fun e w' h=>⟨h.1,by rw[h.2];exact hq⟩)
  go_simp
  go_big_quiet_on
  go_big_quiet_want
  go_big_quiet_op
  first | go_big_quiet_on | (refine⟨_,fun _ _=>rfl,?_⟩;go_big_quiet_on)
  go_big_quiet_want
  go_big_quiet_op
  first | go_big_quiet_on | (refine⟨_,fun _ _=>rfl,?_⟩;go_big_quiet_on)
  refine wpQuiet_nil ?_;intro w' hw';have hb4:Below w.heap.size w w':=HB2W.out.trans (hw'.mono HB2W.out.size);clear hw';go_wp2
  go_ret
  exact⟨zAD HE.out.symm,hb4⟩
def zAw (m:Mod) (con:Int):Int:=if zAG m=0 then (if con<0∨(m.cons.length:Int)≤con then 5 else 0) else zAG m
def zGD:MCon:=⟨0,[],[],0,[],[]⟩
def zMs (m:Mod) (con:Int) (vals:List Int):Bool×Int :=
 if zAw m con=0 then
  (if vals.length=m.vars.length then (if vals.all (fun x=>inB x 50) then (zAR (m.cons.getD con.toNat zGD) vals,0) else (false,3)) else (false,1))
 else (false,zAw m con)
def zCb (v:MVar) (x:Int):Bool:=!decide (x<v.lo)&&!decide (v.hi<x)
def allA (m:Mod) (vals:List Int):Bool×Int :=
 if zAG m=0 then
  (if vals.length=m.vars.length then ((m.vars.zip vals).all (fun p=>zCb p.1 p.2)&&m.cons.all (fun c=>zAR c vals),0) else (false,1))
 else (false,zAG m)
theorem zKP (m:Mod) (con:Int) (vs cs:Value) (w:World) (hm:MArg w vs cs m) :
 Calls Tryz.prog 71 #[modV vs cs m,.int .i64 con] w fun e w'=>e=.returned (.int .i64 (zAw m con))∧Below w.heap.size w w':=by
 have HMA:Hid (∀w':World,Below w.heap.size w w'→MArg w' vs cs m):=fun w' h=>MArg.below h hm
 obtain⟨⟨a1,c1,rfl,_,_⟩,⟨a2,c2,rfl,hl2,_⟩⟩:=hm;unfold maxLen at hl2;obtain⟨hl21,hl2⟩:=hl2;obtain⟨R,hR⟩:∃R,zAw m con=R:=⟨_,rfl⟩;rw[hR];obtain⟨er,her⟩:∃er,zAG m=er:=⟨_,rfl⟩;have HER:Hid (zAG m=er):=her;have HE:Hid (R=if er=0 then (if con<0∨(m.cons.length:Int)≤con then 5 else 0) else er):=by rw[←hR,←her];rfl
 clear hR her;unfold modV;go_enter Tryz.func71,Tryz.ntmps71
 go_wp2_with fail
 refine (zA9 m (.slice a1 m.vars.length c1) (.slice a2 m.cons.length c2) _ ?_).mono ?_
 ·exact HMA.out _ (zAA _ _)
 rintro e w1 ⟨rfl,hb1⟩;rw[HER.out];have d1:w1.cell? ⟨w.heap.size,1,none⟩=some (.slice a2 m.cons.length c2):=(hb1.cell (by simp)).trans (by simp)
 have HB1:Hid (Below w.heap.size w w1):=(zAA _ _).trans (hb1.mono (by simp))
 clear hb1;by_cases he:er=0
 ·subst he
  by_cases q1:con<0
  ·have HN:Hid (R=5):=by rw[HE.out,if_pos rfl,if_pos (Or.inl q1)];rfl
   go_wp2
   go_ret
   exact⟨zAI HN.out.symm,HB1.out⟩
  ·by_cases q2:(m.cons.length:Int)≤con
   ·have HN:Hid (R=5):=by rw[HE.out,if_pos rfl,if_pos (Or.inr q2)];rfl
    go_wp2
    go_ret
    exact⟨zAI HN.out.symm,HB1.out⟩
   ·have HN:Hid (R=0):=by rw[HE.out,if_pos rfl,if_neg (by omega)];rfl
    go_wp2
    go_ret
    exact⟨zAI HN.out.symm,HB1.out⟩
 ·have HN:Hid (R=er):=by rw[HE.out,if_neg he];rfl
  have he2:(er != 0)=true:=by simpa using he
  clear he;go_wp2
  go_ret
  exact⟨zAI HN.out.symm,HB1.out⟩
theorem zFG (m:Mod) (con:Int) (h:zAw m con=0):zAG m=0∧0≤con∧con<m.cons.length:=by
 unfold zAw at h
 split at h
 ·rename_i h0
  split at h
  ·cases h
  ·exact⟨h0,by omega,by omega⟩
 ·contradiction
end Go.Proofs.YtndcpnlaadikoaaGreatDoor
namespace Go.Proofs
open Go.Shelf
def Tryz.lays189_ren:Go.Shelf.Ren:=⟨fun | 189=>72 | 125=>133 | 257=>132 | 128=>212 | 129=>213 | 294=>203 | 295=>204 | 296=>205 | 297=>206 | 298=>207 | 299=>208 | 216=>209 | 300=>210 | 301=>211 | 328=>253 | 329=>254 | 330=>255 | 331=>256 | 332=>257 | 215=>258 | 343=>277 | n=>n,fun | 28=>42 | 3=>3 | 46=>199 | 0=>0 | 51=>266 | 53=>135 | 4=>4 | 183=>259 | 182=>258 | 131=>263 | 5=>5 | 9=>9 | 218=>295 | 222=>299 | 228=>312 | 229=>158 | n=>n,fun | n=>n⟩
theorem Tryz.lays189:Go.Proofs.Lays.n189 Tryz.prog Tryz.lays189_ren:={
 mixed:=by kernel_rfl
 f125:=Tryz.func133.trans (congrArg some (by kernel_rfl))
 f128:=Tryz.func212.trans (congrArg some (by kernel_rfl))
 f129:=Tryz.func213.trans (congrArg some (by kernel_rfl))
 f189:=Tryz.func72.trans (congrArg some (by kernel_rfl))
 f215:=Tryz.func258.trans (congrArg some (by kernel_rfl))
 f216:=Tryz.func209.trans (congrArg some (by kernel_rfl))
 f257:=Tryz.func132.trans (congrArg some (by kernel_rfl))
 f294:=Tryz.func203.trans (congrArg some (by kernel_rfl))
 f295:=Tryz.func204.trans (congrArg some (by kernel_rfl))
 f296:=Tryz.func205.trans (congrArg some (by kernel_rfl))
 f297:=Tryz.func206.trans (congrArg some (by kernel_rfl))
 f298:=Tryz.func207.trans (congrArg some (by kernel_rfl))
 f299:=Tryz.func208.trans (congrArg some (by kernel_rfl))
 f300:=Tryz.func210.trans (congrArg some (by kernel_rfl))
 f301:=Tryz.func211.trans (congrArg some (by kernel_rfl))
 f328:=Tryz.func253.trans (congrArg some (by kernel_rfl))
 f329:=Tryz.func254.trans (congrArg some (by kernel_rfl))
 f330:=Tryz.func255.trans (congrArg some (by kernel_rfl))
 f331:=Tryz.func256.trans (congrArg some (by kernel_rfl))
 f332:=Tryz.func257.trans (congrArg some (by kernel_rfl))
 f343:=Tryz.func277.trans (congrArg some (by kernel_rfl))
 t0:=Tryz.underlying0
 a0:=Tryz.isAgg0
 z0:=Tryz.sizeOf0
 v0:=Tryz.zeroValue0
 t3:=Tryz.underlying3
 a3:=Tryz.isAgg3
 z3:=Tryz.sizeOf3
 v3:=Tryz.zeroValue3
 t4:=Tryz.underlying4
 a4:=Tryz.isAgg4
 z4:=Tryz.sizeOf4
 v4:=Tryz.zeroValue4
 t5:=Tryz.underlying5
 a5:=Tryz.isAgg5
 z5:=Tryz.sizeOf5
 v5:=Tryz.zeroValue5
 t9:=Tryz.underlying9
 a9:=Tryz.isAgg9
 z9:=Tryz.sizeOf9
 v9:=Tryz.zeroValue9
 t28:=Tryz.underlying42
 a28:=Tryz.isAgg42
 z28:=Tryz.sizeOf42
 v28:=Tryz.zeroValue42
 t46:=Tryz.underlying199
 a46:=Tryz.isAgg199
 z46:=Tryz.sizeOf199
 v46:=Tryz.zeroValue199
 t51:=Tryz.underlying266
 a51:=Tryz.isAgg266
 z51:=Tryz.sizeOf266
 v51:=Tryz.zeroValue266
 t53:=Tryz.underlying135
 a53:=Tryz.isAgg135
 z53:=Tryz.sizeOf135
 v53:=Tryz.zeroValue135
 t131:=Tryz.underlying263
 a131:=Tryz.isAgg263
 z131:=Tryz.sizeOf263
 v131:=Tryz.zeroValue263
 t182:=Tryz.underlying258
 a182:=Tryz.isAgg258
 z182:=Tryz.sizeOf258
 v182:=Tryz.zeroValue258
 t183:=Tryz.underlying259
 a183:=Tryz.isAgg259
 z183:=Tryz.sizeOf259
 v183:=Tryz.zeroValue259
 t218:=Tryz.underlying295
 a218:=Tryz.isAgg295
 z218:=Tryz.sizeOf295
 v218:=Tryz.zeroValue295
 t222:=Tryz.underlying299
 a222:=Tryz.isAgg299
 z222:=Tryz.sizeOf299
 v222:=Tryz.zeroValue299
 t228:=Tryz.underlying312
 a228:=Tryz.isAgg312
 z228:=Tryz.sizeOf312
 v228:=Tryz.zeroValue312
 t229:=Tryz.underlying158
 a229:=Tryz.isAgg158
 z229:=Tryz.sizeOf158
 v229:=Tryz.zeroValue158 }
open Go.Sort Go.RowKit in
theorem Tryz.slices_Sort_int (blk off cap:Nat) (zs:List Int) (w:World) (hH:Holds (Value.int .i64) w blk off zs.toArray) (hblk:blk<w.heap.size) (hsz:zs.length<4611686018427387904) :
 Calls Tryz.prog 72 #[.slice (some ⟨blk,off,none⟩) zs.length cap] w fun e w' =>
  e=.returned (.tuple #[])∧∃n os,w'=grow (putRow (Value.int .i64) (Sort.ahead w n) blk off (zs.mergeSort fun x y=>decide (x≤y)).toArray) os:=Any.slices_Sort_int Tryz.lays189 blk off cap zs w hH hblk hsz
def Tryz.laysNm220_ren:Go.Shelf.Ren:=⟨fun | 20=>73 | n=>n,fun | 22=>42 | 3=>3 | 4=>4 | 0=>0 | n=>n,fun | n=>n⟩
theorem Tryz.laysNm220:Go.Proofs.Lays2.n20 Tryz.prog Tryz.laysNm220_ren:={
 mixed:=by kernel_rfl
 f20:=Tryz.func73.trans (congrArg some (by kernel_rfl))
 t0:=Tryz.underlying0
 a0:=Tryz.isAgg0
 z0:=Tryz.sizeOf0
 v0:=Tryz.zeroValue0
 t3:=Tryz.underlying3
 a3:=Tryz.isAgg3
 z3:=Tryz.sizeOf3
 v3:=Tryz.zeroValue3
 t4:=Tryz.underlying4
 a4:=Tryz.isAgg4
 z4:=Tryz.sizeOf4
 v4:=Tryz.zeroValue4
 t22:=Tryz.underlying42
 a22:=Tryz.isAgg42
 z22:=Tryz.sizeOf42
 v22:=Tryz.zeroValue42
 i3:=by kernel_rfl }
open Go.RowKit Go.Lib Go.Sort in
theorem Tryz.slices_Compact_int (blk off cap:Nat) (zs:List Int) (w:World) (hH:Holds (Value.int .i64) w blk off zs.toArray) (hsz:zs.length≤9223372036854775807) (hcap:zs.length≤cap) :
 Calls Tryz.prog 73 #[.slice (some ⟨blk,off,none⟩) zs.length cap] w fun e w'=>e=.returned (.slice (some ⟨blk,off,none⟩) (Lib.compact zs).length cap)∧∃q,w'=putRow (Value.int .i64) (Sort.ahead w q) blk off (Lib.compact zs++List.replicate (zs.length - (Lib.compact zs).length) 0).toArray:=Any.slices_Compact_int Tryz.laysNm220 blk off cap zs w hH hsz hcap
end Go.Proofs
namespace Go.Proofs.YtndcpnlaadikoaaGreatDoor
open Go.RowKit Go.Sort
theorem zKQ (w:World) (n g B:Nat) (d:Array Int) (hB:B≤g):Below B w (putRow (Value.int .i64) (Sort.ahead w n) g 0 d):=by
 refine⟨rfl,rfl,rfl,by simp[putRow,mapBlock,Sort.ahead],fun k hk=>?_⟩
 show (Array.modify _ _ _)[k]? = _;rw[Array.getElem?_modify,if_neg (by omega)];rfl
theorem zNp (w:World) (os:Array Obj) (B:Nat) (hB:B≤w.heap.size):Below B w (grow w os) :=
 ⟨rfl,rfl,rfl,by simp,fun k hk=>heap_grow_old w os (by omega)⟩
def IRow (w:World) (g:Nat) (zs:List Int):Prop:=Holds (Value.int .i64) w g 0 zs.toArray∧g<w.heap.size
theorem zQr {w:World} {base g cap:Nat} {zs:List Int} (h:w.ownsRow base 3 1 (.slice (some ⟨g,0,none⟩) zs.length cap) zs.length (zs.map (Value.int .i64))):IRow w g zs:=by
 refine⟨fun j hj=>?_,(h.lt g rfl).2⟩
 have hj':j<zs.length:=by simpa using hj
 rw[Nat.zero_add];refine⟨?_,h.frozenAt j⟩;rw[h.cellAt j (by omega),List.getElem?_map]
 simp[hj']
theorem zQs {w:World} {g cap n:Nat} {zs:List Int} (h:IRow w g zs) (hn:n=zs.length) (hc:n≤cap) (hm:cap≤maxLen):IArg w (.slice (some ⟨g,0,none⟩) n cap) zs:=by
 subst hn;refine⟨_,cap,rfl,⟨hc,hm⟩,fun i z hz=>⟨g,0,rfl,h.2,?_⟩⟩
 have hi:i<zs.length:=(List.getElem?_eq_some_iff.1 hz).1;have hz':zs[i]=z:=by simpa[hi] using hz
 have:=(h.1 i (by simpa using hi)).1
 rw[this];simp[hi,hz']
def zD4 (zs:List Int):List Int:=zs.mergeSort fun x y=>decide (x≤y)
theorem zEY (zs:List Int):(zD4 zs).length=zs.length:=by simp[zD4]
theorem zQt (zs:List Int) (g cap B:Nat) (w:World) (h:IRow w g zs) (hB:B≤g) (hn:zs.length≤1000) :
 Calls Tryz.prog 72 #[.slice (some ⟨g,0,none⟩) zs.length cap] w fun e w'=>e=.returned (.tuple #[])∧IRow w' g (zD4 zs)∧Below B w w':=by
 refine (Tryz.slices_Sort_int g 0 cap zs w h.1 h.2 (by omega)).mono ?_
 rintro e w' ⟨rfl,n,os,rfl⟩;have hp:Holds (Value.int .i64) (Sort.ahead w n) g 0 zs.toArray:=h.1;have hs:g<(putRow (Value.int .i64) (Sort.ahead w n) g 0 (zD4 zs).toArray).heap.size:=by
  have:(putRow (Value.int .i64) (Sort.ahead w n) g 0 (zD4 zs).toArray).heap.size=w.heap.size:=by simp[putRow,mapBlock,Sort.ahead]
  rw[this];exact h.2
 have h2:=h.2;refine⟨rfl,⟨holds_grow _ _ _ _ _ _ hs (holds_putRow _ _ _ _ _ _ hp (by simp)),by simp;omega⟩,(zKQ w n g B _ hB).trans (zNp _ _ _ (Nat.le_trans hB (Nat.le_of_lt hs)))⟩
def zGE (zs:List Int):List Int:=Lib.compact zs
theorem zNq {w:World} {g:Nat} (a b:List Int) (h:Holds (Value.int .i64) w g 0 (a++b).toArray):Holds (Value.int .i64) w g 0 a.toArray:=by
 intro j hj;have hj':j<a.length:=by simpa using hj
 have:=h j (by simp;omega)
 have e1:(a++b).toArray[j]! = a.toArray[j]! := by
  simp[List.getElem?_append_left hj']
 rw[e1] at this;exact this
theorem zHV (zs:List Int):(zGE zs).length≤zs.length:=by
 unfold zGE Lib.compact Lib.compactUpTo;rw[List.length_map];exact Nat.le_trans (List.length_filter_le _ _) (by simp)
theorem zLZ (zs:List Int) (g cap B:Nat) (w:World) (h:IRow w g zs) (hB:B≤g) (hn:zs.length≤1000) (hc:zs.length≤cap) :
 Calls Tryz.prog 73 #[.slice (some ⟨g,0,none⟩) zs.length cap] w fun e w'=>e=.returned (.slice (some ⟨g,0,none⟩) (zGE zs).length cap)∧IRow w' g (zGE zs)∧Below B w w':=by
 refine (Tryz.slices_Compact_int g 0 cap zs w h.1 (by omega) hc).mono ?_
 rintro e w' ⟨rfl,q,rfl⟩;have hp:Holds (Value.int .i64) (Sort.ahead w q) g 0 zs.toArray:=h.1;refine⟨rfl,⟨?_,?_⟩,zKQ w q g B _ hB⟩
 ·refine zNq (zGE zs) (List.replicate (zs.length - (zGE zs).length) 0) ?_
  have hl:=zHV zs;exact holds_putRow _ _ _ _ _ _ hp (by simp;unfold zGE at *;omega)
 ·have:(putRow (Value.int .i64) (Sort.ahead w q) g 0 (Lib.compact zs++List.replicate (zs.length - (Lib.compact zs).length) 0).toArray).heap.size=w.heap.size:=by simp[putRow,mapBlock,Sort.ahead]
  rw[this];exact h.2
end Go.Proofs.YtndcpnlaadikoaaGreatDoor
