/- What the proof leans on, part 11. -/
import Derived.Test.YtndcpnlaadikoaaGreatDoorPartAi
namespace Go.Proofs.YtndcpnlaadikoaaGreatDoor
open Go.RowKit
theorem zDB (n:Int) (c:MCon) (h:conE n c=0):(1≤c.kind∧c.kind≤10)∧zFA c=false∧zB9 c=true∧zFs c n=true∧zCd c=true∧zKt c.lits=0:=by
 unfold conE at h
 split at h
 ·rename_i hk
  cases h1:zFA c
  ·cases h2:zB9 c
   ·rw[h1,h2] at h;simp at h
   ·cases h3:zFs c n
    ·rw[h1,h2,h3] at h;simp at h
    ·cases h4:zCd c
     ·rw[h1,h2,h3,h4] at h;simp at h
     ·rw[h1,h2,h3,h4] at h;simp at h
      exact⟨hk,rfl,rfl,rfl,rfl,h⟩
  ·rw[h1] at h;simp at h
 ·cases h
theorem zF7 (vars vals:List Int) (h:∀x∈vals,-50≤x∧x≤50) (x:Int) (hx:x∈ownV vars vals):-50≤x∧x≤50:=by
 obtain⟨v,_,rfl⟩:=List.mem_map.1 hx
 unfold zAX
 rw[List.getD_eq_getElem?_getD]
 cases hq:vals[v.toNat]? with
 | none=>simp
 | some y=>exact h y (List.mem_of_getElem? hq)
theorem zGm (vars vals:List Int):(ownV vars vals).length=vars.length:=by simp[ownV]
theorem zFF (c:MCon) (n:Int) (h:zFs c n=true):(∀x∈c.vars,0≤x∧x<n)∧∀l∈c.lits,0≤l.var∧l.var<n:=by
 unfold zFs at h
 rw[Bool.and_eq_true,List.all_eq_true,List.all_eq_true] at h
 exact⟨fun x hx=>by simpa[zBJ] using h.1 x hx,fun l hl=>by simpa[zBJ] using h.2 l hl⟩
theorem zHW (c:MCon) (h:zCd c=true):∀x∈c.consts,-1000≤x∧x≤1000:=by
 unfold zCd at h
 rw[Bool.and_eq_true,List.all_eq_true] at h
 exact fun x hx=>by simpa[zAM,inB] using h.1 x hx
theorem zEy (c:MCon) (h:zFA c=false):c.vars.length≤4∧c.lits.length≤4∧c.consts.length≤8∧c.rows.length≤20:=by
 unfold zFA at h
 simp at h
 omega
set_option maxHeartbeats 3200000 in
set_option maxRecDepth 100000 in
theorem zLA (c:MCon) (vals:List Int) (vv vc vr vl v:Value) (w:World) (hk:KArg w vv vc vr vl c) (hv:IArg w v vals) (hc:conE vals.length c=0) (hb:∀x∈vals,-50≤x∧x≤50) :
 Calls Tryz.prog 98 #[conV vv vc vr vl c,v] w fun e w'=>e=.returned (.bool (zAV c vals))∧Below w.heap.size w w':=by
 obtain⟨⟨hk1,hk10⟩,hmany,hform,hvars,hconsts,hlits⟩:=zDB _ _ hc
 obtain⟨hn4,hl4,hc8,_⟩:=zEy c hmany
 have HVI:Hid (∀x∈c.vars,0≤x∧x<(vals.length:Int)):=(zFF c _ hvars).1
 have HLI:Hid (∀l∈c.lits,0≤l.var∧l.var<(vals.length:Int)):=(zFF c _ hvars).2
 have HCI:Hid (∀x∈c.consts,-1000≤x∧x≤1000):=zHW c hconsts
 have HOB:Hid (∀x∈ownV c.vars vals,-50≤x∧x≤50):=zF7 c.vars vals hb
 have HKA:Hid (∀w':World,Below w.heap.size w w'→KArg w' vv vc vr vl c):=fun w' h=>KArg.below h hk
 have HVA:Hid (∀w':World,Below w.heap.size w w'→IArg w' v vals):=fun w' h=>IArg.below h hv
 have HFO:Hid (zB9 c=true):=hform
 obtain⟨⟨a1,c1,rfl,_,_⟩,⟨a2,c2,rfl,hm2,_⟩,⟨a3,c3,rfl,_,_⟩,⟨a4,c4,rfl,hm4,_⟩⟩:=hk
 obtain⟨a5,c5,rfl,_,_⟩:=hv
 unfold maxLen at hm2 hm4
 obtain⟨hm21,hm2⟩:=hm2
 obtain⟨hm41,hm4⟩:=hm4
 obtain⟨R,hR⟩:∃R,zAV c vals=R:=⟨_,rfl⟩
 rw[hR]
 have HR:Hid (zAV c vals=R):=hR
 unfold conV
 clear hR hc hb hmany hform hvars hconsts hlits
 go_enter Tryz.func98,Tryz.ntmps98
 go_wp2_with fail
 refine (zKx c.vars vals _ _ _ ?_ ?_ hn4 HVI.out).mono ?_
 ·exact (HKA.out _ (zAA _ _)).1
 ·exact HVA.out _ (zAA _ _)
 rintro e w1 ⟨x,rfl,hx,hb1⟩
 have d0:w1.cell? ⟨w.heap.size,0,none⟩=some (.int .i64 c.kind):=(hb1.cell (by simp)).trans (by simp)
 have d2:w1.cell? ⟨w.heap.size,2,none⟩=some (.slice a2 c.consts.length c2):=(hb1.cell (by simp)).trans (by simp)
 have d3:w1.cell? ⟨w.heap.size,3,none⟩=some (.int .i64 c.n):=(hb1.cell (by simp)).trans (by simp)
 have d4:w1.cell? ⟨w.heap.size,4,none⟩=some (.slice a3 c.rows.length c3):=(hb1.cell (by simp)).trans (by simp)
 have d5:w1.cell? ⟨w.heap.size,5,none⟩=some (.slice a4 c.lits.length c4):=(hb1.cell (by simp)).trans (by simp)
 have hs1:w.heap.size+1≤w1.heap.size:=by simpa using hb1.size
 have HB1:Hid (Below w.heap.size w w1):=(zAA _ _).trans (hb1.mono (by simp))
 have HX:Hid (∀w':World,Below w1.heap.size w1 w'→IArg w' x (ownV c.vars vals)):=fun w' h=>IArg.below h hx
 obtain⟨own,HOWN⟩:∃own,Hid (ownV c.vars vals=own):=⟨_,rfl⟩
 have HOL:Hid (own.length=c.vars.length):=by rw[←HOWN.out];exact zGm _ _
 rw[HOWN.out] at HX HOB hx
 obtain⟨a6,c6,rfl,hm6,h6⟩:=hx
 unfold maxLen at hm6
 obtain⟨hm61,hm6⟩:=hm6
 have H6:Hid (∀(i:Nat) (z:Int),own[i]? = some z→∃b off,a6=some ⟨b,off,none⟩∧b<w1.heap.size∧w1.cell? ⟨b,off+i,none⟩=some (.int .i64 z)):=h6
 clear hb1 h6
 have hl0:w.heap.size<w1.heap.size:=by omega
 have HB2:Hid (Below w.heap.size w (w1.alloc (.cells #[.slice a6 own.length c6] 42))):=HB1.out.trans ((zAA _ _).mono (by omega))
 obtain⟨kd,hkd⟩:∃kd,c.kind=kd:=⟨_,rfl⟩
 have HKD:Hid (c.kind=kd):=hkd
 rw[hkd] at d0 hk1 hk10
 clear hkd hs1
 have HN:Hid (R=true∨R=false):=by cases R <;> simp[Hid]
 have hcases:kd=1∨kd=2∨kd=3∨kd=4∨kd=5∨kd=6∨kd=7∨kd=8∨kd=9∨kd=10:=by omega
 clear hk1 hk10
 rcases hcases with rfl | rfl | rfl | rfl | rfl | rfl | rfl | rfl | rfl | rfl
 ·
  have HL:Hid (c.consts.length=own.length):=by
   have h:=HFO.out
   unfold zB9 at h
   rw[HKD.out] at h
   simp at h
   exact h.2.1.trans HOL.out.symm
  have HE:Hid (R=decide (sumV c.consts own≤c.n)):=by rw[←HR.out,←HOWN.out];unfold zAV;rw[HKD.out];rfl
  have HS:Hid (∀n,Calls Tryz.prog 164 #[.slice a2 c.consts.length c2,.slice a6 own.length c6] ((w1.alloc (.cells #[.slice a6 own.length c6] 42)).drewN n) fun e w'=>e=.returned (.int .i64 (sumV c.consts own))∧∃k,w'=(w1.alloc (.cells #[.slice a6 own.length c6] 42)).drewN k):=by
   intro n
   refine (zIT c.consts own _ _ _ ((HKA.out _ (below_drewN HB2.out n)).2.1) (HX.out _ (below_drewN (zAA _ _) n)) HL.out hc8 HCI.out HOB.out).mono ?_
   rintro e w' ⟨rfl,rfl⟩
   exact⟨rfl,n,rfl⟩
  go_wp2
  go_quiet ((go_at_call 164;exact HS.out _))
  go_wp2
  go_ret
  exact⟨zAB HE.out.symm,below_drewN HB2.out _⟩
 ·
  have HL:Hid (c.consts.length=own.length):=by
   have h:=HFO.out
   unfold zB9 at h
   rw[HKD.out] at h
   simp at h
   exact h.2.1.trans HOL.out.symm
  have HE:Hid (R=(sumV c.consts own==c.n)):=by rw[←HR.out,←HOWN.out];unfold zAV;rw[HKD.out];rfl
  have HS:Hid (∀n,Calls Tryz.prog 164 #[.slice a2 c.consts.length c2,.slice a6 own.length c6] ((w1.alloc (.cells #[.slice a6 own.length c6] 42)).drewN n) fun e w'=>e=.returned (.int .i64 (sumV c.consts own))∧∃k,w'=(w1.alloc (.cells #[.slice a6 own.length c6] 42)).drewN k):=by
   intro n
   refine (zIT c.consts own _ _ _ ((HKA.out _ (below_drewN HB2.out n)).2.1) (HX.out _ (below_drewN (zAA _ _) n)) HL.out hc8 HCI.out HOB.out).mono ?_
   rintro e w' ⟨rfl,rfl⟩
   exact⟨rfl,n,rfl⟩
  go_wp2
  go_quiet ((go_at_call 164;exact HS.out _))
  go_wp2
  go_ret
  exact⟨zAB HE.out.symm,below_drewN HB2.out _⟩
 ·
  have HL:Hid (c.consts.length=own.length):=by
   have h:=HFO.out
   unfold zB9 at h
   rw[HKD.out] at h
   simp at h
   exact h.2.1.trans HOL.out.symm
  have HE:Hid (R=(sumV c.consts own != c.n)):=by rw[←HR.out,←HOWN.out];unfold zAV;rw[HKD.out];rfl
  have HS:Hid (∀n,Calls Tryz.prog 164 #[.slice a2 c.consts.length c2,.slice a6 own.length c6] ((w1.alloc (.cells #[.slice a6 own.length c6] 42)).drewN n) fun e w'=>e=.returned (.int .i64 (sumV c.consts own))∧∃k,w'=(w1.alloc (.cells #[.slice a6 own.length c6] 42)).drewN k):=by
   intro n
   refine (zIT c.consts own _ _ _ ((HKA.out _ (below_drewN HB2.out n)).2.1) (HX.out _ (below_drewN (zAA _ _) n)) HL.out hc8 HCI.out HOB.out).mono ?_
   rintro e w' ⟨rfl,rfl⟩
   exact⟨rfl,n,rfl⟩
  go_wp2
  go_quiet ((go_at_call 164;exact HS.out _))
  go_wp2
  go_ret
  exact⟨zAB HE.out.symm,below_drewN HB2.out _⟩
 ·
  have HE:Hid (R=decide own.Nodup):=by rw[←HR.out,←HOWN.out];unfold zAV;rw[HKD.out];rfl
  have ho4:own.length≤4:=by have:=HOL.out;omega
  go_wp2_with fail
  refine (zJ4 own _ _ (HX.out _ (zAA _ _)) ho4 HOB.out).mono ?_
  rintro e w3 ⟨rfl,hb3⟩
  have hb4:Below w.heap.size w w3:=HB2.out.trans (hb3.mono (by simp;omega))
  clear hb3
  go_wp2
  go_ret
  exact⟨zAB HE.out.symm,hb4⟩
 ·
  have HL:Hid (own.length=2):=by
   have h:=HFO.out
   unfold zB9 at h
   rw[HKD.out] at h
   simp at h
   exact HOL.out.trans h.2.1
  obtain⟨p,q,rfl⟩:∃p q,own=[p,q]:=by
   match own,HL.out with
   | [p,q],_=>exact⟨p,q,rfl⟩
  obtain⟨b,off,rfl,hb,e0⟩:=H6.out 0 p rfl
  obtain⟨b',off',hab,hb',e1⟩:=H6.out 1 q rfl
  cases hab
  rw[Nat.add_zero] at e0
  have HE:Hid (R=(decide (0≤p)&&(decide (p<c.consts.length)&&(c.consts.getD p.toNat 0==q)))):=by rw[←HR.out];unfold zAV;rw[HKD.out,HOWN.out];rfl
  by_cases q1:0≤p
  ·obtain⟨j,rfl⟩:∃j:Nat,p=(j:Int):=⟨p.toNat,by omega⟩
   by_cases q2:j<c.consts.length
   ·obtain⟨y,hy⟩:∃y,c.consts[j]? = some y:=⟨c.consts[j],by simp[q2]⟩
    obtain⟨a2',c2',hva,_,hrc⟩:=(HKA.out _ HB1.out).2.1
    obtain⟨b2,off2,hax,hb2,e2⟩:=hrc j y hy
    have ha2:a2=some ⟨b2,off2,none⟩:=by cases hva;exact hax
    subst ha2
    have HE2:Hid (R=(y==q)):=by
     show _=_
     rw[HE.out,decide_eq_true q1,decide_eq_true (show (j:Int)<c.consts.length by omega),Int.toNat_natCast,List.getD_eq_getElem?_getD,hy];rfl
    have q2':(j:Int)<(c.consts.length:Int):=by omega
    clear hy hva hrc hax
    go_wp2
    go_quiet (fail)
    go_wp2
    go_ret
    exact⟨zAB HE2.out.symm,below_drewN HB2.out _⟩
   ·have HE2:Hid (R=false):=by
     show _=_
     rw[HE.out,decide_eq_true q1,decide_eq_false (show ¬(j:Int)<c.consts.length by omega)];rfl
    have q3:decide (j<c.consts.length)=false:=decide_eq_false q2
    have q4:decide ((j:Int)<(c.consts.length:Int))=false:=decide_eq_false (by omega)
    clear q2
    go_wp2
    go_quiet (fail)
    go_wp2
    go_ret
    exact⟨zAB HE2.out.symm,below_drewN HB2.out _⟩
  ·have HE2:Hid (R=false):=by
    show _=_
    rw[HE.out,decide_eq_false q1];rfl
   have q3:decide (0≤p)=false:=decide_eq_false q1
   go_wp2
   go_quiet (fail)
   go_wp2
   go_ret
   exact⟨zAB HE2.out.symm,below_drewN HB2.out _⟩
 ·
  have HE:Hid (R=c.rows.any fun r=>decide (r=own)):=by rw[←HR.out,←HOWN.out];unfold zAV;rw[HKD.out];rfl
  go_wp2_with fail
  refine (zFt 167 _ (fun r=>decide (r=own)) c.rows _ _ ((HKA.out _ HB2.out).2.2.1) ⟨zJ5,?_⟩).mono ?_
  ·intro r x w' hb' hx'
   exact zMI own r _ x w1.heap.size w' (HX.out _ ((zAA _ _).trans (hb'.mono (by simp)))) hx' ((hb'.cell (by simp)).trans (by simp))
  rintro e w3 ⟨rfl,hb3⟩
  have hb4:Below w.heap.size w w3:=HB2.out.trans (hb3.mono (by simp;omega))
  clear hb3
  go_wp2
  go_ret
  exact⟨zAB HE.out.symm,hb4⟩
 ·
  have HL:Hid (own.length=3):=by
   have h:=HFO.out
   unfold zB9 at h
   rw[HKD.out] at h
   simp at h
   exact HOL.out.trans h.2.1
  obtain⟨p,q,r,rfl⟩:∃p q r,own=[p,q,r]:=by
   match own,HL.out with
   | [p,q,r],_=>exact⟨p,q,r,rfl⟩
  obtain⟨b,off,rfl,hb,e0⟩:=H6.out 0 p rfl
  obtain⟨b',off',hab,hb',e1⟩:=H6.out 1 q rfl
  cases hab
  obtain⟨b',off',hab,hb',e2⟩:=H6.out 2 r rfl
  cases hab
  rw[Nat.add_zero] at e0
  have HE:Hid (R=(p * q==r)):=by rw[←HR.out];unfold zAV;rw[HKD.out,HOWN.out];rfl
  obtain⟨g1,g2⟩:=zDw p q (by have:=HOB.out p (by simp);omega) (by have:=HOB.out p (by simp);omega) (HOB.out q (by simp)).1 (HOB.out q (by simp)).2
  go_wp2
  go_quiet (fail)
  go_wp2
  go_ret
  exact⟨zAB HE.out.symm,below_drewN HB2.out _⟩
 ·
  have HL:Hid (2≤own.length):=by
   have h:=HFO.out
   unfold zB9 at h
   rw[HKD.out] at h
   simp at h
   have:=HOL.out
   show 2≤_
   omega
  obtain⟨p,q,r,rfl⟩:∃p q r,own=p :: q :: r:=by
   match own,HL.out with
   | p :: q :: r,_=>exact⟨p,q,r,rfl⟩
  obtain⟨b,off,rfl,hb,e0⟩:=H6.out 0 p rfl
  rw[Nat.add_zero] at e0
  have HE:Hid (R=(p==r.foldl max q)):=by rw[←HR.out];unfold zAV;rw[HKD.out,HOWN.out];rfl
  obtain⟨n,hn⟩:∃n,(p :: q :: r).length=n:=⟨_,rfl⟩
  have hn2:2≤n:=by rw[←hn];simp
  have HT:Hid (IArg w1 (.slice (some ⟨b,off+1,none⟩) (n - 1) (c6 - 1)) (q :: r)):=by
   refine⟨_,_,by rw[←hn];rfl,⟨by rw[←hn] at *;simp at *;omega,by unfold maxLen;omega⟩,fun i z hz=>?_⟩
   obtain⟨b',off',hab,hb',e1⟩:=H6.out (i+1) z (by simpa using hz)
   cases hab
   exact⟨b,off+1,rfl,hb,by rw[Nat.add_assoc,Nat.add_comm 1 i];exact e1⟩
  rw[hn] at hm61 HB2 ⊢
  clear hn
  go_wp2
  go_quiet ((go_at_call 169;exact (zNM q r _ _ (IArg.below (below_drewN (zAA _ _) _) HT.out)).mono (fun _ _ h=>⟨h.1,_,h.2⟩)))
  go_wp2
  go_ret
  exact⟨zAB HE.out.symm,below_drewN HB2.out _⟩
 ·
  have HE:Hid (R=c.lits.any (litB vals)):=by rw[←HR.out];unfold zAV;rw[HKD.out];rfl
  go_wp2_with fail
  refine (zIX c.lits vals _ _ _ ((HKA.out _ HB2.out).2.2.2) (HVA.out _ HB2.out) HLI.out).mono ?_
  rintro e w3 ⟨rfl,hb3⟩
  have hb4:Below w.heap.size w w3:=HB2.out.trans (hb3.mono (by simp;omega))
  clear hb3
  go_wp2
  go_ret
  exact⟨zAB HE.out.symm,hb4⟩
 ·
  have HFF:Hid (own.length=1∧c.lits.length=1):=by
   have h:=HFO.out
   unfold zB9 at h
   rw[HKD.out] at h
   simp at h
   exact⟨HOL.out.trans h.2.1,h.2.2.1⟩
  obtain⟨p,rfl⟩:∃p,own=[p]:=by
   match own,HFF.out.1 with
   | [p],_=>exact⟨p,rfl⟩
  obtain⟨l,hl⟩:∃l,c.lits=[l]:=by
   match c.lits,HFF.out.2 with
   | [l],_=>exact⟨l,rfl⟩
  obtain⟨b,off,rfl,hb,e0⟩:=H6.out 0 p rfl
  rw[Nat.add_zero] at e0
  have HE:Hid (R=(p==(if litB vals l then 1 else 0))):=by rw[←HR.out];unfold zAV;rw[HKD.out,HOWN.out,hl];rfl
  obtain⟨a2',c2',hva,_,hrc⟩:=(HKA.out _ HB1.out).2.2.2
  obtain⟨b2,off2,hax,hb2,g0,g1,g2⟩:=hrc 0 l (by rw[hl];rfl)
  have ha2:a4=some ⟨b2,off2,none⟩:=by cases hva;exact hax
  subst ha2
  simp only[Nat.zero_mul,Nat.add_zero] at g0 g1 g2
  have HLL:=HLI.out l (by rw[hl];simp)
  have hlen:c.lits.length=1:=by rw[hl];rfl
  obtain⟨j,hj⟩:∃j:Nat,l.var=(j:Int):=⟨l.var.toNat,by omega⟩
  have hjl:j<vals.length:=by omega
  obtain⟨y,hy⟩:∃y,vals[j]? = some y:=⟨vals[j],by simp[hjl]⟩
  obtain⟨a7,c7,hva7,hm7,hrc7⟩:=HVA.out _ HB1.out
  obtain⟨b7,off7,hax7,hb7,g7⟩:=hrc7 j y hy
  have ha5:a5=some ⟨b7,off7,none⟩:=by cases hva7;exact hax7
  have hm75:vals.length≤c5∧c5≤maxLen:=by cases hva7;exact hm7
  unfold maxLen at hm75
  obtain⟨hm71,hm72⟩:=hm75
  subst ha5
  obtain⟨B,HB⟩:∃B:Bool,Hid (litB vals l=B):=⟨_,rfl⟩
  rw[HB.out] at HE
  have HBV:Hid (litV y l=B):=by
   have h:=HB.out
   unfold litB at h
   rwa [hj,zCH vals j y hy] at h
  obtain⟨N,hN⟩:∃N:Int,(if B then (1:Int) else 0)=N:=⟨_,rfl⟩
  have HOI:Hid (∀W':World,Calls Tryz.prog 171 #[.bool B] W' fun e w'=>e=.returned (.int .i64 N)∧w'=W'):=by
   intro W';rw[←hN];exact zKw B W'
  rw[hN] at HE
  clear hN
  obtain⟨W,hW⟩:∃W:World,W=w1.alloc (.cells #[.slice (some ⟨b,off,none⟩) 1 c6] 42):=⟨_,rfl⟩
  have HW:Hid (W=w1.alloc (.cells #[.slice (some ⟨b,off,none⟩) 1 c6] 42)):=hW
  have HB2W:Hid (Below w.heap.size w W):=by rw[hW];exact HB2.out
  have HCL:Hid (∀wq:World,Below W.heap.size W wq→Calls Tryz.prog 172 #[.agg #[.int .i64 (j:Int),.int .i64 l.op,.int .i64 l.n],.int .i64 y] wq fun e w'=>e=.returned (.bool B)∧Below W.heap.size W w'):=by
   intro wq hq
   rw[←hj]
   refine (zGg l y wq).mono ?_
   rintro e w' ⟨rfl,hb⟩
   exact⟨by rw[HBV.out],hq.trans (hb.mono hq.size)⟩
  have k0:W.cell? ⟨w1.heap.size,0,none⟩=some (.slice (some ⟨b,off,none⟩) 1 c6):=by rw[hW];simp
  have k1:W.cell? ⟨b,off,none⟩=some (.int .i64 p):=by rw[hW];exact (World.cell?_alloc_past _ _ _ hb).trans e0
  have k2:W.cell? ⟨w.heap.size,5,none⟩=some (.slice (some ⟨b2,off2,none⟩) 1 c4):=by rw[hW,←hlen];exact (World.cell?_alloc_past _ _ _ hl0).trans d5
  have k3:W.cell? ⟨b2,off2,none⟩=some (.int .i64 (j:Int)):=by rw[hW,←hj];exact (World.cell?_alloc_past _ _ _ hb2).trans g0
  have k4:W.cell? ⟨b2,off2+1,none⟩=some (.int .i64 l.op):=by rw[hW];exact (World.cell?_alloc_past _ _ _ hb2).trans g1
  have k5:W.cell? ⟨b2,off2+2,none⟩=some (.int .i64 l.n):=by rw[hW];exact (World.cell?_alloc_past _ _ _ hb2).trans g2
  have k7:W.cell? ⟨b7,off7+j,none⟩=some (.int .i64 y):=by rw[hW];exact (World.cell?_alloc_past _ _ _ hb7).trans g7
  have hsW:W.heap.size=w1.heap.size+1:=by rw[hW];simp
  have HSW:Hid (W.heap.size=w1.heap.size+1):=hsW
  clear hW hsW hva hrc hax hl hva7 hrc7 hax7 hm7 hy hj
  go_wp2
  rw[←HW.out]
  clear d0 d2 d3 d4 d5 e0 g0 g1 g2 g7 H6 HX HKA HVA HVI HLI HCI HOB HFO HFF HOL HOWN HLL HR HKD HB1 hm21 hm41 hm2 hm4 hm61 hm6
  refine zEf (by kernel_rfl) (by kernel_rfl) ?_
  go_big_quiet_want
  refine⟨.slice (some ⟨b,off,none⟩) 1 c6,fun wq hq=>?_,?_⟩
  ·have h0:=(hq.cell (p:=⟨w1.heap.size,0,none⟩) (by have:=HSW.out;simp only;omega)).trans k0
   simp[Oper.quietAt,go_sem,h0]
  go_simp
  go_big_quiet_on
  go_big_quiet_want
  go_big_quiet_op
  first | go_big_quiet_on | (refine⟨_,fun _ _=>rfl,?_⟩;go_big_quiet_on)
  go_big_quiet_want
  refine⟨.int .i64 p,fun wq hq=>?_,?_⟩
  ·have h0:=(hq.cell (p:=⟨b,off,none⟩) (by have:=HSW.out;simp only;omega)).trans k1
   simp[Oper.quietAt,go_sem,h0]
  go_simp
  go_big_quiet_on
  go_big_quiet_want
  go_big_quiet_op
  first | go_big_quiet_on | (refine⟨_,fun _ _=>rfl,?_⟩;go_big_quiet_on)
  go_big_quiet_want
  refine⟨.slice (some ⟨b2,off2,none⟩) 1 c4,fun wq hq=>?_,?_⟩
  ·have h0:=(hq.cell (p:=⟨w.heap.size,5,none⟩) (by have:=HSW.out;simp only;omega)).trans k2
   simp[Oper.quietAt,go_sem,h0]
  go_simp
  go_big_quiet_on
  go_big_quiet_want
  go_big_quiet_op
  first | go_big_quiet_on | (refine⟨_,fun _ _=>rfl,?_⟩;go_big_quiet_on)
  go_big_quiet_want
  refine⟨.agg #[.int .i64 (j:Int),.int .i64 l.op,.int .i64 l.n],fun wq hq=>?_,?_⟩
  ·have h0:=(hq.cell (p:=⟨b2,off2,none⟩) (by have:=HSW.out;simp only;omega)).trans k3
   have h1:=(hq.cell (p:=⟨b2,off2+1,none⟩) (by have:=HSW.out;simp only;omega)).trans k4
   have h2:=(hq.cell (p:=⟨b2,off2+2,none⟩) (by have:=HSW.out;simp only;omega)).trans k5
   simp[Oper.quietAt,go_sem,h0,h1,h2]
  go_simp
  go_big_quiet_on
  go_big_quiet_want
  go_big_quiet_op
  first | go_big_quiet_on | (refine⟨_,fun _ _=>rfl,?_⟩;go_big_quiet_on)
  go_big_quiet_want
  go_big_quiet_op
  first | go_big_quiet_on | (refine⟨_,fun _ _=>rfl,?_⟩;go_big_quiet_on)
  go_big_quiet_want
  refine⟨.slice (some ⟨b2,off2,none⟩) 1 c4,fun wq hq=>?_,?_⟩
  ·have h0:=(hq.cell (p:=⟨w.heap.size,5,none⟩) (by have:=HSW.out;simp only;omega)).trans k2
   simp[Oper.quietAt,go_sem,h0]
  go_simp
  go_big_quiet_on
  go_big_quiet_want
  go_big_quiet_op
  first | go_big_quiet_on | (refine⟨_,fun _ _=>rfl,?_⟩;go_big_quiet_on)
  go_big_quiet_want
  go_big_quiet_op
  first | go_big_quiet_on | (refine⟨_,fun _ _=>rfl,?_⟩;go_big_quiet_on)
  go_big_quiet_want
  refine⟨.int .i64 (j:Int),fun wq hq=>?_,?_⟩
  ·have h0:=(hq.cell (p:=⟨b2,off2,none⟩) (by have:=HSW.out;simp only;omega)).trans k3
   simp[Oper.quietAt,go_sem,h0]
  go_simp
  go_big_quiet_on
  go_big_quiet_want
  go_big_quiet_op
  first | go_big_quiet_on | (refine⟨_,fun _ _=>rfl,?_⟩;go_big_quiet_on)
  go_big_quiet_want
  refine⟨.int .i64 y,fun wq hq=>?_,?_⟩
  ·have h0:=(hq.cell (p:=⟨b7,off7+j,none⟩) (by have:=HSW.out;simp only;omega)).trans k7
   simp[Oper.quietAt,go_sem,h0]
  go_simp
  go_big_quiet_on
  go_big_quiet_want
  refine⟨.bool B,fun wq hq=>?_,?_⟩
  ·simp[Oper.quietAt,go_sem]
   exact HCL.out wq hq
  go_simp
  go_big_quiet_on
  go_big_quiet_want
  refine⟨.int .i64 N,fun wq hq=>?_,?_⟩
  ·simp[Oper.quietAt,go_sem]
   exact (HOI.out wq).mono (fun e w' h=>⟨h.1,by rw[h.2];exact hq⟩)
  go_simp
  go_big_quiet_on
  go_big_quiet_want
  go_big_quiet_op
  first | go_big_quiet_on | (refine⟨_,fun _ _=>rfl,?_⟩;go_big_quiet_on)
  go_big_quiet_want
  go_big_quiet_op
  first | go_big_quiet_on | (refine⟨_,fun _ _=>rfl,?_⟩;go_big_quiet_on)
  refine wpQuiet_nil ?_
  intro w' hw'
  have hb4:Below w.heap.size w w':=HB2W.out.trans (hw'.mono HB2W.out.size)
  clear hw'
  go_wp2
  go_ret
  exact⟨zAB HE.out.symm,hb4⟩
def zBs (m:Mod) (con:Int):Int:=if zAP m=0 then (if con<0∨(m.cons.length:Int)≤con then 5 else 0) else zAP m
def zNV:MCon:=⟨0,[],[],0,[],[]⟩
set_option maxHeartbeats 800000 in
set_option maxRecDepth 100000 in
theorem zLB (m:Mod) (con:Int) (vs cs:Value) (w:World) (hm:MArg w vs cs m) :
 Calls Tryz.prog 71 #[modV vs cs m,.int .i64 con] w fun e w'=>e=.returned (.int .i64 (zBs m con))∧Below w.heap.size w w':=by
 have HMA:Hid (∀w':World,Below w.heap.size w w'→MArg w' vs cs m):=fun w' h=>MArg.below h hm
 obtain⟨⟨a1,c1,rfl,_,_⟩,⟨a2,c2,rfl,hl2,_⟩⟩:=hm
 unfold maxLen at hl2
 obtain⟨hl21,hl2⟩:=hl2
 obtain⟨R,hR⟩:∃R,zBs m con=R:=⟨_,rfl⟩
 rw[hR]
 obtain⟨er,her⟩:∃er,zAP m=er:=⟨_,rfl⟩
 have HER:Hid (zAP m=er):=her
 have HE:Hid (R=if er=0 then (if con<0∨(m.cons.length:Int)≤con then 5 else 0) else er):=by rw[←hR,←her];rfl
 clear hR her
 unfold modV
 go_enter Tryz.func71,Tryz.ntmps71
 go_wp2_with fail
 refine (zDg m (.slice a1 m.vars.length c1) (.slice a2 m.cons.length c2) _ ?_).mono ?_
 ·exact HMA.out _ (zAA _ _)
 rintro e w1 ⟨rfl,hb1⟩
 rw[HER.out]
 have d1:w1.cell? ⟨w.heap.size,1,none⟩=some (.slice a2 m.cons.length c2):=(hb1.cell (by simp)).trans (by simp)
 have HB1:Hid (Below w.heap.size w w1):=(zAA _ _).trans (hb1.mono (by simp))
 clear hb1
 by_cases he:er=0
 ·subst he
  by_cases q1:con<0
  ·have HN:Hid (R=5):=by rw[HE.out,if_pos rfl,if_pos (Or.inl q1)];rfl
   go_wp2
   go_ret
   exact⟨zAI HN.out.symm,HB1.out⟩
  ·by_cases q2:(m.cons.length:Int)≤con
   ·have HN:Hid (R=5):=by rw[HE.out,if_pos rfl,if_pos (Or.inr q2)];rfl
    go_wp2
    go_ret
    exact⟨zAI HN.out.symm,HB1.out⟩
   ·have HN:Hid (R=0):=by rw[HE.out,if_pos rfl,if_neg (by omega)];rfl
    go_wp2
    go_ret
    exact⟨zAI HN.out.symm,HB1.out⟩
 ·have HN:Hid (R=er):=by rw[HE.out,if_neg he];rfl
  have he2:(er != 0)=true:=by simpa using he
  clear he
  go_wp2
  go_ret
  exact⟨zAI HN.out.symm,HB1.out⟩
theorem zIf (m:Mod) (con:Int) (h:zBs m con=0):zAP m=0∧0≤con∧con<m.cons.length:=by
 unfold zBs at h
 split at h
 ·rename_i h0
  split at h
  ·cases h
  ·exact⟨h0,by omega,by omega⟩
 ·contradiction
end Go.Proofs.YtndcpnlaadikoaaGreatDoor
