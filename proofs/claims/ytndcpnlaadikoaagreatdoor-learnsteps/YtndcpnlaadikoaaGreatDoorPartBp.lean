/- What the proof leans on, part 42. -/
import Derived.Test.YtndcpnlaadikoaaGreatDoorPartBo
import Derived.Test.YtndcpnlaadikoaaGreatDoorPartBj
import Derived.Test.YtndcpnlaadikoaaGreatDoorPartAb
import Derived.Test.YtndcpnlaadikoaaGreatDoorPartAc
import Derived.Test.YtndcpnlaadikoaaGreatDoorPartAj
import Derived.Test.YtndcpnlaadikoaaGreatDoorPartBc
import Derived.Test.YtndcpnlaadikoaaGreatDoorPartBf
namespace Go.Proofs.YtndcpnlaadikoaaGreatDoor
theorem zE6 (vs:List MVar) (hv:zAb vs) (c:Cla) (v:Nat) (x:Int) (hn:v<vs.length):x∈(zBW (zAK vs) c).getD v []↔((zAH vs v).lo≤x∧x≤(zAH vs v).hi)∧(zAF vs c).testBit (bitV vs v x)=false:=by
 unfold zBW
 rw[zBj,zEN vs v hn,zAx]
 constructor
 ·rintro ⟨⟨h1,h2⟩,h3⟩
  refine⟨⟨h1,h2⟩,?_⟩
  obtain⟨e1,e2,e3⟩:=zCG vs hv v x h1 h2
  cases hb:(zAF vs c).testBit (bitV vs v x) with
  | false=>rfl
  | true =>
    have:=((zCc vs hv c _).1 hb).2.2
    rw[e1,e3] at this
    rw[this] at h3;cases h3
 ·rintro ⟨⟨h1,h2⟩,h3⟩
  refine⟨⟨h1,h2⟩,?_⟩
  obtain⟨e1,e2,e3⟩:=zCG vs hv v x h1 h2
  cases ho:oneB c v x with
  | false=>rfl
  | true =>
    have:(zAF vs c).testBit (bitV vs v x)=true:=(zCc vs hv c _).2 (by rw[e1,e3];exact⟨hn,e2,ho⟩)
    rw[this] at h3;cases h3
theorem zLx (vs:List MVar) (hv:zAb vs) (c:Cla):zA7 vs.length (zAJ (zAC vs) (zAF vs c))=zAG (zBW (zAK vs) c):=by
 have hins:InS vs (zBW (zAK vs) c):=zE3 (zDL vs) _
 cases hf:zAG (zBW (zAK vs) c) with
 | false =>
   refine zJq _ _ _ (fun i hi=>?_) (zFk vs hv hins hf)
   obtain⟨g1,g2,g3⟩:=(zBG vs hv _ i).1 hi
   have:=((zE6 vs hv c _ _ g1).1 g3).2
   rw[zFj] at this
   exact (zAh _ _ _).2 ⟨(zDK vs hv i).2 ⟨g1,g2⟩,this⟩
 | true =>
   cases hl:zA7 vs.length (zAJ (zAC vs) (zAF vs c)) with
   | true=>rfl
   | false =>
     have:zAG (zBW (zAK vs) c)=false:=(zA3 _).2 fun v hvl=>by
      rw[hins.1] at hvl
      obtain⟨k,hk,hb⟩:=zEK _ _ hl v hvl
      obtain⟨b1,b2⟩:=(zAh _ _ _).1 hb
      obtain⟨_,w2⟩:=(zDK vs hv _).1 b1
      have e1:(6 * v+k) / 6=v:=by omega
      have e2:(6 * v+k) % 6=k:=by omega
      rw[e1,e2] at w2
      have e3:bitV vs v ((zAH vs v).lo+(k:Int))=6 * v+k:=by unfold bitV;omega
      exact⟨(zAH vs v).lo+(k:Int),(zE6 vs hv c v _ hvl).2 ⟨zG6 vs v k w2,by rw[e3];exact b2⟩⟩
     rw[hf] at this;cases this
theorem zLy (m:Mod) (hm:zAP m=0) (j:Nat) (k:MCon) (hk:m.cons[j]? = some k) (c:Cla):zAG (zAp k (zBW (zAK m.vars) c))=zBX m.vars (zAR m.vars k) (zAF m.vars c):=by
 have hv:=zBt m hm
 have h1:=zGr m hm
 obtain⟨k1,k2⟩:=zD5 m hm j k hk
 have hins:InS m.vars (zBW (zAK m.vars) c):=zE3 (zDL m.vars) _
 unfold zBX
 rw[zLx m.vars hv c]
 cases hf:zAG (zBW (zAK m.vars) c) with
 | true=>rw[zGp k _ hf,hf];rfl
 | false =>
   rw[Bool.false_or]
   have hk1:∀v∈zAO k,0≤v∧v<((zBW (zAK m.vars) c).length:Int):=by rw[hins.1];exact k1
   cases ha:(zAR m.vars k).any (zCR (zAF m.vars c)) with
   | true =>
     obtain⟨p,hp,hst⟩:=List.any_eq_true.1 ha
     have hz:p &&& zAF m.vars c=0:=by unfold zCR at hst;simpa using hst
     obtain⟨u,l1,l2,l3,l4,_,l6⟩:=zCy m.vars k _ _ _ p k1 (by simp[zAN]) hp
     have hin:∀v∈zAO k,zAX u v∈(zBW (zAK m.vars) c).getD v.toNat []:=fun v hvs=>by
      obtain⟨b0,b1⟩:=k1 v hvs
      refine (zE6 m.vars hv c v.toNat _ (by omega)).2 ⟨l3 v hvs,?_⟩
      cases hb:(zAF m.vars c).testBit (bitV m.vars v.toNat (zAX u v)) with
      | false=>rfl
      | true =>
        have:=(zA4 p (zAF m.vars c) _).2 ⟨l6 v hvs,hb⟩
        rw[hz] at this
        simp at this
     show _=false
     rw[zA3]
     intro v hvl
     have hvn:v<(zBW (zAK m.vars) c).length:=by unfold zAp at hvl;rwa [zAQ] at hvl
     unfold zAp
     by_cases hsc:(v:Int)∈zAO k
     ·refine⟨zAX u (v:Int),(zBj _ _ _ _).2 ⟨by have:=hin _ hsc;rwa [Int.toNat_natCast] at this,?_⟩⟩
      rw[zGo k _ hf v _ hsc]
      exact (zIh k _ hk1 k2 v _ hsc).2 ⟨u,by rw[l1,hins.1],hin,l2,rfl⟩
     ·obtain⟨x,hx⟩:=(zA3 _).1 hf v hvn
      refine⟨x,(zBj _ _ _ _).2 ⟨hx,?_⟩⟩
      by_cases hn:(zAO k).length=0
      ·rw[zDP k _ hf hn]
       rw[←l2]
       refine zCI k _ _ (fun w hw=>?_) k2
       rw[List.length_eq_zero_iff.1 hn] at hw
       cases hw
      ·exact zHa k _ hn v x hsc
   | false =>
     show _=true
     apply Classical.byContradiction
     intro hne
     have hnf:zAG (zAp k (zBW (zAK m.vars) c))=false:=by simpa using hne
     have hfl:(zAp k (zBW (zAK m.vars) c)).length=m.vars.length:=by unfold zAp;rw[zAQ];exact hins.1
     have hex:∃u:List Int,(∀v∈zAO k,zAX u v∈(zBW (zAK m.vars) c).getD v.toNat [])∧zAV k u=true:=by
      by_cases hn:(zAO k).length=0
      ·obtain⟨x,hx⟩:=(zA3 _).1 hnf 0 (by omega)
       unfold zAp at hx
       have:=((zBj _ _ _ _).1 hx).2
       rw[zDP k _ hf hn] at this
       exact⟨_,fun v hvs=>(by rw[List.length_eq_zero_iff.1 hn] at hvs;cases hvs),this⟩
      ·obtain⟨v,hvs⟩:=List.exists_mem_of_ne_nil _ (fun h=>hn (by rw[h];rfl):zAO k≠[])
       obtain⟨b0,b1⟩:=k1 v hvs
       obtain⟨x,hx⟩:=(zA3 _).1 hnf v.toNat (by omega)
       unfold zAp at hx
       have:=((zBj _ _ _ _).1 hx).2
       have hvs':((v.toNat:Nat):Int)∈zAO k:=by rw[show ((v.toNat:Nat):Int)=v by omega];exact hvs
       rw[zGo k _ hf _ _ hvs'] at this
       obtain⟨u,_,h2,h3,_⟩:=(zIh k _ hk1 k2 _ _ hvs').1 this
       exact⟨u,h2,h3⟩
     obtain⟨u,hu1,hu2⟩:=hex
     have hch:∀v:Nat,∃x:Int,v<m.vars.length→(x∈(zBW (zAK m.vars) c).getD v []∧((v:Int)∈zAO k→x=zAX u (v:Int))):=fun v=>by
      by_cases hsc:(v:Int)∈zAO k
      ·exact⟨zAX u (v:Int),fun _=>⟨by have:=hu1 _ hsc;rwa [Int.toNat_natCast] at this,fun _=>rfl⟩⟩
      ·by_cases hvn:v<m.vars.length
       ·obtain⟨x,hx⟩:=(zA3 _).1 hf v (by rw[hins.1];exact hvn)
        exact⟨x,fun _=>⟨hx,fun h=>absurd h hsc⟩⟩
       ·exact⟨0,fun h=>absurd h hvn⟩
     let g:Nat→Int:=fun v=>Classical.choose (hch v)
     have hg:∀v,v<m.vars.length→(g v∈(zBW (zAK m.vars) c).getD v []∧((v:Int)∈zAO k→g v=zAX u (v:Int))):=fun v=>Classical.choose_spec (hch v)
     obtain⟨vals,hvals⟩:∃vals:List Int,vals=(List.range m.vars.length).map g:=⟨_,rfl⟩
     have hat:∀v:Nat,v<m.vars.length→zAX vals (v:Int)=g v:=fun v hvn=>by
      unfold zAX
      rw[hvals,Int.toNat_natCast,List.getD_eq_getElem?_getD,List.getElem?_map,List.getElem?_range hvn];rfl
     have hmay:zMX m.vars vals:=⟨by rw[hvals];simp,fun v hvn=>by rw[hat v hvn];exact hins.2 v _ hvn (hg v hvn).1⟩
     have hh:zAV k vals=true:=by
      rw[←hu2]
      refine zCI k _ _ (fun w hw=>?_) k2
      obtain⟨b0,b1⟩:=k1 w hw
      have hwn:w.toNat<m.vars.length:=by omega
      have:=hat w.toNat hwn
      rw[show ((w.toNat:Nat):Int)=w by omega] at this
      rw[this]
      have h2:=(hg w.toNat hwn).2
      rw[show ((w.toNat:Nat):Int)=w by omega] at h2
      exact h2 hw
     obtain⟨p,hp,hb,_⟩:=zMf m.vars hv k k1 k2 vals hmay hh
     have:(zAR m.vars k).any (zCR (zAF m.vars c))=true:=by
      refine List.any_eq_true.2 ⟨p,hp,?_⟩
      unfold zCR
      rw[beq_iff_eq]
      apply Nat.eq_of_testBit_eq
      intro i
      rw[Nat.zero_testBit]
      cases hpi:(p &&& zAF m.vars c).testBit i with
      | false=>rfl
      | true =>
        obtain⟨q1,q2⟩:=(zA4 _ _ _).1 hpi
        obtain⟨v,hvn,rfl⟩:=hb i q1
        have h3:=((zE6 m.vars hv c v _ hvn).1 (hg v hvn).1).2
        have e:bitV m.vars v (g v)=posV m.vars vals v:=by unfold bitV posV;rw[hat v hvn]
        rw[e,q2] at h3
        cases h3
     rw[this] at ha
     cases ha
open Go.RowKit
theorem zM5 (m:Mod) (hm:zAP m=0):∀r∈zAK m.vars,∀x∈r,-50≤x∧x≤50:=by
 intro r hr x hx
 obtain⟨v,hv⟩:=List.mem_iff_getElem?.1 hr
 have hvl:v<m.vars.length:=by have:=(List.getElem?_eq_some_iff.1 hv).1;rw[zCJ] at this;exact this
 have h:=(zDL m.vars).2 v x hvl (by rw[List.getD_eq_getElem?_getD,hv];exact hx)
 have hb:=zDj m hm v hvl
 omega
theorem zNr (s:Sto) (f:Nat→Int→Bool) (h:∀r∈s,∀x∈r,-50≤x∧x≤50):∀r∈zA6 s f,∀x∈r,-50≤x∧x≤50:=by
 intro r hr x hx
 obtain⟨k,hk⟩:=List.mem_iff_getElem?.1 hr
 obtain⟨q,hq,rfl⟩:=zAl _ _ _ _ hk
 exact h q (List.mem_of_getElem? hq) x (List.mem_filter.1 hx).1
set_option maxHeartbeats 3200000 in
set_option maxRecDepth 100000 in
theorem zI8 (m:Mod) (hm:zAP m=0) (j:Nat) (k:MCon) (hk:m.cons[j]? = some k) (c:Cla) (vs cs v:Value) (w:World) (hma:MArg w vs cs m) (hv:LArg w v c) :
 Calls Tryz.prog 41 #[modV vs cs m,.int .i64 (j:Int),v] w fun e w'=>e=.returned (.bool (zBX m.vars (zAR m.vars k) (zAF m.vars c)))∧Below w.heap.size w w':=by
 obtain⟨hs6,hrow⟩:=zGO m (zAK m.vars) hm (zFI m.vars)
 have HDL:Hid ((zBk (zAK m.vars) c).length=m.vars.length):=by show _=_;rw[zCD];unfold zBW;rw[zAQ,zCJ]
 have HRD:Hid (∀r∈zBk (zAK m.vars) c,r.length≤6):=by rw[zCD];exact zFo _ _ hrow
 have HBD:Hid (∀r∈zBk (zAK m.vars) c,∀x∈r,-50≤x∧x≤50):=by rw[zCD];exact zNr _ _ (zM5 m hm)
 have H6:Hid ((zAK m.vars).length≤6):=hs6
 have HRW:Hid (∀r∈zAK m.vars,r.length≤6):=hrow
 have HK:Hid (m.cons[j]? = some k):=hk
 have HM0:Hid (zAP m=0):=hm
 have HMA:Hid (MArg w vs cs m):=hma
 have HV:Hid (LArg w v c):=hv
 have HAG:Hid (zAG (zAp k (zBk (zAK m.vars) c))=zBX m.vars (zAR m.vars k) (zAF m.vars c)):=by show _=_;rw[zCD];exact zLy m hm j k hk c
 obtain⟨⟨a,cap,rfl,_,_⟩,⟨a0,c0,rfl,_,_⟩⟩:=hma
 unfold modV
 clear hs6 hrow hm hv hk
 go_enter Tryz.func41,Tryz.ntmps41
 go_wp2_with fail
 have HB0:Hid (Below w.heap.size w (w.alloc (.cells #[.slice a m.vars.length cap,.slice a0 m.cons.length c0,.int .i64 m.goal,.int .i64 m.var] 25))):=zAA _ _
 have hN:(w.alloc (.cells #[.slice a m.vars.length cap,.slice a0 m.cons.length c0,.int .i64 m.goal,.int .i64 m.var] 25)).heap[w.heap.size]? = some (.cells #[.slice a m.vars.length cap,.slice a0 m.cons.length c0,.int .i64 m.goal,.int .i64 m.var] 25):=heap_alloc_new _ _
 obtain⟨W,hW⟩:∃W,w.alloc (.cells #[.slice a m.vars.length cap,.slice a0 m.cons.length c0,.int .i64 m.goal,.int .i64 m.var] 25)=W:=⟨_,rfl⟩
 rw[hW] at HB0 hN ⊢
 clear hW
 have l0:=(Array.getElem?_eq_some_iff.1 hN).1
 have q0:=blk9 hN 0 _ rfl
 have q1:=blk9 hN 1 _ rfl
 have q2:=blk9 hN 2 _ rfl
 have q3:=blk9 hN 3 _ rfl
 replace HMA:Hid (MArg W (.slice a m.vars.length cap) (.slice a0 m.cons.length c0) m):=MArg.below HB0.out HMA.out
 replace HV:Hid (LArg W v c):=LArg.below HB0.out HV.out
 clear hN
 go_region_held3 (fun w'=>Below W.heap.size W w'∧w'.cell? ⟨w.heap.size,0,none⟩=some (.slice a m.vars.length cap)∧w'.cell? ⟨w.heap.size,1,none⟩=some (.slice a0 m.cons.length c0)∧w'.cell? ⟨w.heap.size,2,none⟩=some (.int .i64 m.goal)∧w'.cell? ⟨w.heap.size,3,none⟩=some (.int .i64 m.var))
  ((refine (fun (hB:Below W.heap.size W _)=>⟨hB,(hB.cell (p:=⟨w.heap.size,0,none⟩) l0).trans q0,(hB.cell (p:=⟨w.heap.size,1,none⟩) l0).trans q1,(hB.cell (p:=⟨w.heap.size,2,none⟩) l0).trans q2,(hB.cell (p:=⟨w.heap.size,3,none⟩) l0).trans q3⟩:Below W.heap.size W _→_) ?_;first | exact (Below.refl _ _).drew | exact zAS (by assumption) hbq | exact hB6 | exact hB5 | exact hB4 | exact hB3))
  (first
    | (go_at_call 96;refine (zGS m HM0.out _ _ _ (zDW (by assumption) HMA.out)).mono ?_;rintro e w3 ⟨x3,rfl,hx3,hbq3⟩;have hB3:=zAS (by assumption) hbq3)
    | (go_at_call 95;refine (zH3 (zAK m.vars) H6.out HRW.out c _ _ _ hx3 (zFn (by assumption) HV.out)).mono ?_;rintro e w4 ⟨x4,rfl,hx4,hbq4⟩;have hB4:=zAS (by assumption) hbq4)
    | (go_at_call 94;refine (zI1 m HM0.out j k HK.out (zBk (zAK m.vars) c) HDL.out HRD.out HBD.out _ _ _ _ (zDW (by assumption) HMA.out) hx4).mono ?_;rintro e w5 ⟨x5,rfl,hx5,hbq5⟩;have hB5:=zAS (by assumption) hbq5)
    | (go_at_call 93;refine (zAk _ _ _ hx5).mono ?_;rintro e w6 ⟨rfl,hw6⟩;have hB6:=zEP (by assumption) hw6))
 go_wp2
 go_ret
 exact⟨by rw[HAG.out];rfl,HB0.out.trans (hB5.mono HB0.out.size)⟩
set_option maxHeartbeats 400000 in
theorem zC6 (n a b:Int) (w:World) :
 Calls Tryz.prog 40 #[.int .i64 n,.int .i64 a,.int .i64 b] w fun e w'=>e=.returned (.bool (decide (a≤n)&&decide (n≤b)))∧w'=w:=by
 go_enter Tryz.func40,Tryz.ntmps40
 go_wp2
 ·go_ret;exact⟨zAB (by simp[*]),rfl⟩
 ·go_ret;exact⟨zAB (by rw[decide_eq_false (p:=a≤n) (by omega)];rfl),rfl⟩
set_option maxHeartbeats 400000 in
theorem zI9 (n:Int) (w:World) :
 Calls Tryz.prog 155 #[.int .i64 n] w fun e w'=>e=.returned (.bool (zAM n))∧w'=w:=by
 obtain⟨B,hB⟩:∃B,zAM n=B:=⟨_,rfl⟩
 have HB:Hid ((decide (-1000≤n)&&decide (n≤1000))=B):=hB
 rw[hB]
 clear hB
 go_enter Tryz.func155,Tryz.ntmps155
 go_wp2_with fail
 refine (zC6 _ _ _ _).mono ?_
 rintro e w ⟨rfl,rfl⟩
 rw[HB.out]
 go_wp2
 go_ret
 exact⟨rfl,rfl⟩
set_option maxHeartbeats 1600000 in
set_option maxRecDepth 100000 in
theorem zG9 (m:Mod) (l:MLit) (a:Option Addr) (cap:Nat) (cs:Value) (w:World) (hm:m.vars.length≤maxLen) :
 Calls Tryz.prog 92 #[.agg #[.slice a m.vars.length cap,cs,.int .i64 m.goal,.int .i64 m.var],.agg #[.int .i64 l.var,.int .i64 l.op,.int .i64 l.n]] w fun e w'=>e=.returned (.int .i64 (litE m.vars l))∧Below w.heap.size w w':=by
 obtain⟨E,hE⟩:∃E,litE m.vars l=E:=⟨_,rfl⟩
 have HE:Hid (E=if l.var<0∨(m.vars.length:Int)≤l.var then 5 else if l.op<1∨4<l.op then 7 else if l.n < -1000∨1000<l.n then 3 else 0):=by show _=_;rw[←hE];rfl
 rw[hE]
 have HB:Hid (Below w.heap.size w ((w.alloc (.cells #[.slice a m.vars.length cap,cs,.int .i64 m.goal,.int .i64 m.var] 25)).alloc (.cells #[.int .i64 l.var,.int .i64 l.op,.int .i64 l.n] 76))):=(zAA _ _).alloc (by simp) _
 unfold maxLen at hm
 clear hE
 go_enter Tryz.func92,Tryz.ntmps92
 go_wp2_with fail
 refine (zC6 _ _ _ _).mono ?_
 rintro e wq ⟨rfl,rfl⟩
 by_cases h1:l.var<0∨(m.vars.length:Int)≤l.var
 ·have HN:Hid (E=5):=by show _=_;rw[HE.out,if_pos h1]
  have q:(decide (0≤l.var)&&decide (l.var≤(m.vars.length:Int) - 1))=false:=by rw[Bool.and_eq_false_iff];simp;omega
  rw[q]
  go_wp2
  go_ret
  exact⟨by rw[HN.out];rfl,HB.out⟩
 ·have q:(decide (0≤l.var)&&decide (l.var≤(m.vars.length:Int) - 1))=true:=by rw[Bool.and_eq_true];simp;omega
  rw[q]
  go_wp2_with fail
  refine (zC6 _ _ _ _).mono ?_
  rintro e wq ⟨rfl,rfl⟩
  by_cases h2:l.op<1∨4<l.op
  ·have HN:Hid (E=7):=by show _=_;rw[HE.out,if_neg h1,if_pos h2]
   have q:(decide (1≤l.op)&&decide (l.op≤4))=false:=by rw[Bool.and_eq_false_iff];simp;omega
   rw[q]
   go_wp2
   go_ret
   exact⟨by rw[HN.out];rfl,HB.out⟩
  ·have q:(decide (1≤l.op)&&decide (l.op≤4))=true:=by rw[Bool.and_eq_true];simp;omega
   rw[q]
   go_wp2_with fail
   refine (zI9 _ _).mono ?_
   rintro e wq ⟨rfl,rfl⟩
   by_cases h3:l.n < -1000∨1000<l.n
   ·have HN:Hid (E=3):=by show _=_;rw[HE.out,if_neg h1,if_neg h2,if_pos h3]
    have q:zAM l.n=false:=by unfold zAM inB;rw[Bool.and_eq_false_iff];simp;omega
    rw[q]
    go_wp2
    go_ret
    exact⟨by rw[HN.out];rfl,HB.out⟩
   ·have HN:Hid (E=0):=by show _=_;rw[HE.out,if_neg h1,if_neg h2,if_neg h3]
    have q:zAM l.n=true:=by unfold zAM inB;rw[Bool.and_eq_true];simp;omega
    rw[q]
    go_wp2
    go_ret
    exact⟨by rw[HN.out];rfl,HB.out⟩
theorem zKi (l:List Int) (h:zAe l=0):∀x∈l,x=0:=by
 induction l with
 | nil=>intro x hx;cases hx
 | cons a r ih =>
   intro x hx
   unfold zAe at h
   by_cases ha:a=0
   ·rw[ha] at h hx
    simp at h
    rcases List.mem_cons.1 hx with h1 | h1
    ·exact h1
    ·exact ih h x h1
   ·simp[ha] at h
theorem zKj (vs:List MVar) (c:Cla) (h:claE vs c=0):c.length≤40∧∀l∈c,litE vs l=0:=by
 unfold claE at h
 by_cases h1:40<c.length
 ·rw[if_pos h1] at h;cases h
 ·rw[if_neg h1] at h
  exact⟨by omega,fun l hl=>zKi _ h _ (List.mem_map.2 ⟨l,hl,rfl⟩)⟩
set_option maxHeartbeats 3200000 in
set_option maxRecDepth 100000 in
theorem zIH (m:Mod) (c:Cla) (a:Option Addr) (cap:Nat) (cs v:Value) (w:World) (hm:m.vars.length≤maxLen) (hv:LArg w v c) (hc:claE m.vars c=0) :
 Calls Tryz.prog 39 #[.agg #[.slice a m.vars.length cap,cs,.int .i64 m.goal,.int .i64 m.var],v] w fun e w'=>e=.returned (.int .i64 0)∧Below w.heap.size w w':=by
 obtain⟨h40,hl0⟩:=zKj _ _ hc
 have HL0:Hid (∀l∈c,litE m.vars l=0):=hl0
 have HA:Hid (LArg w v c):=hv
 have HM:Hid (m.vars.length≤maxLen):=hm
 obtain⟨a2,c2,rfl,_,_⟩:=hv
 have h40':¬((40:Int)<(c.length:Int)):=by omega
 clear hc hl0 hm
 go_enter Tryz.func39,Tryz.ntmps39
 go_wp2_with fail
 have HB0:Hid (Below w.heap.size w (w.alloc (.cells #[.slice a m.vars.length cap,cs,.int .i64 m.goal,.int .i64 m.var] 25))):=zAA _ _
 have HN0:Hid ((w.alloc (.cells #[.slice a m.vars.length cap,cs,.int .i64 m.goal,.int .i64 m.var] 25)).heap[w.heap.size]? = some (.cells #[.slice a m.vars.length cap,cs,.int .i64 m.goal,.int .i64 m.var] 25)):=heap_alloc_new _ _
 obtain⟨W,hW⟩:∃W,w.alloc (.cells #[.slice a m.vars.length cap,cs,.int .i64 m.goal,.int .i64 m.var] 25)=W:=⟨_,rfl⟩
 rw[hW] at HB0 HN0 ⊢
 clear hW
 go_loopw [5,6] (fun i _ wr=>∃k:Nat,k≤c.length∧i=.int .i64 k∧Below W.heap.size W wr) (fun i _ _=>c.length - (intOf i).toNat)
 case atStart=>exact⟨0,by omega,rfl,Below.refl _ _⟩
 case round =>
  obtain⟨k,hk,rfl,hbw⟩:=hrel
  have HBW:Hid (Below W.heap.size W wr):=hbw
  have HBN:Hid (Below w.heap.size w wr):=HB0.out.trans (hbw.mono HB0.out.size)
  by_cases hlt:k<c.length
  ·obtain⟨x,hx⟩:∃x,c[k]? = some x:=⟨c[k],by simp[hlt]⟩
   have HX0:Hid (litE m.vars x=0):=HL0.out x (List.mem_of_getElem? hx)
   obtain⟨b,off,hb,hbl,h0,h1,h2⟩:=LArg.nth (LArg.below HBN.out HA.out) k x hx
   subst hb
   have hN:=(hbw.block _ (Array.getElem?_eq_some_iff.1 HN0.out).1).trans HN0.out
   have l0:=(Array.getElem?_eq_some_iff.1 hN).1
   have q0:=blk9 hN 0 _ rfl
   have q1:=blk9 hN 1 _ rfl
   have q2:=blk9 hN 2 _ rfl
   have q3:=blk9 hN 3 _ rfl
   clear hx hN hbw
   go_wp2_with fail
   go_region_held3 (fun w'=>Below wr.heap.size wr w'∧w'.cell? ⟨w.heap.size,0,none⟩=some (.slice a m.vars.length cap)∧w'.cell? ⟨w.heap.size,1,none⟩=some cs∧w'.cell? ⟨w.heap.size,2,none⟩=some (.int .i64 m.goal)∧w'.cell? ⟨w.heap.size,3,none⟩=some (.int .i64 m.var)∧w'.cell? ⟨b,off+k * 3,none⟩=some (.int .i64 x.var)∧w'.cell? ⟨b,off+k * 3+1,none⟩=some (.int .i64 x.op)∧w'.cell? ⟨b,off+k * 3+2,none⟩=some (.int .i64 x.n))
    ((refine (fun (hB:Below wr.heap.size wr _)=>⟨hB,(hB.cell (p:=⟨w.heap.size,0,none⟩) l0).trans q0,(hB.cell (p:=⟨w.heap.size,1,none⟩) l0).trans q1,(hB.cell (p:=⟨w.heap.size,2,none⟩) l0).trans q2,(hB.cell (p:=⟨w.heap.size,3,none⟩) l0).trans q3,(hB.cell (p:=⟨b,off+k * 3,none⟩) hbl).trans h0,(hB.cell (p:=⟨b,off+k * 3+1,none⟩) hbl).trans h1,(hB.cell (p:=⟨b,off+k * 3+2,none⟩) hbl).trans h2⟩:Below wr.heap.size wr _→_) ?_;first | exact (Below.refl _ _).drew | exact zAS (by assumption) hbq))
    ((go_at_call 92;refine (zG9 m x a cap cs _ HM.out).mono ?_;rintro e w3 ⟨rfl,hbq⟩;have hB3:=zAS (by assumption) hbq))
   rw[HX0.out]
   have HB3:Hid (Below W.heap.size W w3):=HBW.out.trans (hB3.mono HBW.out.size)
   clear l0 q0 q1 q2 q3 h0 h1 h2 hbl hB3 hbq
   go_wp2
   go_roundw
   case rel=>exact⟨k+1,by omega,by go_num,HB3.out⟩
   case measure=>simp[intOf];omega
  ·clear hbw
   go_wp2
   go_ret
   exact⟨rfl,HBN.out⟩
end Go.Proofs.YtndcpnlaadikoaaGreatDoor
