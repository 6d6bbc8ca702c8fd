/- What the proof leans on, part 4. -/
import Derived.Test.YtdjbejlbmaiocafGreatDoorPartAc
namespace Go.Proofs.YtdjbejlbmaiocafGreatDoor
open Go.RowKit
set_option maxHeartbeats 400000 in
theorem zAw (n most:Int) (h0:0≤most) (h1:most≤1000) (w:World) :
 Calls Tryz.prog 123 #[.int .i64 n,.int .i64 most] w fun e w'=>e=.returned (.bool (inB n most))∧w'=w:=by
 unfold inB
 go_enter Tryz.func123,Tryz.ntmps123
 go_wp2
 ·go_ret;exact⟨zAB (by simp[*]),rfl⟩
 ·go_ret;exact⟨zAB (by rw[decide_eq_false (p:=-most≤n) (by omega)];rfl),rfl⟩
set_option maxHeartbeats 1000000 in
set_option maxRecDepth 100000 in
theorem zK7 (s:ByteArray) (w:World) :
 Calls Tryz.prog 230 #[.string s] w fun e w'=>e=.returned (.bool (zD9 s))∧w'=w:=by
 go_enter Tryz.func230,Tryz.ntmps230
 go_wp2
 all_goals (go_ret;refine⟨zAB ?_,rfl⟩;simp_all[zD9])
set_option maxHeartbeats 1000000 in
set_option maxRecDepth 100000 in
theorem zCu (s:ByteArray) (hs:s.size≤maxLen) (w:World) :
 Calls Tryz.prog 186 #[.string s] w fun e w'=>e=.returned (.bool (zBK s))∧Below w.heap.size w w':=by
 rcases hR:zA0 s with ⟨ts,pl,er⟩
 have hA:zBK s=(((er==0)&&((ts.length==1)&&((ts.headD ⟨0,0,ByteArray.empty⟩).kind==1&&(ts.headD ⟨0,0,ByteArray.empty⟩).text.toList==s.toList)))&&!zD9 s):=by
  unfold zBK;rw[←zIg ⟨1,0,s⟩];unfold zFv;rw[hR]
 have HR:Hid (zA0 s=(ts,pl,er)):=hR
 have HS:Hid (s.size≤maxLen):=hs
 clear hR hs
 by_cases her:er=0
 ·subst her
  by_cases hl:ts.length=1
  ·obtain⟨u,rfl⟩:∃u,ts=[u]:=List.length_eq_one_iff.1 hl
   clear hl
   cases hkd:(u.kind==1)
   ·have hA2:zBK s=false:=by rw[hA];simp only[List.headD_cons];rw[hkd];rfl
    rw[hA2];clear hA hA2
    go_enter Tryz.func186,Tryz.ntmps186
    go_wp2_with fail
    refine (zC7 s HS.out _).mono ?_
    rintro e w1 ⟨v,rfl,hown,hb1⟩
    rw[HR.out] at hown ⊢
    obtain⟨g,cap,rfl,_,_,hrow⟩:=zGe hown (by simp)
    obtain⟨c0,c1,c2⟩:=hrow 0 u rfl
    clear hrow hown
    simp only[Nat.zero_mul,Nat.add_zero,Nat.zero_add] at c0 c1 c2
    go_wp2
    go_ret
    exact⟨rfl,hb1⟩
   ·cases htx:(u.text.toList==s.toList)
    ·have hA2:zBK s=false:=by rw[hA];simp only[List.headD_cons];rw[hkd,htx];rfl
     rw[hA2];clear hA hA2
     go_enter Tryz.func186,Tryz.ntmps186
     go_wp2_with fail
     refine (zC7 s HS.out _).mono ?_
     rintro e w1 ⟨v,rfl,hown,hb1⟩
     rw[HR.out] at hown ⊢
     obtain⟨g,cap,rfl,_,_,hrow⟩:=zGe hown (by simp)
     obtain⟨c0,c1,c2⟩:=hrow 0 u rfl
     clear hrow hown
     simp only[Nat.zero_mul,Nat.add_zero,Nat.zero_add] at c0 c1 c2
     go_wp2
     go_ret
     exact⟨rfl,hb1⟩
    ·have hA2:zBK s=!zD9 s:=by rw[hA];simp only[List.headD_cons];rw[hkd,htx];rfl
     rw[hA2];clear hA hA2
     go_enter Tryz.func186,Tryz.ntmps186
     go_wp2_with fail
     refine (zC7 s HS.out _).mono ?_
     rintro e w1 ⟨v,rfl,hown,hb1⟩
     rw[HR.out] at hown ⊢
     obtain⟨g,cap,rfl,_,_,hrow⟩:=zGe hown (by simp)
     obtain⟨c0,c1,c2⟩:=hrow 0 u rfl
     clear hrow hown
     simp only[Nat.zero_mul,Nat.add_zero,Nat.zero_add] at c0 c1 c2
     go_wp2_with fail
     refine (zK7 _ _).mono ?_
     rintro e w1 ⟨rfl,rfl⟩
     go_wp2
     go_ret
     exact⟨rfl,hb1⟩
  ·have hl2:((ts.length:Int)==1)=false:=by simpa using (show ¬(ts.length:Int)=1 by omega)
   have hA2:zBK s=false:=by rw[hA];rw[show (ts.length==1)=false by simpa using hl];rfl
   rw[hA2];clear hA hA2 hl
   go_enter Tryz.func186,Tryz.ntmps186
   go_wp2_with fail
   refine (zC7 s HS.out _).mono ?_
   rintro e w1 ⟨v,rfl,hown,hb1⟩
   rw[HR.out] at hown ⊢
   obtain⟨ad,cap,rfl⟩:=zAC hown
   clear hown
   go_wp2
   go_ret
   exact⟨rfl,hb1⟩
 ·have her2:(er==0)=false:=by simpa using her
  have hA2:zBK s=false:=by rw[hA,her2];rfl
  rw[hA2];clear hA hA2 her
  go_enter Tryz.func186,Tryz.ntmps186
  go_wp2_with fail
  refine (zC7 s HS.out _).mono ?_
  rintro e w1 ⟨v,rfl,hown,hb1⟩
  rw[HR.out] at hown ⊢
  obtain⟨ad,cap,rfl⟩:=zAC hown
  clear hown
  go_wp2
  go_ret
  exact⟨rfl,hb1⟩
set_option maxHeartbeats 400000 in
theorem zHP (b:Nat) (u:MVar) (nm:ByteArray) (w:World) (hc:w.cell? ⟨b,0,none⟩=some (.string nm)) :
 Calls Tryz.prog 188 #[.agg #[.string u.name,.int .i64 u.lo,.int .i64 u.hi],.pointer (some ⟨b,0,none⟩)] w fun e w'=>e=.returned (.bool (u.name.toList==nm.toList))∧Below w.heap.size w w':=by
 have hb:b<w.heap.size:=World.block_lt_of_cell? w _ hc
 go_enter Tryz.func188,Tryz.ntmps188
 go_wp2
 go_ret
 exact⟨rfl,zAA _ _⟩
def zBd (l:List MVar) (nm:ByteArray):Bool:=l.any fun u=>u.name.toList==nm.toList
theorem zIi (l:List MVar) (nm:ByteArray) (m:Nat) (t:MVar) (ht:l[m]? = some t) (h:(t.name.toList==nm.toList)=true):zBd l nm=true:=by
 unfold zBd;exact List.any_eq_true.2 ⟨t,List.mem_of_getElem? ht,h⟩
theorem zHq (l:List MVar) (nm:ByteArray) (m:Nat) (t:MVar) (ht:l[m]? = some t) (h0:zBd (l.take m) nm=false) (h:(t.name.toList==nm.toList)=false):zBd (l.take (m+1)) nm=false:=by
 unfold zBd at *;rw[List.take_add_one,ht,List.any_append,h0];simp[h]
set_option maxHeartbeats 800000 in
set_option maxRecDepth 100000 in
theorem zHr (l:List MVar) (v:Value) (b:Nat) (nm:ByteArray) (w:World) (hv:VArg w v l) (hc:w.cell? ⟨b,0,none⟩=some (.string nm)) :
 Calls Tryz.prog 231 #[v,.func (.func 188) #[] #[.pointer (some ⟨b,0,none⟩)]] w fun e w'=>∃z:Int,e=.returned (.int .i64 z)∧decide (0≤z)=zBd l nm∧Below w.heap.size w w':=by
 obtain⟨a,c,rfl,hm,hr⟩:=hv
 have HV:Hid (∀(i:Nat) (t:MVar),l[i]? = some t→t.name.size≤maxLen∧∃b off,a=some ⟨b,off,none⟩∧b<w.heap.size ∧
  w.cell? ⟨b,off+i * 3,none⟩=some (.string t.name)∧w.cell? ⟨b,off+i * 3+1,none⟩=some (.int .i64 t.lo)∧w.cell? ⟨b,off+i * 3+2,none⟩=some (.int .i64 t.hi)):=hr
 have hbs:b<w.heap.size:=World.block_lt_of_cell? w _ hc
 have HC:Hid (w.cell? ⟨b,0,none⟩=some (.string nm)):=hc
 obtain⟨tw,htw⟩:∃tw,zBd l nm=tw:=⟨_,rfl⟩
 rw[htw]
 have HTW:Hid (zBd l nm=tw):=htw
 clear hr hc htw
 unfold maxLen at hm
 obtain⟨hm1,hm⟩:=hm
 go_enter Tryz.func231,Tryz.ntmps231
 go_wp2_with fail
 go_loopw [8] (fun i wr=>∃m:Nat,m≤l.length∧i=.int .i64 m∧Hid (zBd (l.take m) nm=false)∧Below w.heap.size w wr) (fun i _=>l.length - (intOf i).toNat)
 case atStart=>exact⟨0,by omega,rfl,rfl,Below.refl _ _⟩
 case round =>
  obtain⟨m,hml,rfl,hno,hbw⟩:=hrel
  by_cases hlt:m<l.length
  ·obtain⟨t,ht⟩:∃t,l[m]? = some t:=⟨l[m],by simp[hlt]⟩
   obtain⟨_,b2,off,ha,hlt2,c0,c1,c2⟩:=HV.out m t ht
   have hc0:=(hbw.cell (p:=⟨b2,off+m * 3,none⟩) hlt2).trans c0
   have hc1:=(hbw.cell (p:=⟨b2,off+m * 3+1,none⟩) hlt2).trans c1
   have hc2:=(hbw.cell (p:=⟨b2,off+m * 3+2,none⟩) hlt2).trans c2
   have hcb:=(hbw.cell (p:=⟨b,0,none⟩) hbs).trans HC.out
   have HT:Hid (l[m]? = some t):=ht
   subst ha
   clear c0 c1 c2 ht
   cases hq:(t.name.toList==nm.toList)
   ·have HNO:Hid (zBd (l.take (m+1)) nm=false):=zHq l nm m t HT.out hno.out hq
    go_wp2_with fail
    refine (zHP b t nm _ hcb).mono ?_
    rintro e w1 ⟨rfl,hb1⟩
    rw[hq]
    clear hq
    go_wp2
    go_roundw
    case rel=>exact⟨m+1,by omega,by go_num,HNO,hbw.trans (hb1.mono hbw.size)⟩
    case measure=>simp[intOf];omega
   ·have HY:Hid (tw=true):=by rw[←HTW.out];exact zIi l nm m t HT.out hq
    go_wp2_with fail
    refine (zHP b t nm _ hcb).mono ?_
    rintro e w1 ⟨rfl,hb1⟩
    rw[hq]
    clear hq
    go_wp2
    go_ret
    exact⟨_,rfl,by rw[HY.out];simp,hbw.trans (hb1.mono hbw.size)⟩
  ·have HN:Hid (tw=false):=by
    have hmn:m=l.length:=by omega
    have:=hno.out;rw[hmn,List.take_length,HTW.out] at this;exact this
   go_wp2
   go_ret
   exact⟨_,rfl,by rw[HN.out];rfl,hbw⟩
set_option maxHeartbeats 400000 in
theorem zA3 (l:List MVar) (v:Value) (b:Nat) (nm:ByteArray) (w:World) (hv:VArg w v l) (hc:w.cell? ⟨b,0,none⟩=some (.string nm)) :
 Calls Tryz.prog 187 #[v,.func (.func 188) #[] #[.pointer (some ⟨b,0,none⟩)]] w fun e w'=>e=.returned (.bool (zBd l nm))∧Below w.heap.size w w':=by
 go_enter Tryz.func187,Tryz.ntmps187
 go_wp2_with fail
 refine (zHr l v b nm _ hv hc).mono ?_
 rintro e w1 ⟨z,rfl,hz,hb1⟩
 have HZ:Hid (decide (0≤z)=zBd l nm):=hz
 clear hz
 go_wp2
 go_ret
 exact⟨zAB HZ.out,hb1⟩
theorem VArg.take {w:World} {a:Option Addr} {n c:Nat} {vs:List MVar} (h:VArg w (.slice a n c) vs) (k:Nat) (hk:k≤vs.length):VArg w (.slice a k c) (vs.take k):=by
 obtain⟨a',c',hv,hm,hr⟩:=h
 cases hv
 refine⟨a,c,by rw[List.length_take,Nat.min_eq_left hk],⟨by rw[List.length_take];omega,hm.2⟩,fun i t ht=>?_⟩
 rw[List.getElem?_take] at ht
 split at ht
 ·exact hr i t ht
 ·cases ht
set_option maxHeartbeats 1600000 in
set_option maxRecDepth 100000 in
theorem zIj (vs:List MVar) (v:Value) (k:Nat) (t:MVar) (w:World) (hv:VArg w v vs) (ht:vs[k]? = some t) :
 Calls Tryz.prog 108 #[v,.int .i64 k] w fun e w'=>e=.returned (.int .i64 (varE (vs.take k) t))∧Below w.heap.size w w':=by
 have hv0:=hv
 obtain⟨a,c,rfl,hm,hr⟩:=hv
 have hkl:k<vs.length:=(List.getElem?_eq_some_iff.1 ht).1
 have HTAKE:Hid (VArg w (.slice a k c) (vs.take k)):=VArg.take hv0 k (by omega)
 obtain⟨hts,b,off,rfl,hlt,c0,c1,c2⟩:=hr k t ht
 have HTS:Hid (t.name.size≤maxLen):=hts
 obtain⟨R,hR⟩:∃R,varE (vs.take k) t=R:=⟨_,rfl⟩
 rw[hR]
 have hE:R=(if zBK t.name then (if zBd (vs.take k) t.name then 6 else if inB t.lo 50&&(inB t.hi 50&&!decide (t.hi<t.lo)) then (if 6<t.hi - t.lo+1 then 2 else 0) else 3) else 1):=by rw[←hR];rfl
 clear hr hv0 hts ht hR
 unfold maxLen at hm
 obtain⟨hm1,hm⟩:=hm
 cases hn:zBK t.name
 ·have HE:Hid (R=1):=by rw[hE,hn];rfl
  have HN:Hid (zBK t.name=false):=hn
  clear hn hE
  go_enter Tryz.func108,Tryz.ntmps108
  go_wp2_with fail
  refine (zCu _ HTS.out _).mono ?_
  rintro e w1 ⟨rfl,hb1⟩
  rw[HN.out]
  have hB1:Below w.heap.size w w1:=(zAA _ _).trans (hb1.mono (by simp))
  have d0:w1.cell? ⟨w.heap.size,0,none⟩=some (.string t.name):=(hb1.cell (by simp)).trans (by simp)
  have d1:w1.cell? ⟨w.heap.size,1,none⟩=some (.int .i64 t.lo):=(hb1.cell (by simp)).trans (by simp)
  have d2:w1.cell? ⟨w.heap.size,2,none⟩=some (.int .i64 t.hi):=(hb1.cell (by simp)).trans (by simp)
  have hs1:w.heap.size+1≤w1.heap.size:=by simpa using hb1.size
  clear hb1
  go_wp2
  go_ret
  exact⟨zAF HE.out.symm,hB1⟩
 ·have HN:Hid (zBK t.name=true):=hn
  cases htw:zBd (vs.take k) t.name
  ·have HTW:Hid (zBd (vs.take k) t.name=false):=htw
   cases hlo:inB t.lo 50
   ·have HE:Hid (R=3):=by rw[hE,hn,htw,hlo];rfl
    have HLO:Hid (inB t.lo 50=false):=hlo
    clear hn htw hlo hE
    go_enter Tryz.func108,Tryz.ntmps108
    go_wp2_with fail
    refine (zCu _ HTS.out _).mono ?_
    rintro e w1 ⟨rfl,hb1⟩
    rw[HN.out]
    have hB1:Below w.heap.size w w1:=(zAA _ _).trans (hb1.mono (by simp))
    have d0:w1.cell? ⟨w.heap.size,0,none⟩=some (.string t.name):=(hb1.cell (by simp)).trans (by simp)
    have d1:w1.cell? ⟨w.heap.size,1,none⟩=some (.int .i64 t.lo):=(hb1.cell (by simp)).trans (by simp)
    have d2:w1.cell? ⟨w.heap.size,2,none⟩=some (.int .i64 t.hi):=(hb1.cell (by simp)).trans (by simp)
    have hs1:w.heap.size+1≤w1.heap.size:=by simpa using hb1.size
    clear hb1
    go_wp2_with fail
    refine (zA3 (vs.take k) _ w.heap.size t.name _ (VArg.below hB1 HTAKE.out) d0).mono ?_
    rintro e w2 ⟨rfl,hb2⟩
    rw[HTW.out]
    have hB2:Below w.heap.size w w2:=hB1.trans (hb2.mono (by omega))
    have e1:w2.cell? ⟨w.heap.size,1,none⟩=some (.int .i64 t.lo):=(hb2.cell (p:=⟨w.heap.size,1,none⟩) (by simp only;omega)).trans d1
    have e2:w2.cell? ⟨w.heap.size,2,none⟩=some (.int .i64 t.hi):=(hb2.cell (p:=⟨w.heap.size,2,none⟩) (by simp only;omega)).trans d2
    clear hb2 d0 d1 d2
    go_wp2_with fail
    refine (zAw _ 50 (by omega) (by omega) _).mono ?_
    rintro e w2 ⟨rfl,rfl⟩
    rw[HLO.out]
    go_wp2
    go_ret
    exact⟨zAF HE.out.symm,hB2⟩
   ·have HLO:Hid (inB t.lo 50=true):=hlo
    have hl1:-50≤t.lo∧t.lo≤50:=by simpa[inB] using hlo
    cases hhi:inB t.hi 50
    ·have HE:Hid (R=3):=by rw[hE,hn,htw,hlo,hhi];rfl
     have HHI:Hid (inB t.hi 50=false):=hhi
     clear hn htw hlo hhi hE
     go_enter Tryz.func108,Tryz.ntmps108
     go_wp2_with fail
     refine (zCu _ HTS.out _).mono ?_
     rintro e w1 ⟨rfl,hb1⟩
     rw[HN.out]
     have hB1:Below w.heap.size w w1:=(zAA _ _).trans (hb1.mono (by simp))
     have d0:w1.cell? ⟨w.heap.size,0,none⟩=some (.string t.name):=(hb1.cell (by simp)).trans (by simp)
     have d1:w1.cell? ⟨w.heap.size,1,none⟩=some (.int .i64 t.lo):=(hb1.cell (by simp)).trans (by simp)
     have d2:w1.cell? ⟨w.heap.size,2,none⟩=some (.int .i64 t.hi):=(hb1.cell (by simp)).trans (by simp)
     have hs1:w.heap.size+1≤w1.heap.size:=by simpa using hb1.size
     clear hb1
     go_wp2_with fail
     refine (zA3 (vs.take k) _ w.heap.size t.name _ (VArg.below hB1 HTAKE.out) d0).mono ?_
     rintro e w2 ⟨rfl,hb2⟩
     rw[HTW.out]
     have hB2:Below w.heap.size w w2:=hB1.trans (hb2.mono (by omega))
     have e1:w2.cell? ⟨w.heap.size,1,none⟩=some (.int .i64 t.lo):=(hb2.cell (p:=⟨w.heap.size,1,none⟩) (by simp only;omega)).trans d1
     have e2:w2.cell? ⟨w.heap.size,2,none⟩=some (.int .i64 t.hi):=(hb2.cell (p:=⟨w.heap.size,2,none⟩) (by simp only;omega)).trans d2
     clear hb2 d0 d1 d2
     go_wp2_with fail
     refine (zAw _ 50 (by omega) (by omega) _).mono ?_
     rintro e w2 ⟨rfl,rfl⟩
     rw[HLO.out]
     go_wp2_with fail
     refine (zAw _ 50 (by omega) (by omega) _).mono ?_
     rintro e w2 ⟨rfl,rfl⟩
     rw[HHI.out]
     go_wp2
     go_ret
     exact⟨zAF HE.out.symm,hB2⟩
    ·have HHI:Hid (inB t.hi 50=true):=hhi
     have hh1:-50≤t.hi∧t.hi≤50:=by simpa[inB] using hhi
     by_cases hlh:t.hi<t.lo
     ·have HE:Hid (R=3):=by rw[hE,hn,htw,hlo,hhi,decide_eq_true hlh];rfl
      clear hn htw hlo hhi hE
      go_enter Tryz.func108,Tryz.ntmps108
      go_wp2_with fail
      refine (zCu _ HTS.out _).mono ?_
      rintro e w1 ⟨rfl,hb1⟩
      rw[HN.out]
      have hB1:Below w.heap.size w w1:=(zAA _ _).trans (hb1.mono (by simp))
      have d0:w1.cell? ⟨w.heap.size,0,none⟩=some (.string t.name):=(hb1.cell (by simp)).trans (by simp)
      have d1:w1.cell? ⟨w.heap.size,1,none⟩=some (.int .i64 t.lo):=(hb1.cell (by simp)).trans (by simp)
      have d2:w1.cell? ⟨w.heap.size,2,none⟩=some (.int .i64 t.hi):=(hb1.cell (by simp)).trans (by simp)
      have hs1:w.heap.size+1≤w1.heap.size:=by simpa using hb1.size
      clear hb1
      go_wp2_with fail
      refine (zA3 (vs.take k) _ w.heap.size t.name _ (VArg.below hB1 HTAKE.out) d0).mono ?_
      rintro e w2 ⟨rfl,hb2⟩
      rw[HTW.out]
      have hB2:Below w.heap.size w w2:=hB1.trans (hb2.mono (by omega))
      have e1:w2.cell? ⟨w.heap.size,1,none⟩=some (.int .i64 t.lo):=(hb2.cell (p:=⟨w.heap.size,1,none⟩) (by simp only;omega)).trans d1
      have e2:w2.cell? ⟨w.heap.size,2,none⟩=some (.int .i64 t.hi):=(hb2.cell (p:=⟨w.heap.size,2,none⟩) (by simp only;omega)).trans d2
      clear hb2 d0 d1 d2
      go_wp2_with fail
      refine (zAw _ 50 (by omega) (by omega) _).mono ?_
      rintro e w2 ⟨rfl,rfl⟩
      rw[HLO.out]
      go_wp2_with fail
      refine (zAw _ 50 (by omega) (by omega) _).mono ?_
      rintro e w2 ⟨rfl,rfl⟩
      rw[HHI.out]
      go_wp2
      go_ret
      exact⟨zAF HE.out.symm,hB2⟩
     ·by_cases h6:6<t.hi - t.lo+1
      ·have HE:Hid (R=2):=by rw[hE,hn,htw,hlo,hhi,decide_eq_false hlh,if_pos h6];rfl
       clear hn htw hlo hhi hE
       go_enter Tryz.func108,Tryz.ntmps108
       go_wp2_with fail
       refine (zCu _ HTS.out _).mono ?_
       rintro e w1 ⟨rfl,hb1⟩
       rw[HN.out]
       have hB1:Below w.heap.size w w1:=(zAA _ _).trans (hb1.mono (by simp))
       have d0:w1.cell? ⟨w.heap.size,0,none⟩=some (.string t.name):=(hb1.cell (by simp)).trans (by simp)
       have d1:w1.cell? ⟨w.heap.size,1,none⟩=some (.int .i64 t.lo):=(hb1.cell (by simp)).trans (by simp)
       have d2:w1.cell? ⟨w.heap.size,2,none⟩=some (.int .i64 t.hi):=(hb1.cell (by simp)).trans (by simp)
       have hs1:w.heap.size+1≤w1.heap.size:=by simpa using hb1.size
       clear hb1
       go_wp2_with fail
       refine (zA3 (vs.take k) _ w.heap.size t.name _ (VArg.below hB1 HTAKE.out) d0).mono ?_
       rintro e w2 ⟨rfl,hb2⟩
       rw[HTW.out]
       have hB2:Below w.heap.size w w2:=hB1.trans (hb2.mono (by omega))
       have e1:w2.cell? ⟨w.heap.size,1,none⟩=some (.int .i64 t.lo):=(hb2.cell (p:=⟨w.heap.size,1,none⟩) (by simp only;omega)).trans d1
       have e2:w2.cell? ⟨w.heap.size,2,none⟩=some (.int .i64 t.hi):=(hb2.cell (p:=⟨w.heap.size,2,none⟩) (by simp only;omega)).trans d2
       clear hb2 d0 d1 d2
       go_wp2_with fail
       refine (zAw _ 50 (by omega) (by omega) _).mono ?_
       rintro e w2 ⟨rfl,rfl⟩
       rw[HLO.out]
       go_wp2_with fail
       refine (zAw _ 50 (by omega) (by omega) _).mono ?_
       rintro e w2 ⟨rfl,rfl⟩
       rw[HHI.out]
       go_wp2
       go_ret
       exact⟨zAF HE.out.symm,hB2⟩
      ·have HE:Hid (R=0):=by rw[hE,hn,htw,hlo,hhi,decide_eq_false hlh,if_neg h6];rfl
       clear hn htw hlo hhi hE
       go_enter Tryz.func108,Tryz.ntmps108
       go_wp2_with fail
       refine (zCu _ HTS.out _).mono ?_
       rintro e w1 ⟨rfl,hb1⟩
       rw[HN.out]
       have hB1:Below w.heap.size w w1:=(zAA _ _).trans (hb1.mono (by simp))
       have d0:w1.cell? ⟨w.heap.size,0,none⟩=some (.string t.name):=(hb1.cell (by simp)).trans (by simp)
       have d1:w1.cell? ⟨w.heap.size,1,none⟩=some (.int .i64 t.lo):=(hb1.cell (by simp)).trans (by simp)
       have d2:w1.cell? ⟨w.heap.size,2,none⟩=some (.int .i64 t.hi):=(hb1.cell (by simp)).trans (by simp)
       have hs1:w.heap.size+1≤w1.heap.size:=by simpa using hb1.size
       clear hb1
       go_wp2_with fail
       refine (zA3 (vs.take k) _ w.heap.size t.name _ (VArg.below hB1 HTAKE.out) d0).mono ?_
       rintro e w2 ⟨rfl,hb2⟩
       rw[HTW.out]
       have hB2:Below w.heap.size w w2:=hB1.trans (hb2.mono (by omega))
       have e1:w2.cell? ⟨w.heap.size,1,none⟩=some (.int .i64 t.lo):=(hb2.cell (p:=⟨w.heap.size,1,none⟩) (by simp only;omega)).trans d1
       have e2:w2.cell? ⟨w.heap.size,2,none⟩=some (.int .i64 t.hi):=(hb2.cell (p:=⟨w.heap.size,2,none⟩) (by simp only;omega)).trans d2
       clear hb2 d0 d1 d2
       go_wp2_with fail
       refine (zAw _ 50 (by omega) (by omega) _).mono ?_
       rintro e w2 ⟨rfl,rfl⟩
       rw[HLO.out]
       go_wp2_with fail
       refine (zAw _ 50 (by omega) (by omega) _).mono ?_
       rintro e w2 ⟨rfl,rfl⟩
       rw[HHI.out]
       go_wp2
       go_ret
       exact⟨zAF HE.out.symm,hB2⟩
  ·have HE:Hid (R=6):=by rw[hE,hn,htw];rfl
   have HTW:Hid (zBd (vs.take k) t.name=true):=htw
   clear hn htw hE
   go_enter Tryz.func108,Tryz.ntmps108
   go_wp2_with fail
   refine (zCu _ HTS.out _).mono ?_
   rintro e w1 ⟨rfl,hb1⟩
   rw[HN.out]
   have hB1:Below w.heap.size w w1:=(zAA _ _).trans (hb1.mono (by simp))
   have d0:w1.cell? ⟨w.heap.size,0,none⟩=some (.string t.name):=(hb1.cell (by simp)).trans (by simp)
   have d1:w1.cell? ⟨w.heap.size,1,none⟩=some (.int .i64 t.lo):=(hb1.cell (by simp)).trans (by simp)
   have d2:w1.cell? ⟨w.heap.size,2,none⟩=some (.int .i64 t.hi):=(hb1.cell (by simp)).trans (by simp)
   have hs1:w.heap.size+1≤w1.heap.size:=by simpa using hb1.size
   clear hb1
   go_wp2_with fail
   refine (zA3 (vs.take k) _ w.heap.size t.name _ (VArg.below hB1 HTAKE.out) d0).mono ?_
   rintro e w2 ⟨rfl,hb2⟩
   rw[HTW.out]
   have hB2:Below w.heap.size w w2:=hB1.trans (hb2.mono (by omega))
   have e1:w2.cell? ⟨w.heap.size,1,none⟩=some (.int .i64 t.lo):=(hb2.cell (p:=⟨w.heap.size,1,none⟩) (by simp only;omega)).trans d1
   have e2:w2.cell? ⟨w.heap.size,2,none⟩=some (.int .i64 t.hi):=(hb2.cell (p:=⟨w.heap.size,2,none⟩) (by simp only;omega)).trans d2
   clear hb2 d0 d1 d2
   go_wp2
   go_ret
   exact⟨zAF HE.out.symm,hB2⟩
end Go.Proofs.YtdjbejlbmaiocafGreatDoor
