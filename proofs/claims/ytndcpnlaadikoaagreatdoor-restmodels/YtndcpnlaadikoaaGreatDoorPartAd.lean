/- What the proof leans on, part 4. -/
import Derived.Test.YtndcpnlaadikoaaGreatDoorPartAb
import Derived.Deep.QuietTactic
import Derived.BigQuiet
set_option maxRecDepth 100000
set_option maxHeartbeats 1600000
namespace Go.Proofs.YtndcpnlaadikoaaGreatDoor
open Go.RowKit
theorem zBO (n most:Int) (h0:0≤most) (h1:most≤1000) (w:World) :
 Calls Tryz.prog 111 #[.int .i64 n,.int .i64 most] w fun e w'=>e=.returned (.bool (inB n most))∧w'=w:=by
 unfold inB;go_enter Tryz.func111,Tryz.ntmps111
 go_wp2
 ·go_ret;exact⟨zAD (by simp[*]),rfl⟩
 ·go_ret;exact⟨zAD (by rw[decide_eq_false (p:=-most≤n) (by omega)];rfl),rfl⟩
theorem zSH (s:ByteArray) (w:World) :
 Calls Tryz.prog 240 #[.string s] w fun e w'=>e=.returned (.bool (zHE s))∧w'=w:=by
 go_enter Tryz.func240,Tryz.ntmps240
 go_wp2
 all_goals (go_ret;refine⟨zAD ?_,rfl⟩;simp_all[zHE])
theorem zFE (s:ByteArray) (hs:s.size≤maxLen) (w:World) :
 Calls Tryz.prog 178 #[.string s] w fun e w'=>e=.returned (.bool (zBk s))∧Below w.heap.size w w':=by
 rcases hR:zAv s with ⟨ts,pl,er⟩
 have hA:zBk s=(((er==0)&&((ts.length==1)&&((ts.headD ⟨0,0,ByteArray.empty⟩).kind==1&&(ts.headD ⟨0,0,ByteArray.empty⟩).text.toList==s.toList)))&&!zHE s):=by
  unfold zBk;rw[←zOf ⟨1,0,s⟩];unfold zJ3;rw[hR]
 have HR:Hid (zAv s=(ts,pl,er)):=hR;have HS:Hid (s.size≤maxLen):=hs;clear hR hs;by_cases her:er=0
 ·subst her
  by_cases hl:ts.length=1
  ·obtain⟨u,rfl⟩:∃u,ts=[u]:=List.length_eq_one_iff.1 hl
   clear hl;cases hkd:(u.kind==1)
   ·have hA2:zBk s=false:=by rw[hA];simp only[List.headD_cons];rw[hkd];rfl
    rw[hA2];clear hA hA2;go_enter Tryz.func178,Tryz.ntmps178
    go_wp2_with fail
    refine (zEs s HS.out _).mono ?_;rintro e w1 ⟨v,rfl,hown,hb1⟩;rw[HR.out] at hown ⊢;obtain⟨g,cap,rfl,_,_,hrow⟩:=zLO hown (by simp)
    obtain⟨c0,c1,c2⟩:=hrow 0 u rfl;clear hrow hown;simp only[Nat.zero_mul,Nat.add_zero,Nat.zero_add] at c0 c1 c2;go_wp2
    go_ret
    exact⟨rfl,hb1⟩
   ·cases htx:(u.text.toList==s.toList)
    ·have hA2:zBk s=false:=by rw[hA];simp only[List.headD_cons];rw[hkd,htx];rfl
     rw[hA2];clear hA hA2;go_enter Tryz.func178,Tryz.ntmps178
     go_wp2_with fail
     refine (zEs s HS.out _).mono ?_;rintro e w1 ⟨v,rfl,hown,hb1⟩;rw[HR.out] at hown ⊢;obtain⟨g,cap,rfl,_,_,hrow⟩:=zLO hown (by simp)
     obtain⟨c0,c1,c2⟩:=hrow 0 u rfl;clear hrow hown;simp only[Nat.zero_mul,Nat.add_zero,Nat.zero_add] at c0 c1 c2;go_wp2
     go_ret
     exact⟨rfl,hb1⟩
    ·have hA2:zBk s=!zHE s:=by rw[hA];simp only[List.headD_cons];rw[hkd,htx];rfl
     rw[hA2];clear hA hA2;go_enter Tryz.func178,Tryz.ntmps178
     go_wp2_with fail
     refine (zEs s HS.out _).mono ?_;rintro e w1 ⟨v,rfl,hown,hb1⟩;rw[HR.out] at hown ⊢;obtain⟨g,cap,rfl,_,_,hrow⟩:=zLO hown (by simp)
     obtain⟨c0,c1,c2⟩:=hrow 0 u rfl;clear hrow hown;simp only[Nat.zero_mul,Nat.add_zero,Nat.zero_add] at c0 c1 c2;go_wp2_with fail
     refine (zSH _ _).mono ?_;rintro e w1 ⟨rfl,rfl⟩;go_wp2
     go_ret
     exact⟨rfl,hb1⟩
  ·have hl2:((ts.length:Int)==1)=false:=by simpa using (show ¬(ts.length:Int)=1 by omega)
   have hA2:zBk s=false:=by rw[hA];rw[show (ts.length==1)=false by simpa using hl];rfl
   rw[hA2];clear hA hA2 hl;go_enter Tryz.func178,Tryz.ntmps178
   go_wp2_with fail
   refine (zEs s HS.out _).mono ?_;rintro e w1 ⟨v,rfl,hown,hb1⟩;rw[HR.out] at hown ⊢;obtain⟨ad,cap,rfl⟩:=zAC hown;clear hown;go_wp2
   go_ret
   exact⟨rfl,hb1⟩
 ·have her2:(er==0)=false:=by simpa using her
  have hA2:zBk s=false:=by rw[hA,her2];rfl
  rw[hA2];clear hA hA2 her;go_enter Tryz.func178,Tryz.ntmps178
  go_wp2_with fail
  refine (zEs s HS.out _).mono ?_;rintro e w1 ⟨v,rfl,hown,hb1⟩;rw[HR.out] at hown ⊢;obtain⟨ad,cap,rfl⟩:=zAC hown;clear hown;go_wp2
  go_ret
  exact⟨rfl,hb1⟩
theorem zMi (b:Nat) (u:MVar) (nm:ByteArray) (w:World) (hc:w.cell? ⟨b,0,none⟩=some (.string nm)) :
 Calls Tryz.prog 180 #[.agg #[.string u.name,.int .i64 u.lo,.int .i64 u.hi],.pointer (some ⟨b,0,none⟩)] w fun e w'=>e=.returned (.bool (u.name.toList==nm.toList))∧Below w.heap.size w w':=by
 have hb:b<w.heap.size:=World.block_lt_of_cell? w _ hc;go_enter Tryz.func180,Tryz.ntmps180
 go_wp2
 go_ret
 exact⟨rfl,zAA _ _⟩
def zC1 (l:List MVar) (nm:ByteArray):Bool:=l.any fun u=>u.name.toList==nm.toList
theorem zOk (l:List MVar) (nm:ByteArray) (m:Nat) (t:MVar) (ht:l[m]? = some t) (h:(t.name.toList==nm.toList)=true):zC1 l nm=true:=by
 unfold zC1;exact List.any_eq_true.2 ⟨t,List.mem_of_getElem? ht,h⟩
theorem zNY (l:List MVar) (nm:ByteArray) (m:Nat) (t:MVar) (ht:l[m]? = some t) (h0:zC1 (l.take m) nm=false) (h:(t.name.toList==nm.toList)=false):zC1 (l.take (m+1)) nm=false:=by
 unfold zC1 at *;rw[List.take_add_one,ht,List.any_append,h0];simp[h]
theorem zNZ (l:List MVar) (v:Value) (b:Nat) (nm:ByteArray) (w:World) (hv:VArg w v l) (hc:w.cell? ⟨b,0,none⟩=some (.string nm)) :
 Calls Tryz.prog 241 #[v,.func (.func 180) #[] #[.pointer (some ⟨b,0,none⟩)]] w fun e w'=>∃z:Int,e=.returned (.int .i64 z)∧decide (0≤z)=zC1 l nm∧Below w.heap.size w w':=by
 obtain⟨a,c,rfl,hm,hr⟩:=hv;have HV:Hid (∀(i:Nat) (t:MVar),l[i]? = some t→t.name.size≤maxLen∧∃b off,a=some ⟨b,off,none⟩∧b<w.heap.size ∧
  w.cell? ⟨b,off+i * 3,none⟩=some (.string t.name)∧w.cell? ⟨b,off+i * 3+1,none⟩=some (.int .i64 t.lo)∧w.cell? ⟨b,off+i * 3+2,none⟩=some (.int .i64 t.hi)):=hr
 have hbs:b<w.heap.size:=World.block_lt_of_cell? w _ hc;have HC:Hid (w.cell? ⟨b,0,none⟩=some (.string nm)):=hc;obtain⟨tw,htw⟩:∃tw,zC1 l nm=tw:=⟨_,rfl⟩;rw[htw];have HTW:Hid (zC1 l nm=tw):=htw;clear hr hc htw;unfold maxLen at hm;obtain⟨hm1,hm⟩:=hm;go_enter Tryz.func241,Tryz.ntmps241
 go_wp2_with fail
 go_loopw [8] (fun i wr=>∃m:Nat,m≤l.length∧i=.int .i64 m∧Hid (zC1 (l.take m) nm=false)∧Below w.heap.size w wr) (fun i _=>l.length - (intOf i).toNat)
 case atStart=>exact⟨0,by omega,rfl,rfl,Below.refl _ _⟩
 case round =>
  obtain⟨m,hml,rfl,hno,hbw⟩:=hrel;by_cases hlt:m<l.length
  ·obtain⟨t,ht⟩:∃t,l[m]? = some t:=⟨l[m],by simp[hlt]⟩
   obtain⟨_,b2,off,ha,hlt2,c0,c1,c2⟩:=HV.out m t ht;have hc0:=(hbw.cell (p:=⟨b2,off+m * 3,none⟩) hlt2).trans c0;have hc1:=(hbw.cell (p:=⟨b2,off+m * 3+1,none⟩) hlt2).trans c1;have hc2:=(hbw.cell (p:=⟨b2,off+m * 3+2,none⟩) hlt2).trans c2;have hcb:=(hbw.cell (p:=⟨b,0,none⟩) hbs).trans HC.out;have HT:Hid (l[m]? = some t):=ht;subst ha;clear c0 c1 c2 ht;cases hq:(t.name.toList==nm.toList)
   ·have HNO:Hid (zC1 (l.take (m+1)) nm=false):=zNY l nm m t HT.out hno.out hq
    go_wp2_with fail
    refine (zMi b t nm _ hcb).mono ?_;rintro e w1 ⟨rfl,hb1⟩;rw[hq];clear hq;go_wp2
    go_roundw
    case rel=>exact⟨m+1,by omega,by go_num,HNO,hbw.trans (hb1.mono hbw.size)⟩
    case measure=>simp[intOf];omega
   ·have HY:Hid (tw=true):=by rw[←HTW.out];exact zOk l nm m t HT.out hq
    go_wp2_with fail
    refine (zMi b t nm _ hcb).mono ?_;rintro e w1 ⟨rfl,hb1⟩;rw[hq];clear hq;go_wp2
    go_ret
    exact⟨_,rfl,by rw[HY.out];simp,hbw.trans (hb1.mono hbw.size)⟩
  ·have HN:Hid (tw=false):=by
    have hmn:m=l.length:=by omega
    have:=hno.out;rw[hmn,List.take_length,HTW.out] at this;exact this
   go_wp2
   go_ret
   exact⟨_,rfl,by rw[HN.out];rfl,hbw⟩
theorem zBr (l:List MVar) (v:Value) (b:Nat) (nm:ByteArray) (w:World) (hv:VArg w v l) (hc:w.cell? ⟨b,0,none⟩=some (.string nm)) :
 Calls Tryz.prog 179 #[v,.func (.func 180) #[] #[.pointer (some ⟨b,0,none⟩)]] w fun e w'=>e=.returned (.bool (zC1 l nm))∧Below w.heap.size w w':=by
 go_enter Tryz.func179,Tryz.ntmps179
 go_wp2_with fail
 refine (zNZ l v b nm _ hv hc).mono ?_;rintro e w1 ⟨z,rfl,hz,hb1⟩;have HZ:Hid (decide (0≤z)=zC1 l nm):=hz;clear hz;go_wp2
 go_ret
 exact⟨zAD HZ.out,hb1⟩
theorem VArg.take {w:World} {a:Option Addr} {n c:Nat} {vs:List MVar} (h:VArg w (.slice a n c) vs) (k:Nat) (hk:k≤vs.length):VArg w (.slice a k c) (vs.take k):=by
 obtain⟨a',c',hv,hm,hr⟩:=h;cases hv
 refine⟨a,c,by rw[List.length_take,Nat.min_eq_left hk],⟨by rw[List.length_take];omega,hm.2⟩,fun i t ht=>?_⟩
 rw[List.getElem?_take] at ht
 split at ht
 ·exact hr i t ht
 ·cases ht
theorem zOl (vs:List MVar) (v:Value) (k:Nat) (t:MVar) (w:World) (hv:VArg w v vs) (ht:vs[k]? = some t) :
 Calls Tryz.prog 112 #[v,.int .i64 k] w fun e w'=>e=.returned (.int .i64 (varE (vs.take k) t))∧Below w.heap.size w w':=by
 have hv0:=hv;obtain⟨a,c,rfl,hm,hr⟩:=hv;have hkl:k<vs.length:=(List.getElem?_eq_some_iff.1 ht).1;have HTAKE:Hid (VArg w (.slice a k c) (vs.take k)):=VArg.take hv0 k (by omega)
 obtain⟨hts,b,off,rfl,hlt,c0,c1,c2⟩:=hr k t ht;have HTS:Hid (t.name.size≤maxLen):=hts;obtain⟨R,hR⟩:∃R,varE (vs.take k) t=R:=⟨_,rfl⟩;rw[hR];have hE:R=(if zBk t.name then (if zC1 (vs.take k) t.name then 6 else if inB t.lo 50&&(inB t.hi 50&&!decide (t.hi<t.lo)) then (if 6<t.hi - t.lo+1 then 2 else 0) else 3) else 1):=by rw[←hR];rfl
 clear hr hv0 hts ht hR;unfold maxLen at hm;obtain⟨hm1,hm⟩:=hm;cases hn:zBk t.name
 ·have HE:Hid (R=1):=by rw[hE,hn];rfl
  have HN:Hid (zBk t.name=false):=hn;clear hn hE;go_enter Tryz.func112,Tryz.ntmps112
  go_wp2_with fail
  refine (zFE _ HTS.out _).mono ?_;rintro e w1 ⟨rfl,hb1⟩;rw[HN.out];have hB1:Below w.heap.size w w1:=(zAA _ _).trans (hb1.mono (by simp))
  have d0:w1.cell? ⟨w.heap.size,0,none⟩=some (.string t.name):=(hb1.cell (by simp)).trans (by simp)
  have d1:w1.cell? ⟨w.heap.size,1,none⟩=some (.int .i64 t.lo):=(hb1.cell (by simp)).trans (by simp)
  have d2:w1.cell? ⟨w.heap.size,2,none⟩=some (.int .i64 t.hi):=(hb1.cell (by simp)).trans (by simp)
  have hs1:w.heap.size+1≤w1.heap.size:=by simpa using hb1.size
  clear hb1;go_wp2
  go_ret
  exact⟨zAI HE.out.symm,hB1⟩
 ·have HN:Hid (zBk t.name=true):=hn
  cases htw:zC1 (vs.take k) t.name
  ·have HTW:Hid (zC1 (vs.take k) t.name=false):=htw
   cases hlo:inB t.lo 50
   ·have HE:Hid (R=3):=by rw[hE,hn,htw,hlo];rfl
    have HLO:Hid (inB t.lo 50=false):=hlo;clear hn htw hlo hE;go_enter Tryz.func112,Tryz.ntmps112
    go_wp2_with fail
    refine (zFE _ HTS.out _).mono ?_;rintro e w1 ⟨rfl,hb1⟩;rw[HN.out];have hB1:Below w.heap.size w w1:=(zAA _ _).trans (hb1.mono (by simp))
    have d0:w1.cell? ⟨w.heap.size,0,none⟩=some (.string t.name):=(hb1.cell (by simp)).trans (by simp)
    have d1:w1.cell? ⟨w.heap.size,1,none⟩=some (.int .i64 t.lo):=(hb1.cell (by simp)).trans (by simp)
    have d2:w1.cell? ⟨w.heap.size,2,none⟩=some (.int .i64 t.hi):=(hb1.cell (by simp)).trans (by simp)
    have hs1:w.heap.size+1≤w1.heap.size:=by simpa using hb1.size
    clear hb1;go_wp2_with fail
    refine (zBr (vs.take k) _ w.heap.size t.name _ (VArg.below hB1 HTAKE.out) d0).mono ?_;rintro e w2 ⟨rfl,hb2⟩;rw[HTW.out];have hB2:Below w.heap.size w w2:=hB1.trans (hb2.mono (by omega))
    have e1:w2.cell? ⟨w.heap.size,1,none⟩=some (.int .i64 t.lo):=(hb2.cell (p:=⟨w.heap.size,1,none⟩) (by simp only;omega)).trans d1
    have e2:w2.cell? ⟨w.heap.size,2,none⟩=some (.int .i64 t.hi):=(hb2.cell (p:=⟨w.heap.size,2,none⟩) (by simp only;omega)).trans d2
    clear hb2 d0 d1 d2;go_wp2_with fail
    refine (zBO _ 50 (by omega) (by omega) _).mono ?_
    rintro e w2 ⟨rfl,rfl⟩;rw[HLO.out];go_wp2
    go_ret
    exact⟨zAI HE.out.symm,hB2⟩
   ·have HLO:Hid (inB t.lo 50=true):=hlo
    have hl1:-50≤t.lo∧t.lo≤50:=by simpa[inB] using hlo
    cases hhi:inB t.hi 50
    ·have HE:Hid (R=3):=by rw[hE,hn,htw,hlo,hhi];rfl
     have HHI:Hid (inB t.hi 50=false):=hhi;clear hn htw hlo hhi hE;go_enter Tryz.func112,Tryz.ntmps112
     go_wp2_with fail
     refine (zFE _ HTS.out _).mono ?_;rintro e w1 ⟨rfl,hb1⟩;rw[HN.out];have hB1:Below w.heap.size w w1:=(zAA _ _).trans (hb1.mono (by simp))
     have d0:w1.cell? ⟨w.heap.size,0,none⟩=some (.string t.name):=(hb1.cell (by simp)).trans (by simp)
     have d1:w1.cell? ⟨w.heap.size,1,none⟩=some (.int .i64 t.lo):=(hb1.cell (by simp)).trans (by simp)
     have d2:w1.cell? ⟨w.heap.size,2,none⟩=some (.int .i64 t.hi):=(hb1.cell (by simp)).trans (by simp)
     have hs1:w.heap.size+1≤w1.heap.size:=by simpa using hb1.size
     clear hb1;go_wp2_with fail
     refine (zBr (vs.take k) _ w.heap.size t.name _ (VArg.below hB1 HTAKE.out) d0).mono ?_;rintro e w2 ⟨rfl,hb2⟩;rw[HTW.out];have hB2:Below w.heap.size w w2:=hB1.trans (hb2.mono (by omega))
     have e1:w2.cell? ⟨w.heap.size,1,none⟩=some (.int .i64 t.lo):=(hb2.cell (p:=⟨w.heap.size,1,none⟩) (by simp only;omega)).trans d1
     have e2:w2.cell? ⟨w.heap.size,2,none⟩=some (.int .i64 t.hi):=(hb2.cell (p:=⟨w.heap.size,2,none⟩) (by simp only;omega)).trans d2
     clear hb2 d0 d1 d2;go_wp2_with fail
     refine (zBO _ 50 (by omega) (by omega) _).mono ?_
     rintro e w2 ⟨rfl,rfl⟩;rw[HLO.out];go_wp2_with fail
     refine (zBO _ 50 (by omega) (by omega) _).mono ?_
     rintro e w2 ⟨rfl,rfl⟩;rw[HHI.out];go_wp2
     go_ret
     exact⟨zAI HE.out.symm,hB2⟩
    ·have HHI:Hid (inB t.hi 50=true):=hhi
     have hh1:-50≤t.hi∧t.hi≤50:=by simpa[inB] using hhi
     by_cases hlh:t.hi<t.lo
     ·have HE:Hid (R=3):=by rw[hE,hn,htw,hlo,hhi,decide_eq_true hlh];rfl
      clear hn htw hlo hhi hE;go_enter Tryz.func112,Tryz.ntmps112
      go_wp2_with fail
      refine (zFE _ HTS.out _).mono ?_;rintro e w1 ⟨rfl,hb1⟩;rw[HN.out];have hB1:Below w.heap.size w w1:=(zAA _ _).trans (hb1.mono (by simp))
      have d0:w1.cell? ⟨w.heap.size,0,none⟩=some (.string t.name):=(hb1.cell (by simp)).trans (by simp)
      have d1:w1.cell? ⟨w.heap.size,1,none⟩=some (.int .i64 t.lo):=(hb1.cell (by simp)).trans (by simp)
      have d2:w1.cell? ⟨w.heap.size,2,none⟩=some (.int .i64 t.hi):=(hb1.cell (by simp)).trans (by simp)
      have hs1:w.heap.size+1≤w1.heap.size:=by simpa using hb1.size
      clear hb1;go_wp2_with fail
      refine (zBr (vs.take k) _ w.heap.size t.name _ (VArg.below hB1 HTAKE.out) d0).mono ?_;rintro e w2 ⟨rfl,hb2⟩;rw[HTW.out];have hB2:Below w.heap.size w w2:=hB1.trans (hb2.mono (by omega))
      have e1:w2.cell? ⟨w.heap.size,1,none⟩=some (.int .i64 t.lo):=(hb2.cell (p:=⟨w.heap.size,1,none⟩) (by simp only;omega)).trans d1
      have e2:w2.cell? ⟨w.heap.size,2,none⟩=some (.int .i64 t.hi):=(hb2.cell (p:=⟨w.heap.size,2,none⟩) (by simp only;omega)).trans d2
      clear hb2 d0 d1 d2;go_wp2_with fail
      refine (zBO _ 50 (by omega) (by omega) _).mono ?_
      rintro e w2 ⟨rfl,rfl⟩;rw[HLO.out];go_wp2_with fail
      refine (zBO _ 50 (by omega) (by omega) _).mono ?_
      rintro e w2 ⟨rfl,rfl⟩;rw[HHI.out];go_wp2
      go_ret
      exact⟨zAI HE.out.symm,hB2⟩
     ·by_cases h6:6<t.hi - t.lo+1
      ·have HE:Hid (R=2):=by rw[hE,hn,htw,hlo,hhi,decide_eq_false hlh,if_pos h6];rfl
       clear hn htw hlo hhi hE;go_enter Tryz.func112,Tryz.ntmps112
       go_wp2_with fail
       refine (zFE _ HTS.out _).mono ?_;rintro e w1 ⟨rfl,hb1⟩;rw[HN.out];have hB1:Below w.heap.size w w1:=(zAA _ _).trans (hb1.mono (by simp))
       have d0:w1.cell? ⟨w.heap.size,0,none⟩=some (.string t.name):=(hb1.cell (by simp)).trans (by simp)
       have d1:w1.cell? ⟨w.heap.size,1,none⟩=some (.int .i64 t.lo):=(hb1.cell (by simp)).trans (by simp)
       have d2:w1.cell? ⟨w.heap.size,2,none⟩=some (.int .i64 t.hi):=(hb1.cell (by simp)).trans (by simp)
       have hs1:w.heap.size+1≤w1.heap.size:=by simpa using hb1.size
       clear hb1;go_wp2_with fail
       refine (zBr (vs.take k) _ w.heap.size t.name _ (VArg.below hB1 HTAKE.out) d0).mono ?_;rintro e w2 ⟨rfl,hb2⟩;rw[HTW.out];have hB2:Below w.heap.size w w2:=hB1.trans (hb2.mono (by omega))
       have e1:w2.cell? ⟨w.heap.size,1,none⟩=some (.int .i64 t.lo):=(hb2.cell (p:=⟨w.heap.size,1,none⟩) (by simp only;omega)).trans d1
       have e2:w2.cell? ⟨w.heap.size,2,none⟩=some (.int .i64 t.hi):=(hb2.cell (p:=⟨w.heap.size,2,none⟩) (by simp only;omega)).trans d2
       clear hb2 d0 d1 d2;go_wp2_with fail
       refine (zBO _ 50 (by omega) (by omega) _).mono ?_
       rintro e w2 ⟨rfl,rfl⟩;rw[HLO.out];go_wp2_with fail
       refine (zBO _ 50 (by omega) (by omega) _).mono ?_
       rintro e w2 ⟨rfl,rfl⟩;rw[HHI.out];go_wp2
       go_ret
       exact⟨zAI HE.out.symm,hB2⟩
      ·have HE:Hid (R=0):=by rw[hE,hn,htw,hlo,hhi,decide_eq_false hlh,if_neg h6];rfl
       clear hn htw hlo hhi hE;go_enter Tryz.func112,Tryz.ntmps112
       go_wp2_with fail
       refine (zFE _ HTS.out _).mono ?_;rintro e w1 ⟨rfl,hb1⟩;rw[HN.out];have hB1:Below w.heap.size w w1:=(zAA _ _).trans (hb1.mono (by simp))
       have d0:w1.cell? ⟨w.heap.size,0,none⟩=some (.string t.name):=(hb1.cell (by simp)).trans (by simp)
       have d1:w1.cell? ⟨w.heap.size,1,none⟩=some (.int .i64 t.lo):=(hb1.cell (by simp)).trans (by simp)
       have d2:w1.cell? ⟨w.heap.size,2,none⟩=some (.int .i64 t.hi):=(hb1.cell (by simp)).trans (by simp)
       have hs1:w.heap.size+1≤w1.heap.size:=by simpa using hb1.size
       clear hb1;go_wp2_with fail
       refine (zBr (vs.take k) _ w.heap.size t.name _ (VArg.below hB1 HTAKE.out) d0).mono ?_;rintro e w2 ⟨rfl,hb2⟩;rw[HTW.out];have hB2:Below w.heap.size w w2:=hB1.trans (hb2.mono (by omega))
       have e1:w2.cell? ⟨w.heap.size,1,none⟩=some (.int .i64 t.lo):=(hb2.cell (p:=⟨w.heap.size,1,none⟩) (by simp only;omega)).trans d1
       have e2:w2.cell? ⟨w.heap.size,2,none⟩=some (.int .i64 t.hi):=(hb2.cell (p:=⟨w.heap.size,2,none⟩) (by simp only;omega)).trans d2
       clear hb2 d0 d1 d2;go_wp2_with fail
       refine (zBO _ 50 (by omega) (by omega) _).mono ?_
       rintro e w2 ⟨rfl,rfl⟩;rw[HLO.out];go_wp2_with fail
       refine (zBO _ 50 (by omega) (by omega) _).mono ?_
       rintro e w2 ⟨rfl,rfl⟩;rw[HHI.out];go_wp2
       go_ret
       exact⟨zAI HE.out.symm,hB2⟩
  ·have HE:Hid (R=6):=by rw[hE,hn,htw];rfl
   have HTW:Hid (zC1 (vs.take k) t.name=true):=htw;clear hn htw hE;go_enter Tryz.func112,Tryz.ntmps112
   go_wp2_with fail
   refine (zFE _ HTS.out _).mono ?_;rintro e w1 ⟨rfl,hb1⟩;rw[HN.out];have hB1:Below w.heap.size w w1:=(zAA _ _).trans (hb1.mono (by simp))
   have d0:w1.cell? ⟨w.heap.size,0,none⟩=some (.string t.name):=(hb1.cell (by simp)).trans (by simp)
   have d1:w1.cell? ⟨w.heap.size,1,none⟩=some (.int .i64 t.lo):=(hb1.cell (by simp)).trans (by simp)
   have d2:w1.cell? ⟨w.heap.size,2,none⟩=some (.int .i64 t.hi):=(hb1.cell (by simp)).trans (by simp)
   have hs1:w.heap.size+1≤w1.heap.size:=by simpa using hb1.size
   clear hb1;go_wp2_with fail
   refine (zBr (vs.take k) _ w.heap.size t.name _ (VArg.below hB1 HTAKE.out) d0).mono ?_;rintro e w2 ⟨rfl,hb2⟩;rw[HTW.out];have hB2:Below w.heap.size w w2:=hB1.trans (hb2.mono (by omega))
   have e1:w2.cell? ⟨w.heap.size,1,none⟩=some (.int .i64 t.lo):=(hb2.cell (p:=⟨w.heap.size,1,none⟩) (by simp only;omega)).trans d1
   have e2:w2.cell? ⟨w.heap.size,2,none⟩=some (.int .i64 t.hi):=(hb2.cell (p:=⟨w.heap.size,2,none⟩) (by simp only;omega)).trans d2
   clear hb2 d0 d1 d2;go_wp2
   go_ret
   exact⟨zAI HE.out.symm,hB2⟩
theorem zCx {α:Type} (p:α→Bool) (l:List α) (m:Nat) (t:α) (ht:l[m]? = some t) (h:p t=false):l.all p=false:=by
 cases ha:l.all p
 ·rfl
 ·rw[List.all_eq_true.1 ha t (List.mem_of_getElem? ht)] at h;cases h
theorem zCj {α:Type} (p:α→Bool) (l:List α) (m:Nat) (t:α) (ht:l[m]? = some t) (h0:(l.take m).all p=true) (h:p t=true):(l.take (m+1)).all p=true:=by
 rw[List.take_add_one,ht,List.all_append,h0];simp[h]
theorem zDf {α:Type} (p:α→Bool) (l:List α) (m:Nat) (h:¬m<l.length) (h0:(l.take m).all p=true):l.all p=true:=by
 rwa [List.take_of_length_le (by omega)] at h0
theorem zCq (v n:Int) (w:World) :
 Calls Tryz.prog 186 #[.int .i64 v,.int .i64 n] w fun e w'=>e=.returned (.bool (zBd v n))∧w'=w:=by
 unfold zBd;go_enter Tryz.func186,Tryz.ntmps186
 go_wp2
 ·go_ret;exact⟨zAD (by simp[*]),rfl⟩
 ·go_ret;exact⟨zAD (by rw[decide_eq_false (p:=0≤v) (by omega)];rfl),rfl⟩
theorem zCZ (n:Int) (w:World) :
 Calls Tryz.prog 244 #[.int .i64 n] w fun e w'=>e=.returned (.bool (zAT n))∧w'=w:=by
 unfold zAT;go_enter Tryz.func244,Tryz.ntmps244
 go_wp2_with fail
 refine (zBO _ 1000 (by omega) (by omega) _).mono ?_
 rintro e w ⟨rfl,rfl⟩;go_wp2
 go_ret
 exact⟨rfl,rfl⟩
theorem zDo (l:List Int) (v:Value) (w:World) (hv:IArg w v l) :
 Calls Tryz.prog 243 #[v] w fun e w'=>e=.returned (.bool (l.all zAT))∧w'=w:=by
 obtain⟨a,c,rfl,hm,hr⟩:=hv;have HV:Hid (∀(i:Nat) (z:Int),l[i]? = some z→∃b off,a=some ⟨b,off,none⟩∧b<w.heap.size∧w.cell? ⟨b,off+i,none⟩=some (.int .i64 z)):=hr;obtain⟨R,hR⟩:∃R,l.all zAT=R:=⟨_,rfl⟩;rw[hR];have HR:Hid (l.all zAT=R):=hR;unfold maxLen at hm;obtain⟨hm1,hm⟩:=hm;clear hr hR;go_enter Tryz.func243,Tryz.ntmps243
 go_wp2_with fail
 go_loop [7] (fun i=>∃m:Nat,m≤l.length∧i=.int .i64 m∧Hid ((l.take m).all zAT=true)) (fun i=>l.length - (intOf i).toNat)
 case atStart=>exact⟨0,by omega,rfl,rfl⟩
 case round =>
  obtain⟨m,hml,rfl,hall⟩:=hrel;by_cases hlt:m<l.length
  ·obtain⟨z,hz⟩:∃z,l[m]? = some z:=⟨l[m],by simp[hlt]⟩
   obtain⟨b,off,ha,hb,hc⟩:=HV.out m z hz;have HZ:Hid (l[m]? = some z):=hz;subst ha;clear hz;cases hq:zAT z
   ·have HN:Hid (R=false):=by rw[←HR.out];exact zCx _ l m z HZ.out hq
    go_wp2_with fail
    refine (zCZ _ _).mono ?_;rintro e w ⟨rfl,rfl⟩;rw[hq];clear hq;go_wp2
    go_ret
    exact⟨zAD HN.out.symm,rfl⟩
   ·have HN:Hid ((l.take (m+1)).all zAT=true):=zCj _ l m z HZ.out hall.out hq
    go_wp2_with fail
    refine (zCZ _ _).mono ?_;rintro e w ⟨rfl,rfl⟩;rw[hq];clear hq;go_wp2
    go_round
    case rel=>exact⟨m+1,by omega,by go_num,HN⟩
    case measure=>simp[intOf];omega
  ·have HN:Hid (R=true):=by rw[←HR.out];exact zDf _ l m hlt hall.out
   go_wp2
   go_ret
   exact⟨zAD HN.out.symm,rfl⟩
theorem zQV (l:List (List Int)) (v:Value) (n:Nat) (w:World) (hv:RArg w v l) :
 Calls Tryz.prog 242 #[v,.int .i64 n] w fun e w'=>e=.returned (.bool (l.all fun r=>decide (r.length=n)))∧w'=w:=by
 obtain⟨a,c,rfl,hm,hr⟩:=hv;have HV:Hid (∀(i:Nat) (r:List Int),l[i]? = some r→∃b off x,a=some ⟨b,off,none⟩∧b<w.heap.size∧w.cell? ⟨b,off+i,none⟩=some x∧IArg w x r):=hr;obtain⟨R,hR⟩:∃R,(l.all fun r=>decide (r.length=n))=R:=⟨_,rfl⟩
 rw[hR];have HR:Hid ((l.all fun r=>decide (r.length=n))=R):=hR
 unfold maxLen at hm;obtain⟨hm1,hm⟩:=hm;clear hr hR;go_enter Tryz.func242,Tryz.ntmps242
 go_wp2_with fail
 go_loop [9] (fun i=>∃m:Nat,m≤l.length∧i=.int .i64 m∧Hid ((l.take m).all (fun r=>decide (r.length=n))=true)) (fun i=>l.length - (intOf i).toNat)
 case atStart=>exact⟨0,by omega,rfl,rfl⟩
 case round =>
  obtain⟨m,hml,rfl,hall⟩:=hrel;by_cases hlt:m<l.length
  ·obtain⟨z,hz⟩:∃z,l[m]? = some z:=⟨l[m],by simp[hlt]⟩
   obtain⟨b,off,x,ha,hb,hc,hx⟩:=HV.out m z hz;obtain⟨a2,c2,rfl,hm2,_⟩:=hx;have HZ:Hid (l[m]? = some z):=hz;subst ha;clear hz hm2;by_cases hq:z.length=n
   ·have HN:Hid ((l.take (m+1)).all (fun r=>decide (r.length=n))=true):=zCj _ l m z HZ.out hall.out (decide_eq_true hq)
    have hq2:((z.length:Int) != (n:Int))=false:=by simp[hq]
    clear hq;go_wp2
    go_round
    case rel=>exact⟨m+1,by omega,by go_num,HN⟩
    case measure=>simp[intOf];omega
   ·have HN:Hid (R=false):=by rw[←HR.out];exact zCx _ l m z HZ.out (decide_eq_false hq)
    have hq2:((z.length:Int) != (n:Int))=true:=by simp;omega
    clear hq;go_wp2
    go_ret
    exact⟨zAD HN.out.symm,rfl⟩
  ·have HN:Hid (R=true):=by rw[←HR.out];exact zDf _ l m hlt hall.out
   go_wp2
   go_ret
   exact⟨zAD HN.out.symm,rfl⟩
def opB (l:MLit):Bool:=decide (1≤l.op)&&decide (l.op≤4)
theorem zQW (l:List MLit) (v:Value) (w:World) (hv:LArg w v l) :
 Calls Tryz.prog 185 #[v] w fun e w'=>e=.returned (.int .i64 (zNW l))∧Below w.heap.size w w':=by
 obtain⟨a,c,rfl,hm,hr⟩:=hv;have HV:Hid (∀(i:Nat) (t:MLit),l[i]? = some t→∃b off,a=some ⟨b,off,none⟩∧b<w.heap.size ∧
  w.cell? ⟨b,off+i * 3,none⟩=some (.int .i64 t.var)∧w.cell? ⟨b,off+i * 3+1,none⟩=some (.int .i64 t.op)∧w.cell? ⟨b,off+i * 3+2,none⟩=some (.int .i64 t.n)):=hr
 obtain⟨R,hR⟩:∃R,zNW l=R:=⟨_,rfl⟩;rw[hR];have hE:R=(if l.all opB then (if l.all (fun t=>zAT t.n) then 0 else 3) else 7):=by rw[←hR];rfl
 have HE:Hid (R=(if l.all opB then (if l.all (fun t=>zAT t.n) then 0 else 3) else 7)):=hE
 unfold maxLen at hm;obtain⟨hm1,hm⟩:=hm;clear hr hR hE;go_enter Tryz.func185,Tryz.ntmps185
 go_wp2_with fail
 go_loopw [9] (fun i wr=>∃m:Nat,m≤l.length∧i=.int .i64 m∧Hid ((l.take m).all opB=true)∧Below w.heap.size w wr) (fun i _=>l.length - (intOf i).toNat)
 case atStart=>exact⟨0,by omega,rfl,rfl,Below.refl _ _⟩
 case round =>
  obtain⟨m,hml,rfl,hall,hbw⟩:=hrel;by_cases hlt:m<l.length
  ·obtain⟨t,hz⟩:∃z,l[m]? = some z:=⟨l[m],by simp[hlt]⟩
   obtain⟨b,off,ha,hb,c0,c1,c2⟩:=HV.out m t hz;have HZ:Hid (l[m]? = some t):=hz;have hc0:=(hbw.cell (p:=⟨b,off+m * 3,none⟩) hb).trans c0;have hc1:=(hbw.cell (p:=⟨b,off+m * 3+1,none⟩) hb).trans c1;have hc2:=(hbw.cell (p:=⟨b,off+m * 3+2,none⟩) hb).trans c2;have hsz:=hbw.size;subst ha;clear hz c0 c1 c2;by_cases h1:1≤t.op
   ·by_cases h4:t.op≤4
    ·have HN:Hid ((l.take (m+1)).all opB=true):=zCj _ l m t HZ.out hall.out (by unfold opB;rw[decide_eq_true h1,decide_eq_true h4];rfl)
     go_wp2
     go_roundw
     case rel=>exact⟨m+1,by omega,by go_num,HN,hbw.alloc hsz _⟩
     case measure=>simp[intOf];omega
    ·have HN:Hid (R=7):=by rw[HE.out,zCx opB l m t HZ.out (by unfold opB;rw[decide_eq_true h1,decide_eq_false h4];rfl)];rfl
     go_wp2
     go_ret
     exact⟨zAI HN.out.symm,hbw.alloc hsz _⟩
   ·have HN:Hid (R=7):=by rw[HE.out,zCx opB l m t HZ.out (by unfold opB;rw[decide_eq_false h1];rfl)];rfl
    go_wp2
    go_ret
    exact⟨zAI HN.out.symm,hbw.alloc hsz _⟩
  ·have HOP:Hid (l.all opB=true):=zDf _ l m hlt hall.out
   have hsz:=hbw.size;obtain⟨wo,rfl⟩:∃wo:World,wo=wr:=⟨_,rfl⟩;go_wp2
   go_loopw [24] (fun i wr=>∃m:Nat,m≤l.length∧i=.int .i64 m∧Hid ((l.take m).all (fun t=>zAT t.n)=true)∧Below w.heap.size w wr) (fun i _=>l.length - (intOf i).toNat)
   case atStart=>exact⟨0,by omega,rfl,rfl,hbw⟩
   case round =>
    clear hbw hsz hall hml hlt;obtain⟨m,hml,rfl,hall,hbw⟩:=hrel;by_cases hlt:m<l.length
    ·obtain⟨t,hz⟩:∃z,l[m]? = some z:=⟨l[m],by simp[hlt]⟩
     obtain⟨b,off,ha,hb,c0,c1,c2⟩:=HV.out m t hz;have HZ:Hid (l[m]? = some t):=hz;have hc0:=(hbw.cell (p:=⟨b,off+m * 3,none⟩) hb).trans c0;have hc1:=(hbw.cell (p:=⟨b,off+m * 3+1,none⟩) hb).trans c1;have hc2:=(hbw.cell (p:=⟨b,off+m * 3+2,none⟩) hb).trans c2;have hsz:=hbw.size;subst ha;clear hz c0 c1 c2;cases hq:zAT t.n
     ·have HN:Hid (R=3):=by rw[HE.out,HOP.out,zCx (fun t:MLit=>zAT t.n) l m t HZ.out hq];rfl
      go_wp2_with fail
      refine (zCZ _ _).mono ?_;rintro e w2 ⟨rfl,hw2⟩;rw[hq,hw2];clear hq hw2;go_wp2
      go_ret
      exact⟨zAI HN.out.symm,hbw.alloc hsz _⟩
     ·have HN:Hid ((l.take (m+1)).all (fun t=>zAT t.n)=true):=zCj _ l m t HZ.out hall.out hq
      go_wp2_with fail
      refine (zCZ _ _).mono ?_;rintro e w2 ⟨rfl,hw2⟩;rw[hq,hw2];clear hq hw2;go_wp2
      go_roundw
      case rel=>exact⟨m+1,by omega,by go_num,HN,hbw.alloc hsz _⟩
      case measure=>simp[intOf];omega
    ·have HN:Hid (R=0):=by rw[HE.out,HOP.out,zDf _ l m hlt hall.out];rfl
     go_wp2
     go_ret
     exact⟨zAI HN.out.symm,hbw⟩
theorem zFc (c:MCon) (vv vc vr vl:Value) (w:World) (hk:KArg w vv vc vr vl c) :
 Calls Tryz.prog 181 #[conV vv vc vr vl c] w fun e w'=>e=.returned (.bool (zFa c))∧Below w.heap.size w w':=by
 obtain⟨⟨a1,c1,rfl,hm1,hr1⟩,⟨a2,c2,rfl,hm2,hr2⟩,⟨a3,c3,rfl,hm3,hr3⟩,⟨a4,c4,rfl,hm4,hr4⟩⟩:=hk;clear hr1 hr2 hr3 hr4 hm1 hm2 hm3 hm4;unfold conV zFa;by_cases h1:4<c.vars.length
 ·rw[decide_eq_true h1]
  go_enter Tryz.func181,Tryz.ntmps181
  go_wp2
  go_ret
  exact⟨zAD (by first | (simp;done) | (rw[Bool.eq_iff_iff];simp;omega)),zAA _ _⟩
 ·rw[decide_eq_false h1]
  by_cases h2:4<c.lits.length
  ·rw[decide_eq_true h2]
   go_enter Tryz.func181,Tryz.ntmps181
   go_wp2
   go_ret
   exact⟨zAD (by first | (simp;done) | (rw[Bool.eq_iff_iff];simp;omega)),zAA _ _⟩
  ·rw[decide_eq_false h2]
   by_cases h3:8<c.consts.length
   ·rw[decide_eq_true h3]
    go_enter Tryz.func181,Tryz.ntmps181
    go_wp2
    go_ret
    exact⟨zAD (by first | (simp;done) | (rw[Bool.eq_iff_iff];simp;omega)),zAA _ _⟩
   ·rw[decide_eq_false h3]
    go_enter Tryz.func181,Tryz.ntmps181
    go_wp2
    go_ret
    exact⟨zAD (by first | (simp;done) | (rw[Bool.eq_iff_iff];simp;omega)),zAA _ _⟩
theorem zJX (c:MCon) (n:Int) (vv vc vr vl:Value) (w:World) (hk:KArg w vv vc vr vl c) :
 Calls Tryz.prog 183 #[conV vv vc vr vl c,.int .i64 n] w fun e w'=>e=.returned (.bool (zHF c n))∧Below w.heap.size w w':=by
 obtain⟨⟨a1,c1,rfl,hm1,hr1⟩,_,_,⟨a4,c4,rfl,hm4,hr4⟩⟩:=hk;have HI:Hid (∀(i:Nat) (z:Int),c.vars[i]? = some z→∃b off,a1=some ⟨b,off,none⟩∧b<w.heap.size∧w.cell? ⟨b,off+i,none⟩=some (.int .i64 z)):=hr1;have HL:Hid (∀(i:Nat) (t:MLit),c.lits[i]? = some t→∃b off,a4=some ⟨b,off,none⟩∧b<w.heap.size ∧
  w.cell? ⟨b,off+i * 3,none⟩=some (.int .i64 t.var)∧w.cell? ⟨b,off+i * 3+1,none⟩=some (.int .i64 t.op)∧w.cell? ⟨b,off+i * 3+2,none⟩=some (.int .i64 t.n)):=hr4
 obtain⟨R,hR⟩:∃R,zHF c n=R:=⟨_,rfl⟩;rw[hR];have HE:Hid (R=(c.vars.all (fun v=>zBd v n)&&c.lits.all (fun l=>zBd l.var n))):=by rw[←hR];rfl
 unfold maxLen at hm1 hm4;obtain⟨hm11,hm1⟩:=hm1;obtain⟨hm41,hm4⟩:=hm4;clear hr1 hr4 hR;unfold conV;go_enter Tryz.func183,Tryz.ntmps183
 go_wp2_with fail
 obtain⟨w0,hw0⟩:∃w0:World,w0=w.alloc (.cells #[.int .i64 c.kind,.slice a1 c.vars.length c1,vc,.int .i64 c.n,vr,.slice a4 c.lits.length c4] 69):=⟨_,rfl⟩;rw[←hw0];have hb0:Below w.heap.size w w0:=by rw[hw0];exact zAA _ _
 have hc5:w0.cell? ⟨w.heap.size,5,none⟩=some (.slice a4 c.lits.length c4):=by rw[hw0];simp
 have hs0:w0.heap.size=w.heap.size+1:=by rw[hw0];simp
 have HS0:Hid (w0.heap.size=w.heap.size+1):=hs0;clear hw0 hs0;go_loopw [12] (fun i wr=>∃m:Nat,m≤c.vars.length∧i=.int .i64 m∧Hid ((c.vars.take m).all (fun v=>zBd v n)=true)∧wr=w0) (fun i _=>c.vars.length - (intOf i).toNat)
 case atStart=>exact⟨0,by omega,rfl,rfl,rfl⟩
 case round =>
  obtain⟨m,hml,rfl,hall,rfl⟩:=hrel;by_cases hlt:m<c.vars.length
  ·obtain⟨z,hz⟩:∃z,c.vars[m]? = some z:=⟨c.vars[m],by simp[hlt]⟩
   obtain⟨b,off,ha,hb,hc⟩:=HI.out m z hz;have hcr:=(hb0.cell (p:=⟨b,off+m,none⟩) hb).trans hc;have HZ:Hid (c.vars[m]? = some z):=hz;subst ha;clear hz hc;cases hq:zBd z n
   ·have HN:Hid (R=false):=by rw[HE.out,zCx (fun v=>zBd v n) c.vars m z HZ.out hq];rfl
    go_wp2_with fail
    refine (zCq _ _ _).mono ?_;rintro e w2 ⟨rfl,hw2⟩;rw[hq,hw2];clear hq hw2;go_wp2
    go_ret
    exact⟨zAD HN.out.symm,hb0⟩
   ·have HN:Hid ((c.vars.take (m+1)).all (fun v=>zBd v n)=true):=zCj _ c.vars m z HZ.out hall.out hq
    go_wp2_with fail
    refine (zCq _ _ _).mono ?_;rintro e w2 ⟨rfl,hw2⟩;rw[hq,hw2];clear hq hw2;go_wp2
    go_roundw
    case rel=>exact⟨m+1,by omega,by go_num,HN,by first | rfl | trivial⟩
    case measure=>simp[intOf];omega
  ·have HV:Hid (c.vars.all (fun v=>zBd v n)=true):=zDf _ c.vars m hlt hall.out
   obtain⟨wo,rfl⟩:∃wo:World,wo=wr:=⟨_,rfl⟩;go_wp2
   clear hml hall hlt;go_loopw [24] (fun i wr=>∃m:Nat,m≤c.lits.length∧i=.int .i64 m∧Hid ((c.lits.take m).all (fun l=>zBd l.var n)=true)∧Below w.heap.size w wr) (fun i _=>c.lits.length - (intOf i).toNat)
   case atStart=>exact⟨0,by omega,rfl,rfl,hb0⟩
   case round =>
    obtain⟨m,hml,rfl,hall,hbw⟩:=hrel;by_cases hlt:m<c.lits.length
    ·obtain⟨t,hz⟩:∃z,c.lits[m]? = some z:=⟨c.lits[m],by simp[hlt]⟩
     obtain⟨b,off,ha,hb,d0,d1,d2⟩:=HL.out m t hz;have hd0:=(hbw.cell (p:=⟨b,off+m * 3,none⟩) hb).trans d0;have hd1:=(hbw.cell (p:=⟨b,off+m * 3+1,none⟩) hb).trans d1;have hd2:=(hbw.cell (p:=⟨b,off+m * 3+2,none⟩) hb).trans d2;have HZ:Hid (c.lits[m]? = some t):=hz;have hsz:=hbw.size;subst ha;clear hz d0 d1 d2;cases hq:zBd t.var n
     ·have HN:Hid (R=false):=by rw[HE.out,HV.out,zCx (fun l:MLit=>zBd l.var n) c.lits m t HZ.out hq];rfl
      go_wp2_with fail
      refine (zCq _ _ _).mono ?_;rintro e w2 ⟨rfl,hw2⟩;rw[hq,hw2];clear hq hw2;go_wp2
      go_ret
      exact⟨zAD HN.out.symm,hbw.alloc hsz _⟩
     ·have HN:Hid ((c.lits.take (m+1)).all (fun l=>zBd l.var n)=true):=zCj _ c.lits m t HZ.out hall.out hq
      go_wp2_with fail
      refine (zCq _ _ _).mono ?_;rintro e w2 ⟨rfl,hw2⟩;rw[hq,hw2];clear hq hw2;go_wp2
      go_roundw
      case rel=>exact⟨m+1,by omega,by go_num,HN,hbw.alloc hsz _⟩
      case measure=>simp[intOf];omega
    ·have HN:Hid (R=true):=by rw[HE.out,HV.out,zDf _ c.lits m hlt hall.out];rfl
     go_wp2
     go_ret
     exact⟨zAD HN.out.symm,hbw⟩
end Go.Proofs.YtndcpnlaadikoaaGreatDoor
