/- What the proof leans on, part 4. -/
import Derived.Test.YtndcpnlaadikoaaGreatDoorPartAc
import Derived.Deep.QuietTactic
import Derived.BigQuiet
namespace Go.Proofs.YtndcpnlaadikoaaGreatDoor
open Go.RowKit
theorem zDA {α:Type} (p:α→Bool) (l:List α) (m:Nat) (t:α) (ht:l[m]? = some t) (h:p t=false):l.all p=false:=by
 cases ha:l.all p
 ·rfl
 ·rw[List.all_eq_true.1 ha t (List.mem_of_getElem? ht)] at h;cases h
theorem zCw {α:Type} (p:α→Bool) (l:List α) (m:Nat) (t:α) (ht:l[m]? = some t) (h0:(l.take m).all p=true) (h:p t=true):(l.take (m+1)).all p=true:=by
 rw[List.take_add_one,ht,List.all_append,h0];simp[h]
theorem zDf {α:Type} (p:α→Bool) (l:List α) (m:Nat) (h:¬m<l.length) (h0:(l.take m).all p=true):l.all p=true:=by
 rwa [List.take_of_length_le (by omega)] at h0
set_option maxHeartbeats 400000 in
theorem zBy (v n:Int) (w:World) :
 Calls Tryz.prog 186 #[.int .i64 v,.int .i64 n] w fun e w'=>e=.returned (.bool (zBJ v n))∧w'=w:=by
 unfold zBJ
 go_enter Tryz.func186,Tryz.ntmps186
 go_wp2
 ·go_ret;exact⟨zAB (by simp[*]),rfl⟩
 ·go_ret;exact⟨zAB (by rw[decide_eq_false (p:=0≤v) (by omega)];rfl),rfl⟩
set_option maxHeartbeats 400000 in
theorem zBn (n:Int) (w:World) :
 Calls Tryz.prog 244 #[.int .i64 n] w fun e w'=>e=.returned (.bool (zAM n))∧w'=w:=by
 unfold zAM
 go_enter Tryz.func244,Tryz.ntmps244
 go_wp2_with fail
 refine (zA2 _ 1000 (by omega) (by omega) _).mono ?_
 rintro e w ⟨rfl,rfl⟩
 go_wp2
 go_ret
 exact⟨rfl,rfl⟩
set_option maxHeartbeats 400000 in
set_option maxRecDepth 100000 in
theorem zCn (l:List Int) (v:Value) (w:World) (hv:IArg w v l) :
 Calls Tryz.prog 243 #[v] w fun e w'=>e=.returned (.bool (l.all zAM))∧w'=w:=by
 obtain⟨a,c,rfl,hm,hr⟩:=hv
 have HV:Hid (∀(i:Nat) (z:Int),l[i]? = some z→∃b off,a=some ⟨b,off,none⟩∧b<w.heap.size∧w.cell? ⟨b,off+i,none⟩=some (.int .i64 z)):=hr
 obtain⟨R,hR⟩:∃R,l.all zAM=R:=⟨_,rfl⟩
 rw[hR]
 have HR:Hid (l.all zAM=R):=hR
 unfold maxLen at hm
 obtain⟨hm1,hm⟩:=hm
 clear hr hR
 go_enter Tryz.func243,Tryz.ntmps243
 go_wp2_with fail
 go_loop [7] (fun i=>∃m:Nat,m≤l.length∧i=.int .i64 m∧Hid ((l.take m).all zAM=true)) (fun i=>l.length - (intOf i).toNat)
 case atStart=>exact⟨0,by omega,rfl,rfl⟩
 case round =>
  obtain⟨m,hml,rfl,hall⟩:=hrel
  by_cases hlt:m<l.length
  ·obtain⟨z,hz⟩:∃z,l[m]? = some z:=⟨l[m],by simp[hlt]⟩
   obtain⟨b,off,ha,hb,hc⟩:=HV.out m z hz
   have HZ:Hid (l[m]? = some z):=hz
   subst ha
   clear hz
   cases hq:zAM z
   ·have HN:Hid (R=false):=by rw[←HR.out];exact zDA _ l m z HZ.out hq
    go_wp2_with fail
    refine (zBn _ _).mono ?_
    rintro e w ⟨rfl,rfl⟩
    rw[hq]
    clear hq
    go_wp2
    go_ret
    exact⟨zAB HN.out.symm,rfl⟩
   ·have HN:Hid ((l.take (m+1)).all zAM=true):=zCw _ l m z HZ.out hall.out hq
    go_wp2_with fail
    refine (zBn _ _).mono ?_
    rintro e w ⟨rfl,rfl⟩
    rw[hq]
    clear hq
    go_wp2
    go_round
    case rel=>exact⟨m+1,by omega,by go_num,HN⟩
    case measure=>simp[intOf];omega
  ·have HN:Hid (R=true):=by rw[←HR.out];exact zDf _ l m hlt hall.out
   go_wp2
   go_ret
   exact⟨zAB HN.out.symm,rfl⟩
set_option maxHeartbeats 400000 in
set_option maxRecDepth 100000 in
theorem zMB (l:List (List Int)) (v:Value) (n:Nat) (w:World) (hv:RArg w v l) :
 Calls Tryz.prog 242 #[v,.int .i64 n] w fun e w'=>e=.returned (.bool (l.all fun r=>decide (r.length=n)))∧w'=w:=by
 obtain⟨a,c,rfl,hm,hr⟩:=hv
 have HV:Hid (∀(i:Nat) (r:List Int),l[i]? = some r→∃b off x,a=some ⟨b,off,none⟩∧b<w.heap.size∧w.cell? ⟨b,off+i,none⟩=some x∧IArg w x r):=hr
 obtain⟨R,hR⟩:∃R,(l.all fun r=>decide (r.length=n))=R:=⟨_,rfl⟩
 rw[hR]
 have HR:Hid ((l.all fun r=>decide (r.length=n))=R):=hR
 unfold maxLen at hm
 obtain⟨hm1,hm⟩:=hm
 clear hr hR
 go_enter Tryz.func242,Tryz.ntmps242
 go_wp2_with fail
 go_loop [9] (fun i=>∃m:Nat,m≤l.length∧i=.int .i64 m∧Hid ((l.take m).all (fun r=>decide (r.length=n))=true)) (fun i=>l.length - (intOf i).toNat)
 case atStart=>exact⟨0,by omega,rfl,rfl⟩
 case round =>
  obtain⟨m,hml,rfl,hall⟩:=hrel
  by_cases hlt:m<l.length
  ·obtain⟨z,hz⟩:∃z,l[m]? = some z:=⟨l[m],by simp[hlt]⟩
   obtain⟨b,off,x,ha,hb,hc,hx⟩:=HV.out m z hz
   obtain⟨a2,c2,rfl,hm2,_⟩:=hx
   have HZ:Hid (l[m]? = some z):=hz
   subst ha
   clear hz hm2
   by_cases hq:z.length=n
   ·have HN:Hid ((l.take (m+1)).all (fun r=>decide (r.length=n))=true):=zCw _ l m z HZ.out hall.out (decide_eq_true hq)
    have hq2:((z.length:Int) != (n:Int))=false:=by simp[hq]
    clear hq
    go_wp2
    go_round
    case rel=>exact⟨m+1,by omega,by go_num,HN⟩
    case measure=>simp[intOf];omega
   ·have HN:Hid (R=false):=by rw[←HR.out];exact zDA _ l m z HZ.out (decide_eq_false hq)
    have hq2:((z.length:Int) != (n:Int))=true:=by simp;omega
    clear hq
    go_wp2
    go_ret
    exact⟨zAB HN.out.symm,rfl⟩
  ·have HN:Hid (R=true):=by rw[←HR.out];exact zDf _ l m hlt hall.out
   go_wp2
   go_ret
   exact⟨zAB HN.out.symm,rfl⟩
def opB (l:MLit):Bool:=decide (1≤l.op)&&decide (l.op≤4)
set_option maxHeartbeats 800000 in
set_option maxRecDepth 100000 in
theorem zMC (l:List MLit) (v:Value) (w:World) (hv:LArg w v l) :
 Calls Tryz.prog 185 #[v] w fun e w'=>e=.returned (.int .i64 (zKt l))∧Below w.heap.size w w':=by
 obtain⟨a,c,rfl,hm,hr⟩:=hv
 have HV:Hid (∀(i:Nat) (t:MLit),l[i]? = some t→∃b off,a=some ⟨b,off,none⟩∧b<w.heap.size ∧
  w.cell? ⟨b,off+i * 3,none⟩=some (.int .i64 t.var)∧w.cell? ⟨b,off+i * 3+1,none⟩=some (.int .i64 t.op)∧w.cell? ⟨b,off+i * 3+2,none⟩=some (.int .i64 t.n)):=hr
 obtain⟨R,hR⟩:∃R,zKt l=R:=⟨_,rfl⟩
 rw[hR]
 have hE:R=(if l.all opB then (if l.all (fun t=>zAM t.n) then 0 else 3) else 7):=by rw[←hR];rfl
 have HE:Hid (R=(if l.all opB then (if l.all (fun t=>zAM t.n) then 0 else 3) else 7)):=hE
 unfold maxLen at hm
 obtain⟨hm1,hm⟩:=hm
 clear hr hR hE
 go_enter Tryz.func185,Tryz.ntmps185
 go_wp2_with fail
 go_loopw [9] (fun i wr=>∃m:Nat,m≤l.length∧i=.int .i64 m∧Hid ((l.take m).all opB=true)∧Below w.heap.size w wr) (fun i _=>l.length - (intOf i).toNat)
 case atStart=>exact⟨0,by omega,rfl,rfl,Below.refl _ _⟩
 case round =>
  obtain⟨m,hml,rfl,hall,hbw⟩:=hrel
  by_cases hlt:m<l.length
  ·obtain⟨t,hz⟩:∃z,l[m]? = some z:=⟨l[m],by simp[hlt]⟩
   obtain⟨b,off,ha,hb,c0,c1,c2⟩:=HV.out m t hz
   have HZ:Hid (l[m]? = some t):=hz
   have hc0:=(hbw.cell (p:=⟨b,off+m * 3,none⟩) hb).trans c0
   have hc1:=(hbw.cell (p:=⟨b,off+m * 3+1,none⟩) hb).trans c1
   have hc2:=(hbw.cell (p:=⟨b,off+m * 3+2,none⟩) hb).trans c2
   have hsz:=hbw.size
   subst ha
   clear hz c0 c1 c2
   by_cases h1:1≤t.op
   ·by_cases h4:t.op≤4
    ·have HN:Hid ((l.take (m+1)).all opB=true):=zCw _ l m t HZ.out hall.out (by unfold opB;rw[decide_eq_true h1,decide_eq_true h4];rfl)
     go_wp2
     go_roundw
     case rel=>exact⟨m+1,by omega,by go_num,HN,hbw.alloc hsz _⟩
     case measure=>simp[intOf];omega
    ·have HN:Hid (R=7):=by rw[HE.out,zDA opB l m t HZ.out (by unfold opB;rw[decide_eq_true h1,decide_eq_false h4];rfl)];rfl
     go_wp2
     go_ret
     exact⟨zAI HN.out.symm,hbw.alloc hsz _⟩
   ·have HN:Hid (R=7):=by rw[HE.out,zDA opB l m t HZ.out (by unfold opB;rw[decide_eq_false h1];rfl)];rfl
    go_wp2
    go_ret
    exact⟨zAI HN.out.symm,hbw.alloc hsz _⟩
  ·have HOP:Hid (l.all opB=true):=zDf _ l m hlt hall.out
   have hsz:=hbw.size
   obtain⟨wo,rfl⟩:∃wo:World,wo=wr:=⟨_,rfl⟩
   go_wp2
   go_loopw [24] (fun i wr=>∃m:Nat,m≤l.length∧i=.int .i64 m∧Hid ((l.take m).all (fun t=>zAM t.n)=true)∧Below w.heap.size w wr) (fun i _=>l.length - (intOf i).toNat)
   case atStart=>exact⟨0,by omega,rfl,rfl,hbw⟩
   case round =>
    clear hbw hsz hall hml hlt
    obtain⟨m,hml,rfl,hall,hbw⟩:=hrel
    by_cases hlt:m<l.length
    ·obtain⟨t,hz⟩:∃z,l[m]? = some z:=⟨l[m],by simp[hlt]⟩
     obtain⟨b,off,ha,hb,c0,c1,c2⟩:=HV.out m t hz
     have HZ:Hid (l[m]? = some t):=hz
     have hc0:=(hbw.cell (p:=⟨b,off+m * 3,none⟩) hb).trans c0
     have hc1:=(hbw.cell (p:=⟨b,off+m * 3+1,none⟩) hb).trans c1
     have hc2:=(hbw.cell (p:=⟨b,off+m * 3+2,none⟩) hb).trans c2
     have hsz:=hbw.size
     subst ha
     clear hz c0 c1 c2
     cases hq:zAM t.n
     ·have HN:Hid (R=3):=by rw[HE.out,HOP.out,zDA (fun t:MLit=>zAM t.n) l m t HZ.out hq];rfl
      go_wp2_with fail
      refine (zBn _ _).mono ?_
      rintro e w2 ⟨rfl,hw2⟩
      rw[hq,hw2]
      clear hq hw2
      go_wp2
      go_ret
      exact⟨zAI HN.out.symm,hbw.alloc hsz _⟩
     ·have HN:Hid ((l.take (m+1)).all (fun t=>zAM t.n)=true):=zCw _ l m t HZ.out hall.out hq
      go_wp2_with fail
      refine (zBn _ _).mono ?_
      rintro e w2 ⟨rfl,hw2⟩
      rw[hq,hw2]
      clear hq hw2
      go_wp2
      go_roundw
      case rel=>exact⟨m+1,by omega,by go_num,HN,hbw.alloc hsz _⟩
      case measure=>simp[intOf];omega
    ·have HN:Hid (R=0):=by rw[HE.out,HOP.out,zDf _ l m hlt hall.out];rfl
     go_wp2
     go_ret
     exact⟨zAI HN.out.symm,hbw⟩
set_option maxHeartbeats 800000 in
set_option maxRecDepth 100000 in
theorem zDu (c:MCon) (vv vc vr vl:Value) (w:World) (hk:KArg w vv vc vr vl c) :
 Calls Tryz.prog 181 #[conV vv vc vr vl c] w fun e w'=>e=.returned (.bool (zFA c))∧Below w.heap.size w w':=by
 obtain⟨⟨a1,c1,rfl,hm1,hr1⟩,⟨a2,c2,rfl,hm2,hr2⟩,⟨a3,c3,rfl,hm3,hr3⟩,⟨a4,c4,rfl,hm4,hr4⟩⟩:=hk
 clear hr1 hr2 hr3 hr4 hm1 hm2 hm3 hm4
 unfold conV zFA
 by_cases h1:4<c.vars.length
 ·rw[decide_eq_true h1]
  go_enter Tryz.func181,Tryz.ntmps181
  go_wp2
  go_ret
  exact⟨zAB (by first | (simp;done) | (rw[Bool.eq_iff_iff];simp;omega)),zAA _ _⟩
 ·rw[decide_eq_false h1]
  by_cases h2:4<c.lits.length
  ·rw[decide_eq_true h2]
   go_enter Tryz.func181,Tryz.ntmps181
   go_wp2
   go_ret
   exact⟨zAB (by first | (simp;done) | (rw[Bool.eq_iff_iff];simp;omega)),zAA _ _⟩
  ·rw[decide_eq_false h2]
   by_cases h3:8<c.consts.length
   ·rw[decide_eq_true h3]
    go_enter Tryz.func181,Tryz.ntmps181
    go_wp2
    go_ret
    exact⟨zAB (by first | (simp;done) | (rw[Bool.eq_iff_iff];simp;omega)),zAA _ _⟩
   ·rw[decide_eq_false h3]
    go_enter Tryz.func181,Tryz.ntmps181
    go_wp2
    go_ret
    exact⟨zAB (by first | (simp;done) | (rw[Bool.eq_iff_iff];simp;omega)),zAA _ _⟩
set_option maxHeartbeats 800000 in
set_option maxRecDepth 100000 in
theorem zGf (c:MCon) (n:Int) (vv vc vr vl:Value) (w:World) (hk:KArg w vv vc vr vl c) :
 Calls Tryz.prog 183 #[conV vv vc vr vl c,.int .i64 n] w fun e w'=>e=.returned (.bool (zFs c n))∧Below w.heap.size w w':=by
 obtain⟨⟨a1,c1,rfl,hm1,hr1⟩,_,_,⟨a4,c4,rfl,hm4,hr4⟩⟩:=hk
 have HI:Hid (∀(i:Nat) (z:Int),c.vars[i]? = some z→∃b off,a1=some ⟨b,off,none⟩∧b<w.heap.size∧w.cell? ⟨b,off+i,none⟩=some (.int .i64 z)):=hr1
 have HL:Hid (∀(i:Nat) (t:MLit),c.lits[i]? = some t→∃b off,a4=some ⟨b,off,none⟩∧b<w.heap.size ∧
  w.cell? ⟨b,off+i * 3,none⟩=some (.int .i64 t.var)∧w.cell? ⟨b,off+i * 3+1,none⟩=some (.int .i64 t.op)∧w.cell? ⟨b,off+i * 3+2,none⟩=some (.int .i64 t.n)):=hr4
 obtain⟨R,hR⟩:∃R,zFs c n=R:=⟨_,rfl⟩
 rw[hR]
 have HE:Hid (R=(c.vars.all (fun v=>zBJ v n)&&c.lits.all (fun l=>zBJ l.var n))):=by rw[←hR];rfl
 unfold maxLen at hm1 hm4
 obtain⟨hm11,hm1⟩:=hm1
 obtain⟨hm41,hm4⟩:=hm4
 clear hr1 hr4 hR
 unfold conV
 go_enter Tryz.func183,Tryz.ntmps183
 go_wp2_with fail
 obtain⟨w0,hw0⟩:∃w0:World,w0=w.alloc (.cells #[.int .i64 c.kind,.slice a1 c.vars.length c1,vc,.int .i64 c.n,vr,.slice a4 c.lits.length c4] 69):=⟨_,rfl⟩
 rw[←hw0]
 have hb0:Below w.heap.size w w0:=by rw[hw0];exact zAA _ _
 have hc5:w0.cell? ⟨w.heap.size,5,none⟩=some (.slice a4 c.lits.length c4):=by rw[hw0];simp
 have hs0:w0.heap.size=w.heap.size+1:=by rw[hw0];simp
 have HS0:Hid (w0.heap.size=w.heap.size+1):=hs0
 clear hw0 hs0
 go_loopw [12] (fun i wr=>∃m:Nat,m≤c.vars.length∧i=.int .i64 m∧Hid ((c.vars.take m).all (fun v=>zBJ v n)=true)∧wr=w0) (fun i _=>c.vars.length - (intOf i).toNat)
 case atStart=>exact⟨0,by omega,rfl,rfl,rfl⟩
 case round =>
  obtain⟨m,hml,rfl,hall,rfl⟩:=hrel
  by_cases hlt:m<c.vars.length
  ·obtain⟨z,hz⟩:∃z,c.vars[m]? = some z:=⟨c.vars[m],by simp[hlt]⟩
   obtain⟨b,off,ha,hb,hc⟩:=HI.out m z hz
   have hcr:=(hb0.cell (p:=⟨b,off+m,none⟩) hb).trans hc
   have HZ:Hid (c.vars[m]? = some z):=hz
   subst ha
   clear hz hc
   cases hq:zBJ z n
   ·have HN:Hid (R=false):=by rw[HE.out,zDA (fun v=>zBJ v n) c.vars m z HZ.out hq];rfl
    go_wp2_with fail
    refine (zBy _ _ _).mono ?_
    rintro e w2 ⟨rfl,hw2⟩
    rw[hq,hw2]
    clear hq hw2
    go_wp2
    go_ret
    exact⟨zAB HN.out.symm,hb0⟩
   ·have HN:Hid ((c.vars.take (m+1)).all (fun v=>zBJ v n)=true):=zCw _ c.vars m z HZ.out hall.out hq
    go_wp2_with fail
    refine (zBy _ _ _).mono ?_
    rintro e w2 ⟨rfl,hw2⟩
    rw[hq,hw2]
    clear hq hw2
    go_wp2
    go_roundw
    case rel=>exact⟨m+1,by omega,by go_num,HN,by first | rfl | trivial⟩
    case measure=>simp[intOf];omega
  ·have HV:Hid (c.vars.all (fun v=>zBJ v n)=true):=zDf _ c.vars m hlt hall.out
   obtain⟨wo,rfl⟩:∃wo:World,wo=wr:=⟨_,rfl⟩
   go_wp2
   clear hml hall hlt
   go_loopw [24] (fun i wr=>∃m:Nat,m≤c.lits.length∧i=.int .i64 m∧Hid ((c.lits.take m).all (fun l=>zBJ l.var n)=true)∧Below w.heap.size w wr) (fun i _=>c.lits.length - (intOf i).toNat)
   case atStart=>exact⟨0,by omega,rfl,rfl,hb0⟩
   case round =>
    obtain⟨m,hml,rfl,hall,hbw⟩:=hrel
    by_cases hlt:m<c.lits.length
    ·obtain⟨t,hz⟩:∃z,c.lits[m]? = some z:=⟨c.lits[m],by simp[hlt]⟩
     obtain⟨b,off,ha,hb,d0,d1,d2⟩:=HL.out m t hz
     have hd0:=(hbw.cell (p:=⟨b,off+m * 3,none⟩) hb).trans d0
     have hd1:=(hbw.cell (p:=⟨b,off+m * 3+1,none⟩) hb).trans d1
     have hd2:=(hbw.cell (p:=⟨b,off+m * 3+2,none⟩) hb).trans d2
     have HZ:Hid (c.lits[m]? = some t):=hz
     have hsz:=hbw.size
     subst ha
     clear hz d0 d1 d2
     cases hq:zBJ t.var n
     ·have HN:Hid (R=false):=by rw[HE.out,HV.out,zDA (fun l:MLit=>zBJ l.var n) c.lits m t HZ.out hq];rfl
      go_wp2_with fail
      refine (zBy _ _ _).mono ?_
      rintro e w2 ⟨rfl,hw2⟩
      rw[hq,hw2]
      clear hq hw2
      go_wp2
      go_ret
      exact⟨zAB HN.out.symm,hbw.alloc hsz _⟩
     ·have HN:Hid ((c.lits.take (m+1)).all (fun l=>zBJ l.var n)=true):=zCw _ c.lits m t HZ.out hall.out hq
      go_wp2_with fail
      refine (zBy _ _ _).mono ?_
      rintro e w2 ⟨rfl,hw2⟩
      rw[hq,hw2]
      clear hq hw2
      go_wp2
      go_roundw
      case rel=>exact⟨m+1,by omega,by go_num,HN,hbw.alloc hsz _⟩
      case measure=>simp[intOf];omega
    ·have HN:Hid (R=true):=by rw[HE.out,HV.out,zDf _ c.lits m hlt hall.out];rfl
     go_wp2
     go_ret
     exact⟨zAB HN.out.symm,hbw⟩
end Go.Proofs.YtndcpnlaadikoaaGreatDoor
