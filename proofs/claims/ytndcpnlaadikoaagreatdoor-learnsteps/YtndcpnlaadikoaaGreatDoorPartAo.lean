/- What the proof leans on, part 15. -/
import Derived.Test.YtndcpnlaadikoaaGreatDoorPartAj
import Derived.Test.YtndcpnlaadikoaaGreatDoorPartAn
import Derived.Laws.ShiftsVarLaws
import Derived.Deep.RegionHeld3
namespace Go.Proofs.YtndcpnlaadikoaaGreatDoor
open Go.RowKit
theorem zGA {vs:List MVar} {v:Nat} (h:v<vs.length):vs[v]? = some (zAH vs v):=by
 unfold zAH;rw[List.getD_eq_getElem?_getD,List.getElem?_eq_getElem h];rfl
theorem zNY (c:Int) (k:Nat) (h:c=(k:Int)) (hk:k<64):IntKind.u64.wrap (2 ^ c.toNat)=((2 ^ k:Nat):Int):=by
 rw[IntKind.wrap_u64,h,Int.toNat_natCast]
 have h1:(2:Nat) ^ k<2 ^ 64:=Nat.pow_lt_pow_right (by omega) hk
 have e:((2:Int) ^ k)=((2 ^ k:Nat):Int):=by simp
 rw[e]
 exact Int.emod_eq_of_lt (Int.natCast_nonneg _) (Int.ofNat_lt.2 h1)
set_option maxHeartbeats 400000 in
set_option maxRecDepth 100000 in
theorem zLL (vs:List MVar) (hvo:zAb vs) (v:Nat) (x:Int) (sv:Value) (w:World) (hv:VArg w sv vs) (hl:v<vs.length) (h1:(zAH vs v).lo≤x) (h2:x≤(zAH vs v).hi) (h3:-50≤(zAH vs v).lo∧(zAH vs v).hi≤50) :
 Calls Tryz.prog 197 #[sv,.int .i64 v,.int .i64 x] w fun e w'=>e=.returned (.int .u64 ((2 ^ (6 * v+(x - (zAH vs v).lo).toNat):Nat):Int))∧w'=w:=by
 obtain⟨a,c,rfl,hm,hr⟩:=hv
 obtain⟨_,b,off,rfl,hb,c0,c1,c2⟩:=hr v _ (zGA hl)
 unfold maxLen at hm
 obtain⟨hm1,hm⟩:=hm
 have h6:=hvo.1
 have hs:=hvo.2 v
 unfold zAu at hs
 obtain⟨lo,hlo⟩:∃lo,(zAH vs v).lo=lo:=⟨_,rfl⟩
 rw[hlo] at h1 h3 hs c1 ⊢
 have HK:Hid (IntKind.u64.wrap (2 ^ ((v:Int) * 6+x - lo).toNat)=((2 ^ (6 * v+(x - lo).toNat):Nat):Int)):=zNY _ _ (by omega) (by omega)
 have hsh:(0:Int)≤(v:Int) * 6+x - lo:=by omega
 have hsl:(v:Int) * 6+x - lo≤64:=by omega
 clear hr hs hlo
 go_enter Tryz.func197,Tryz.ntmps197
 go_wp2
 go_ret
 exact⟨zAI HK.out,rfl⟩
def zN0 (F:Nat) (caps:Array Value) (vs:List MVar) (p:Nat→Int→Bool) (w:World):Prop :=
 (∀(args:Array Value) (w':World),Sem.run Tryz.prog (callFunc F args) w'=.ok (.enter F args) w') ∧
 ∀(k:Nat) (z:Int) (w':World),k<vs.length→(zAH vs k).lo≤z→z≤(zAH vs k).hi→Below w.heap.size w w'→Calls Tryz.prog F (#[.int .i64 k,.int .i64 z]++caps) w' fun e w''=>e=.returned (.bool (p k z))∧Below w'.heap.size w' w''
def zAU (vs:List MVar):Prop:=zAb vs∧∀v:Nat,v<vs.length→-50≤(zAH vs v).lo∧(zAH vs v).hi≤50∧(zAH vs v).lo≤(zAH vs v).hi
theorem zCx (m:Mod) (hm:zAP m=0):zAU m.vars:=⟨zBt m hm,fun v hv=>by
 have:=zJI m hm v _ (zGA hv)
 omega⟩
theorem zFK {a b:Nat} (ha:a<2 ^ 36) (hb:b<2 ^ 36):a ||| b<2 ^ 36:=Nat.or_lt_two_pow ha hb
theorem zGs (vs:List MVar) (hv:zAU vs) (v k:Nat) (h:v<vs.length) (hk:k<zAu (zAH vs v)):2 ^ (6 * v+k)<2 ^ 36:=by
 have h1:=hv.1.1
 have h2:=hv.1.2 v
 exact Nat.pow_lt_pow_right (by omega) (by omega)
theorem zMZ (vs:List MVar) (hv:zAU vs) (f:Int→Bool) (v k:Nat) (h:v<vs.length) (hk:k≤zAu (zAH vs v)):rowP f (6 * v) (zAH vs v).lo k<2 ^ 36:=by
 have h1:=hv.1.1
 have h2:=hv.1.2 v
 apply Nat.lt_pow_two_of_testBit
 intro i hi
 rw[zBr]
 have:¬(i<6 * v+k):=by omega
 simp[this]
theorem zLM (f:Int→Bool) (b:Nat) (lo:Int) (k:Nat) (h:f (lo+(k:Int))=false):rowP f b lo (k+1)=rowP f b lo k:=by
 show (if f (lo+(k:Int)) then _ else _)=_
 rw[h];rfl
theorem zMa (f:Int→Bool) (b:Nat) (lo:Int) (k:Nat) (h:f (lo+(k:Int))=true):rowP f b lo (k+1)=rowP f b lo k ||| 2 ^ (b+k):=by
 show (if f (lo+(k:Int)) then _ else _)=_
 rw[h];rfl
set_option maxHeartbeats 800000 in
set_option maxRecDepth 100000 in
theorem zNC (F:Nat) (caps:Array Value) (vs:List MVar) (p:Nat→Int→Bool) (hva:zAU vs) (sv:Value) (w:World) (hv:VArg w sv vs) (hF:zN0 F caps vs p w) :
 Calls Tryz.prog 143 #[sv,.func (.func F) #[] caps] w fun e w'=>e=.returned (.int .u64 ((ofP vs p:Nat):Int))∧Below w.heap.size w w':=by
 have HVA:Hid (∀w':World,Below w.heap.size w w'→VArg w' sv vs):=fun w' h=>VArg.below h hv
 obtain⟨a,c,rfl,hm,hr⟩:=hv
 have HV:Hid (∀(i:Nat) (t:MVar),vs[i]? = some t→t.name.size≤maxLen∧∃b off,a=some ⟨b,off,none⟩∧b<w.heap.size ∧
  w.cell? ⟨b,off+i * 3,none⟩=some (.string t.name)∧w.cell? ⟨b,off+i * 3+1,none⟩=some (.int .i64 t.lo)∧w.cell? ⟨b,off+i * 3+2,none⟩=some (.int .i64 t.hi)):=hr
 have HF:Hid (zN0 F caps vs p w):=hF
 have HVO:Hid (zAU vs):=hva
 have h6:=hva.1.1
 unfold maxLen at hm
 obtain⟨hm1,hm⟩:=hm
 clear hr hF hva
 go_enter Tryz.func143,Tryz.ntmps143
 go_wp2_with fail
 go_loopw [5,11] (fun o i wr=>∃k:Nat,k≤vs.length∧i=.int .i64 k∧o=.int .u64 ((ofN vs p k:Nat):Int)∧Below w.heap.size w wr) (fun _ i _=>vs.length - (intOf i).toNat)
 case atStart=>exact⟨0,by omega,rfl,rfl,Below.refl _ _⟩
 case round =>
  obtain⟨k,hk,rfl,rfl,hbw⟩:=hrel
  have HBW:Hid (Below w.heap.size w wr):=hbw
  clear hbw
  by_cases hlt:k<vs.length
  ·obtain⟨hnm,b,off,ha,hb,q0,q1,q2⟩:=HV.out k _ (zGA hlt)
   subst ha
   have hbn:=HVO.out.2 k hlt
   have hsz:=HVO.out.1.2 k
   have HSZ:Hid (zAu (zAH vs k)=((zAH vs k).hi+1 - (zAH vs k).lo).toNat):=rfl
   obtain⟨n,hn⟩:∃n,zAu (zAH vs k)=n:=⟨_,rfl⟩
   have HN:Hid (zAu (zAH vs k)=n):=hn
   have hnn:(n:Int)=(zAH vs k).hi+1 - (zAH vs k).lo:=by
    have:=HSZ.out
    omega
   have hn6:n≤6:=by omega
   have hc0:=(HBW.out.cell (p:=⟨b,off+k * 3,none⟩) hb).trans q0
   have hc1:=(HBW.out.cell (p:=⟨b,off+k * 3+1,none⟩) hb).trans q1
   have hc2:=(HBW.out.cell (p:=⟨b,off+k * 3+2,none⟩) hb).trans q2
   obtain⟨lo,hlo⟩:∃lo,(zAH vs k).lo=lo:=⟨_,rfl⟩
   obtain⟨hi,hhi⟩:∃hi,(zAH vs k).hi=hi:=⟨_,rfl⟩
   have HLO:Hid ((zAH vs k).lo=lo):=hlo
   have HHI:Hid ((zAH vs k).hi=hi):=hhi
   rw[hlo] at hc1 hbn hnn
   rw[hhi] at hc2 hbn hnn
   obtain⟨nm,hnm2⟩:∃nm,(zAH vs k).name=nm:=⟨_,rfl⟩
   rw[hnm2] at hc0
   have HO:Hid (ofN vs p (k+1)=ofN vs p k ||| rowP (p k) (6 * k) lo n):=by show _=_;rw[←hlo,←hn];rfl
   have HO36:Hid (ofN vs p k<2 ^ 36):=zNB vs HVO.out.1 p k (by omega)
   have HROW:Hid (∀j,j≤n→rowP (p k) (6 * k) lo j<2 ^ 36):=fun j hj=>by rw[←hlo];exact zMZ vs HVO.out (p k) k j hlt (by omega)
   have HPOW:Hid (∀j,j<n→2 ^ (6 * k+j)<2 ^ 36):=fun j hj=>zGs vs HVO.out k j hlt (by omega)
   clear q0 q1 q2 hsz hn hlo hhi hnm hnm2 HSZ
   have hbs:=HBW.out.size
   obtain⟨B,hB⟩:∃B,wr.heap.size=B:=⟨_,rfl⟩
   obtain⟨o0,ho0⟩:∃o0,ofN vs p k=o0:=⟨_,rfl⟩
   have HO0:Hid (ofN vs p k=o0):=ho0
   rw[ho0] at HO HO36 ⊢
   clear ho0
   have HVO2:Hid (zAb vs):=HVO.out.1
   have hlk:(zAH vs k).lo=lo:=HLO.out
   have HONE:Hid (∀(j:Nat) (w':World),j<n→Below w.heap.size w w'→Calls Tryz.prog 197 #[.slice (some ⟨b,off,none⟩) vs.length c,.int .i64 k,.int .i64 (lo+(j:Int))] w' fun e w''=>e=.returned (.int .u64 ((2 ^ (6 * k+j):Nat):Int))∧w''=w'):=by
    intro j w' hj hb'
    have h1:=zLL vs HVO2.out k (lo+(j:Int)) _ w' (HVA.out w' hb') hlt (by rw[HLO.out];omega) (by rw[HHI.out];omega) (by rw[HLO.out,HHI.out];omega)
    rw[HLO.out,show (lo+(j:Int) - lo).toNat=j by omega] at h1
    exact h1
   have HCLO:Hid (∀(j:Nat) (w':World),j<n→Below w.heap.size w w'→Calls Tryz.prog F (#[.int .i64 k,.int .i64 (lo+(j:Int))]++caps) w' fun e w''=>e=.returned (.bool (p k (lo+(j:Int))))∧Below w'.heap.size w' w''):=by
    intro j w' hj hb'
    exact HF.out.2 k _ w' hlt (by rw[HLO.out];omega) (by rw[HHI.out];omega) hb'
   clear hlk
   go_wp2_with fail
   have HB:Hid (wr.heap.size=B):=hB
   have HB0:Hid (Below w.heap.size w (wr.alloc (.cells #[.string nm,.int .i64 lo,.int .i64 hi] 67))):=HBW.out.alloc hbs _
   have HC2:Hid ((wr.alloc (.cells #[.string nm,.int .i64 lo,.int .i64 hi] 67)).cell? ⟨B,2,none⟩=some (.int .i64 hi)):=by show _=_;rw[←hB];exact World.cell?_alloc_at _ _ _ 2 (by simp)
   have HW:Hid (w.heap.size≤B):=by rw[←hB];exact hbs
   obtain⟨W1,hW1⟩:∃W1,wr.alloc (.cells #[.string nm,.int .i64 lo,.int .i64 hi] 67)=W1:=⟨_,rfl⟩
   rw[hW1] at HB0 HC2 ⊢
   have HW1:Hid (W1.heap.size=B+1):=by show _=_;rw[←hW1,←hB];simp
   clear hc0 hc1 hc2 hB hW1 hbs
   go_loopw [5,8] (fun o i wr=>∃j:Nat,j≤n∧i=.int .i64 (lo+(j:Int))∧o=.int .u64 ((o0 ||| rowP (p k) (6 * k) lo j:Nat):Int)∧Below W1.heap.size W1 wr) (fun _ i _=>(hi+1 - intOf i).toNat)
   case atStart=>exact⟨0,by omega,by simp,by simp[rowP],Below.refl _ _⟩
   case round =>
    obtain⟨j,hj,rfl,rfl,hbw2⟩:=hrel
    have hcc:=(hbw2.cell (p:=⟨B,2,none⟩) (by rw[HW1.out];simp)).trans HC2.out
    have HBN:Hid (Below w.heap.size w wr):=HB0.out.trans (hbw2.mono (by rw[HW1.out];have:=HW.out;omega))
    have HBW2:Hid (Below W1.heap.size W1 wr):=hbw2
    clear hbw2
    by_cases hlj:j<n
    ·have hle:lo+(j:Int)≤hi:=by omega
     have HCALL:=HCLO.out j wr hlj HBN.out
     cases hq:p k (lo+(j:Int))
     ·have HNX:Hid (rowP (p k) (6 * k) lo (j+1)=rowP (p k) (6 * k) lo j):=zLM _ _ _ _ hq
      obtain⟨q,hqq⟩:∃q,o0 ||| rowP (p k) (6 * k) lo j=q:=⟨_,rfl⟩
      have HQ:Hid (o0 ||| rowP (p k) (6 * k) lo j=q):=hqq
      rw[hqq]
      have HC3:Hid (Calls Tryz.prog F (#[.int .i64 k,.int .i64 (lo+(j:Int))]++caps) wr fun e w''=>e=.returned (.bool false)∧Below wr.heap.size wr w''):=by rw[←hq];exact HCALL
      clear hqq HCALL hq
      go_wp2_with fail
      rw[HF.out.1,Oper.upon_enter]
      refine HC3.out.mono ?_
      rintro e w1 ⟨rfl,hb1⟩
      have HB3:Hid (Below W1.heap.size W1 w1):=HBW2.out.trans (hb1.mono HBW2.out.size)
      clear hb1 hcc
      go_wp2
      go_roundw
      case rel=>exact⟨j+1,by omega,by go_num,by rw[HNX.out,HQ.out],HB3.out⟩
      case measure=>simp[intOf];omega
     ·have HNX:Hid (rowP (p k) (6 * k) lo (j+1)=rowP (p k) (6 * k) lo j ||| 2 ^ (6 * k+j)):=zMa _ _ _ _ hq
      obtain⟨q,hqq⟩:∃q,o0 ||| rowP (p k) (6 * k) lo j=q:=⟨_,rfl⟩
      have hq36:q<2 ^ 36:=by rw[←hqq];exact zFK HO36.out (HROW.out j hj)
      have hp36:=HPOW.out j hlj
      have HQ:Hid (o0 ||| rowP (p k) (6 * k) lo (j+1)=q ||| 2 ^ (6 * k+j)):=by show _=_;rw[HNX.out,←hqq,Nat.or_assoc]
      rw[hqq]
      have HC3:Hid (Calls Tryz.prog F (#[.int .i64 k,.int .i64 (lo+(j:Int))]++caps) wr fun e w''=>e=.returned (.bool true)∧Below wr.heap.size wr w''):=by rw[←hq];exact HCALL
      have HO1:=HONE
      obtain⟨t,ht⟩:∃t,2 ^ (6 * k+j)=t:=⟨_,rfl⟩
      have HT:Hid (2 ^ (6 * k+j)=t):=ht
      rw[ht] at HQ hp36
      have hor:=bits_or_u64_nat q t (by omega) (by omega)
      clear hqq HCALL hq ht hq36 hp36
      go_wp2_with fail
      rw[HF.out.1,Oper.upon_enter]
      refine HC3.out.mono ?_
      rintro e w1 ⟨rfl,hb1⟩
      have HB3:Hid (Below W1.heap.size W1 w1):=HBW2.out.trans (hb1.mono HBW2.out.size)
      have HBN3:Hid (Below w.heap.size w w1):=HBN.out.trans (hb1.mono HBN.out.size)
      clear hb1 hcc
      go_wp2_with fail
      refine (HONE.out j w1 hlj HBN3.out).mono ?_
      rintro e w2 ⟨rfl,rfl⟩
      rw[HT.out]
      go_wp2
      go_roundw
      case rel=>exact⟨j+1,by omega,by go_num,by rw[HQ.out],HB3.out⟩
      case measure=>simp[intOf];omega
    ·have hle:¬(lo+(j:Int)≤hi):=by omega
     have hjn:j=n:=by omega
     have HNX:Hid (o0 ||| rowP (p k) (6 * k) lo j=ofN vs p (k+1)):=by show _=_;rw[HO.out,hjn]
     clear hjn
     obtain⟨q,hqq⟩:∃q,o0 ||| rowP (p k) (6 * k) lo j=q:=⟨_,rfl⟩
     rw[hqq] at HNX ⊢
     clear hqq
     go_wp2
     go_roundw
     case rel=>exact⟨k+1,by omega,by go_num,by rw[HNX.out],HBN.out⟩
     case measure=>simp[intOf];omega
  ·have hke:k=vs.length:=by omega
   subst hke
   go_wp2
   go_ret
   exact⟨rfl,HBW.out⟩
theorem zNZ (p k:Nat) (hp:p<2 ^ 36):bits .and .u64 ((p:Int) / 2 ^ (k * 6)) 63=((p / 2 ^ (k * 6) &&& 63:Nat):Int):=by
 have e2:(p:Int) / 2 ^ (k * 6)=((p / 2 ^ (k * 6):Nat):Int):=by simp
 rw[e2]
 have h1:p / 2 ^ (k * 6)≤p:=Nat.div_le_self _ _
 exact bits_and_u64_nat _ 63 (by omega) (by omega)
theorem zJW (n p k:Nat) (h:k<n) (h0:p / 2 ^ (k * 6) &&& 63=0):zA7 n p=true:=by
 unfold zA7
 exact List.any_eq_true.2 ⟨k,List.mem_range.2 h,by simp[h0]⟩
theorem zLN (n p:Nat) (h:∀k,k<n→p / 2 ^ (k * 6) &&& 63≠0):zA7 n p=false:=by
 cases hl:zA7 n p
 ·rfl
 ·unfold zA7 at hl
  obtain⟨v,hv,hb⟩:=List.any_eq_true.1 hl
  exact absurd (by simpa using hb) (h v (List.mem_range.1 hv))
set_option maxHeartbeats 400000 in
set_option maxRecDepth 100000 in
theorem zFL (vs:List MVar) (hn:vs.length≤6) (p:Nat) (hp:p<2 ^ 36) (sv:Value) (w:World) (hv:VArg w sv vs) :
 Calls Tryz.prog 194 #[sv,.int .u64 p] w fun e w'=>e=.returned (.bool (zA7 vs.length p))∧w'=w:=by
 obtain⟨a,c,rfl,hm,_⟩:=hv
 unfold maxLen at hm
 obtain⟨hm1,hm⟩:=hm
 obtain⟨R,hR⟩:∃R,zA7 vs.length p=R:=⟨_,rfl⟩
 rw[hR]
 have HR:Hid (zA7 vs.length p=R):=hR
 clear hR
 have HP:Hid (p<2 ^ 36):=hp
 clear hp
 go_enter Tryz.func194,Tryz.ntmps194
 go_wp2_with fail
 go_loopw [8] (fun i wr=>∃k:Nat,k≤vs.length∧i=.int .i64 k∧Hid (∀j,j<k→p / 2 ^ (j * 6) &&& 63≠0)∧wr=w) (fun i _=>vs.length - (intOf i).toNat)
 case atStart=>exact⟨0,by omega,rfl,fun j h=>by omega,rfl⟩
 case round =>
  obtain⟨k,hk,rfl,hall,rfl⟩:=hrel
  by_cases hlt:k<vs.length
  ·obtain⟨q,hq⟩:∃q,p / 2 ^ (k * 6) &&& 63=q:=⟨_,rfl⟩
   have hb:=zNZ p k HP.out
   rw[hq] at hb
   have HQ:Hid (p / 2 ^ (k * 6) &&& 63=q):=hq
   clear hq
   have h2:(0:Int)≤(k:Int) * 6:=by omega
   by_cases h0:q=0
   ·have HN:Hid (R=true):=by show _=_;rw[←HR.out];exact zJW _ _ k hlt (by rw[HQ.out];exact h0)
    subst h0
    go_wp2
    go_ret
    exact⟨zAB HN.out.symm,rfl⟩
   ·have HN:Hid (∀j,j<k+1→p / 2 ^ (j * 6) &&& 63≠0):=fun j hj=>by
     by_cases hjk:j=k
     ·subst hjk;rw[HQ.out];exact h0
     ·exact hall.out j (by omega)
    have h0':((q:Int)==0)=false:=by simpa using h0
    clear hall
    go_wp2
    go_roundw
    case rel=>exact⟨k+1,by omega,by go_num,HN,trivial⟩
    case measure=>simp[intOf];omega
  ·have hke:k=vs.length:=by omega
   have HN:Hid (R=false):=by show _=_;rw[←HR.out];exact zLN _ _ (by rw[←hke];exact hall.out)
   clear hall hke
   go_wp2
   go_ret
   exact⟨zAB HN.out.symm,rfl⟩
theorem zIk {α:Type} (p:α→Bool) (l:List α) (m:Nat) (t:α) (ht:l[m]? = some t) (h:p t=true):l.any p=true:=List.any_eq_true.2 ⟨t,List.mem_of_getElem? ht,h⟩
theorem zGt {α:Type} (p:α→Bool) (l:List α) (m:Nat) (t:α) (ht:l[m]? = some t) (h0:(l.take m).any p=false) (h:p t=false):(l.take (m+1)).any p=false:=by
 rw[List.take_add_one,ht,List.any_append,h0];simp[h]
theorem zIl {α:Type} (p:α→Bool) (l:List α) (m:Nat) (h:¬m<l.length) (h0:(l.take m).any p=false):l.any p=false:=by
 rwa [List.take_of_length_le (by omega)] at h0
def GArg (w:World) (v:Value) (l:List Sto):Prop :=
 ∃a c,v=.slice a l.length c∧(l.length≤c∧c≤maxLen)∧∀(i:Nat) (r:Sto),l[i]? = some r→∃b off x,a=some ⟨b,off,none⟩∧b<w.heap.size∧w.cell? ⟨b,off+i,none⟩=some x∧RArg w x r
theorem GArg.below {w w':World} {v:Value} {l:List Sto} (hb:Below w.heap.size w w') (h:GArg w v l):GArg w' v l:=by
 obtain⟨a,c,hv,hm,hr⟩:=h
 refine⟨a,c,hv,hm,fun i z hz=>?_⟩
 obtain⟨b,off,x,ha,hlt,hc,hx⟩:=hr i z hz
 exact⟨b,off,x,ha,Nat.lt_of_lt_of_le hlt hb.size,(hb.cell (p:=⟨b,off+i,none⟩) hlt).trans hc,RArg.below hb hx⟩
set_option maxHeartbeats 400000 in
theorem zKI (x y:Value) (w:World):Calls Tryz.prog 232 #[x,y] w fun e w'=>e=.returned (.bool true)∧Below w.heap.size w w':=by
 go_enter Tryz.func232,Tryz.ntmps232
 go_wp2
 go_ret
 exact⟨rfl,Below.refl _ _⟩
theorem zHe (args:Array Value) (w':World):Sem.run Tryz.prog (callFunc 232 args) w'=.ok (.enter 232 args) w':=by
 simp[callFunc,go_sem,Tryz.func232,Tryz.f232]
set_option maxHeartbeats 400000 in
theorem zD7 (vs:List MVar) (hva:zAU vs) (sv:Value) (w:World) (hv:VArg w sv vs) :
 Calls Tryz.prog 147 #[sv] w fun e w'=>e=.returned (.int .u64 ((zAC vs:Nat):Int))∧Below w.heap.size w w':=by
 have HV:Hid (VArg w sv vs):=hv
 have HVO:Hid (zAU vs):=hva
 obtain⟨a,c,rfl,_,_⟩:=hv
 clear hva
 go_enter Tryz.func147,Tryz.ntmps147
 go_wp2_with fail
 refine (zNC 232 #[] vs (fun _ _=>true) HVO.out _ _ HV.out ⟨zHe,fun k z w' _ _ _ _=>zKI _ _ w'⟩).mono ?_
 rintro e w1 ⟨rfl,hb1⟩
 go_wp2
 go_ret
 exact⟨rfl,hb1⟩
set_option maxHeartbeats 400000 in
theorem zMb (c:Cla) (k:Nat) (z:Int) (u:Value) (b1:Nat) (w:World) (hu:LArg w u c) (h1:w.cell? ⟨b1,0,none⟩=some u) :
 Calls Tryz.prog 144 #[.int .i64 k,.int .i64 z,.pointer (some ⟨b1,0,none⟩)] w fun e w'=>e=.returned (.bool (oneB c k z))∧Below w.heap.size w w':=by
 have HU:Hid (LArg w u c):=hu
 obtain⟨a,cc,rfl,_,_⟩:=hu
 go_enter Tryz.func144,Tryz.ntmps144
 go_wp2_with fail
 refine (zNy c k z _ _ HU.out).mono ?_
 rintro e w1 ⟨rfl,hb1⟩
 go_wp2
 go_ret
 exact⟨rfl,hb1⟩
theorem zIm (args:Array Value) (w':World):Sem.run Tryz.prog (callFunc 144 args) w'=.ok (.enter 144 args) w':=by
 simp[callFunc,go_sem,Tryz.func144,Tryz.f144]
set_option maxHeartbeats 400000 in
theorem zD8 (vs:List MVar) (hva:zAU vs) (cl:Cla) (sv u:Value) (w:World) (hv:VArg w sv vs) (hu:LArg w u cl) :
 Calls Tryz.prog 85 #[sv,u] w fun e w'=>e=.returned (.int .u64 ((zAF vs cl:Nat):Int))∧Below w.heap.size w w':=by
 have HV:Hid (∀w',Below w.heap.size w w'→VArg w' sv vs):=fun w' h=>VArg.below h hv
 have HU:Hid (∀w',Below w.heap.size w w'→LArg w' u cl):=fun w' h=>LArg.below h hu
 have HVO:Hid (zAU vs):=hva
 obtain⟨a,c,rfl,_,_⟩:=hv
 obtain⟨a2,c2,rfl,_,_⟩:=hu
 clear hva
 go_enter Tryz.func85,Tryz.ntmps85
 go_wp2_with fail
 refine (zNC 144 _ vs (fun v x=>oneB cl v x) HVO.out _ _ (HV.out _ (zAA _ _)) ⟨zIm,fun k z w' hk _ _ hb'=>?_⟩).mono ?_
 ·exact zMb cl k z _ w.heap.size w' (HU.out _ ((zAA _ _).trans (hb'.mono (by simp)))) ((hb'.cell (by simp)).trans (World.cell?_alloc_at _ _ _ 0 (by simp)))
 rintro e w1 ⟨rfl,hb1⟩
 have hb2:Below w.heap.size w w1:=(zAA _ _).trans (hb1.mono (by simp))
 clear hb1
 go_wp2
 go_ret
 exact⟨rfl,hb2⟩
def PArg (w:World) (v:Value) (l:List Nat):Prop :=
 ∃a c,v=.slice a l.length c∧(l.length≤c∧c≤maxLen)∧∀(i z:Nat),l[i]? = some z→z<2 ^ 36∧∃b off,a=some ⟨b,off,none⟩∧b<w.heap.size∧w.cell? ⟨b,off+i,none⟩=some (.int .u64 z)
theorem PArg.below {w w':World} {v:Value} {l:List Nat} (hb:Below w.heap.size w w') (h:PArg w v l):PArg w' v l:=by
 obtain⟨a,c,hv,hm,hr⟩:=h
 refine⟨a,c,hv,hm,fun i z hz=>?_⟩
 obtain⟨hz36,b,off,ha,hlt,hc⟩:=hr i z hz
 exact⟨hz36,b,off,ha,Nat.lt_of_lt_of_le hlt hb.size,(hb.cell (p:=⟨b,off+i,none⟩) hlt).trans hc⟩
set_option maxHeartbeats 400000 in
theorem zHf (p h:Nat) (hp:p<2 ^ 36) (hh:h<2 ^ 36) (b1:Nat) (w:World) (h1:w.cell? ⟨b1,0,none⟩=some (.int .u64 h)) :
 Calls Tryz.prog 193 #[.int .u64 p,.pointer (some ⟨b1,0,none⟩)] w fun e w'=>e=.returned (.bool (zCR h p))∧w'=w:=by
 have hb:=bits_and_u64_nat p h (by omega) (by omega)
 have HN:Hid (zCR h p=(((p &&& h:Nat):Int)==0)):=by
  show _=_
  unfold zCR
  by_cases h0:p &&& h=0
  ·simp[h0]
  ·have:(((p &&& h:Nat):Int)==0)=false:=by simpa using h0
   rw[this];simpa using h0
 rw[HN.out]
 obtain⟨q,hq⟩:∃q,p &&& h=q:=⟨_,rfl⟩
 rw[hq] at hb ⊢
 clear hq hp hh
 go_enter Tryz.func193,Tryz.ntmps193
 go_wp2
 go_ret
 exact⟨rfl,rfl⟩
set_option maxHeartbeats 400000 in
set_option maxRecDepth 100000 in
theorem zHg (h:Nat) (hh:h<2 ^ 36) (b1:Nat) (l:List Nat) (v:Value) (w:World) (hv:PArg w v l) (h1:w.cell? ⟨b1,0,none⟩=some (.int .u64 h)) :
 Calls Tryz.prog 252 #[v,.func (.func 193) #[] #[.pointer (some ⟨b1,0,none⟩)]] w fun e w'=>(∃z:Int,e=.returned (.int .i64 z)∧(decide (0≤z))=l.any (zCR h))∧w'=w:=by
 obtain⟨a,c,rfl,hm,hr⟩:=hv
 have HV:Hid (∀(i z:Nat),l[i]? = some z→z<2 ^ 36∧∃b off,a=some ⟨b,off,none⟩∧b<w.heap.size∧w.cell? ⟨b,off+i,none⟩=some (.int .u64 z)):=hr
 have HH:Hid (h<2 ^ 36):=hh
 unfold maxLen at hm
 obtain⟨hm1,hm⟩:=hm
 clear hr hh
 go_enter Tryz.func252,Tryz.ntmps252
 go_wp2_with fail
 go_loopw [8] (fun i wr=>∃k:Nat,k≤l.length∧i=.int .i64 k∧Hid ((l.take k).any (zCR h)=false)∧wr=w) (fun i _=>l.length - (intOf i).toNat)
 case atStart=>exact⟨0,by omega,rfl,rfl,rfl⟩
 case round =>
  obtain⟨k,hk,rfl,hall,rfl⟩:=hrel
  by_cases hlt:k<l.length
  ·obtain⟨z,hz⟩:∃z,l[k]? = some z:=⟨l[k],by simp[hlt]⟩
   obtain⟨hz36,b,off,ha,hb,hc⟩:=HV.out k z hz
   subst ha
   have HZ:Hid (l[k]? = some z):=hz
   have HZ36:Hid (z<2 ^ 36):=hz36
   clear hz hz36
   cases hq:zCR h z
   ·have HN:Hid ((l.take (k+1)).any (zCR h)=false):=by show _=_;rw[List.take_add_one,HZ.out,List.any_append,hall.out];simp[hq]
    have HC:=zHf z h HZ36.out HH.out b1 wr h1
    rw[hq] at HC
    have HC2:Hid (Calls Tryz.prog 193 #[.int .u64 z,.pointer (some ⟨b1,0,none⟩)] wr fun e w'=>e=.returned (.bool false)∧w'=wr):=HC
    clear HC hq hall
    go_wp2_with fail
    refine HC2.out.mono ?_
    rintro e w ⟨rfl,rfl⟩
    go_wp2
    go_roundw
    case rel=>exact⟨k+1,by omega,by go_num,HN,trivial⟩
    case measure=>simp[intOf];omega
   ·have HN:Hid (l.any (zCR h)=true):=List.any_eq_true.2 ⟨z,List.mem_of_getElem? HZ.out,hq⟩
    have HC:=zHf z h HZ36.out HH.out b1 wr h1
    rw[hq] at HC
    have HC2:Hid (Calls Tryz.prog 193 #[.int .u64 z,.pointer (some ⟨b1,0,none⟩)] wr fun e w'=>e=.returned (.bool true)∧w'=wr):=HC
    clear HC hq hall
    go_wp2_with fail
    refine HC2.out.mono ?_
    rintro e w ⟨rfl,rfl⟩
    go_wp2
    go_ret
    exact⟨⟨k,rfl,by rw[HN.out];simp⟩,rfl⟩
  ·have hke:k=l.length:=by omega
   have HN:Hid (l.any (zCR h)=false):=by have:=hall.out;rw[hke,List.take_length] at this;exact this
   clear hall hke
   go_wp2
   go_ret
   exact⟨⟨-1,rfl,by rw[HN.out];simp⟩,rfl⟩
set_option maxHeartbeats 400000 in
theorem zFM (h:Nat) (hh:h<2 ^ 36) (b1:Nat) (l:List Nat) (v:Value) (w:World) (hv:PArg w v l) (h1:w.cell? ⟨b1,0,none⟩=some (.int .u64 h)) :
 Calls Tryz.prog 195 #[v,.func (.func 193) #[] #[.pointer (some ⟨b1,0,none⟩)]] w fun e w'=>e=.returned (.bool (l.any (zCR h)))∧w'=w:=by
 have HV:Hid (PArg w v l):=hv
 have HH:Hid (h<2 ^ 36):=hh
 obtain⟨a,c,rfl,_,_⟩:=hv
 clear hh
 go_enter Tryz.func195,Tryz.ntmps195
 go_wp2_with fail
 refine (zHg h HH.out b1 l _ _ HV.out h1).mono ?_
 rintro e w ⟨⟨z,rfl,hz⟩,rfl⟩
 have HZ:Hid (decide (0≤z)=l.any (zCR h)):=hz
 clear hz
 go_wp2
 go_ret
 exact⟨zAB HZ.out,rfl⟩
end Go.Proofs.YtndcpnlaadikoaaGreatDoor
