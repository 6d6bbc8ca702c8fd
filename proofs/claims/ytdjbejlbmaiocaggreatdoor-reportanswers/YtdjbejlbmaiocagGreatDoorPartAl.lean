/- What the proof leans on, part 12. -/
import Derived.Test.YtdjbejlbmaiocagGreatDoorPartAf
import Derived.Test.YtdjbejlbmaiocagGreatDoorPartAe
import Derived.Test.YtdjbejlbmaiocagGreatDoorPartAi
import Derived.Laws.ShiftsVarLaws
import Derived.Deep.RegionHeld3
import Derived.Laws.OwnMore
set_option maxRecDepth 100000
set_option maxHeartbeats 800000
namespace Go.Proofs.YtdjbejlbmaiocagGreatDoor
open Go.RowKit
theorem zTR (l:MLit) (x z:Int) (b1 b2:Nat) (w:World) (h1:w.cell? ⟨b1,0,none⟩=some (.int .i64 x)) (h2:w.cell? ⟨b2,0,none⟩=some (.int .i64 z)) :
 Calls Tryz.prog 248 #[.agg #[.int .i64 l.var,.int .i64 l.op,.int .i64 l.n],.pointer (some ⟨b1,0,none⟩),.pointer (some ⟨b2,0,none⟩)] w fun e w'=>e=.returned (.bool (decide (l.var=x)&&litV z l))∧Below w.heap.size w w':=by
 have l1:b1<w.heap.size:=World.block_lt_of_cell? w _ h1;have l2:b2<w.heap.size:=World.block_lt_of_cell? w _ h2;by_cases hq:l.var=x
 ·have g0:(l.var==x)=true:=by simpa using hq
  have HN:Hid ((decide (l.var=x)&&litV z l)=litV z l):=by show _=_;rw[decide_eq_true hq];rfl
  rw[HN.out];clear hq;go_enter Tryz.func248,Tryz.ntmps248
  go_wp2_with fail
  refine (zKJ l z _).mono ?_;rintro e w1 ⟨rfl,hb1⟩;have hb2:Below w.heap.size w w1:=(zAA _ _).trans (hb1.mono (by simp))
  clear hb1;go_wp2
  go_ret
  exact⟨rfl,hb2⟩
 ·have g0:(l.var==x)=false:=by simpa using hq
  have HN:Hid ((decide (l.var=x)&&litV z l)=false):=by show _=_;rw[decide_eq_false hq];rfl
  rw[HN.out];clear hq;go_enter Tryz.func248,Tryz.ntmps248
  go_wp2
  go_ret
  exact⟨rfl,zAA _ _⟩
theorem zOe (args:Array Value) (w':World):Sem.run Tryz.prog (callFunc 248 args) w'=.ok (.enter 248 args) w':=by
 simp[callFunc,go_sem,Tryz.func248,Tryz.f248]
theorem zT7 (c:Cla) (k:Nat) (z:Int) (u:Value) (w:World) (hu:LArg w u c) :
 Calls Tryz.prog 189 #[u,.int .i64 k,.int .i64 z] w fun e w'=>e=.returned (.bool (oneB c k z))∧Below w.heap.size w w':=by
 have HUA:Hid (∀w':World,Below w.heap.size w w'→LArg w' u c):=fun w' h=>LArg.below h hu
 obtain⟨a1,c1,rfl,_,_⟩:=hu;go_enter Tryz.func189,Tryz.ntmps189
 go_wp2_with fail
 refine (zFq 248 _ (fun l=>decide (l.var=(k:Int))&&litV z l) c _ _ (HUA.out _ ((zAA _ _).alloc (by simp) _)) ⟨zOe,?_⟩).mono ?_
 ·intro l w' hl hb'
  refine zTR l k z w.heap.size (w.heap.size+1) w' ?_ ?_
  ·exact (hb'.cell (by simp;omega)).trans ((World.cell?_alloc_past _ _ _ (by simp)).trans (World.cell?_alloc_at _ _ _ 0 (by simp)))
  ·exact (hb'.cell (by simp)).trans (World.cell?_alloc_at _ _ _ 0 (by simp))
 rintro e w3 ⟨rfl,hb3⟩;have hb4:Below w.heap.size w w3:=((zAA _ _).alloc (by simp) _).trans (hb3.mono (by simp;omega))
 clear hb3;go_wp2
 go_ret
 exact⟨rfl,hb4⟩
theorem zJe {vs:List MVar} {v:Nat} (h:v<vs.length):vs[v]? = some (zAK vs v):=by
 unfold zAK;rw[List.getD_eq_getElem?_getD,List.getElem?_eq_getElem h];rfl
theorem zTS (c:Int) (k:Nat) (h:c=(k:Int)) (hk:k<64):IntKind.u64.wrap (2 ^ c.toNat)=((2 ^ k:Nat):Int):=by
 rw[IntKind.wrap_u64,h,Int.toNat_natCast];have h1:(2:Nat) ^ k<2 ^ 64:=Nat.pow_lt_pow_right (by omega) hk
 have e:((2:Int) ^ k)=((2 ^ k:Nat):Int):=by simp
 rw[e];exact Int.emod_eq_of_lt (Int.natCast_nonneg _) (Int.ofNat_lt.2 h1)
theorem zP9 (vs:List MVar) (hvo:zAd vs) (v:Nat) (x:Int) (sv:Value) (w:World) (hv:VArg w sv vs) (hl:v<vs.length) (h1:(zAK vs v).lo≤x) (h2:x≤(zAK vs v).hi) (h3:-50≤(zAK vs v).lo∧(zAK vs v).hi≤50) :
 Calls Tryz.prog 186 #[sv,.int .i64 v,.int .i64 x] w fun e w'=>e=.returned (.int .u64 ((2 ^ (6 * v+(x - (zAK vs v).lo).toNat):Nat):Int))∧w'=w:=by
 obtain⟨a,c,rfl,hm,hr⟩:=hv;obtain⟨_,b,off,rfl,hb,c0,c1,c2⟩:=hr v _ (zJe hl);unfold maxLen at hm;obtain⟨hm1,hm⟩:=hm;have h6:=hvo.1;have hs:=hvo.2 v;unfold zB8 at hs;obtain⟨lo,hlo⟩:∃lo,(zAK vs v).lo=lo:=⟨_,rfl⟩;rw[hlo] at h1 h3 hs c1 ⊢;have HK:Hid (IntKind.u64.wrap (2 ^ ((v:Int) * 6+x - lo).toNat)=((2 ^ (6 * v+(x - lo).toNat):Nat):Int)):=zTS _ _ (by omega) (by omega)
 have hsh:(0:Int)≤(v:Int) * 6+x - lo:=by omega
 have hsl:(v:Int) * 6+x - lo≤64:=by omega
 clear hr hs hlo;go_enter Tryz.func186,Tryz.ntmps186
 go_wp2
 go_ret
 exact⟨zAE HK.out,rfl⟩
def zT8 (F:Nat) (caps:Array Value) (vs:List MVar) (p:Nat→Int→Bool) (w:World):Prop :=
 (∀(args:Array Value) (w':World),Sem.run Tryz.prog (callFunc F args) w'=.ok (.enter F args) w') ∧
 ∀(k:Nat) (z:Int) (w':World),k<vs.length→(zAK vs k).lo≤z→z≤(zAK vs k).hi→Below w.heap.size w w'→Calls Tryz.prog F (#[.int .i64 k,.int .i64 z]++caps) w' fun e w''=>e=.returned (.bool (p k z))∧Below w'.heap.size w' w''
def zAW (vs:List MVar):Prop:=zAd vs∧∀v:Nat,v<vs.length→-50≤(zAK vs v).lo∧(zAK vs v).hi≤50∧(zAK vs v).lo≤(zAK vs v).hi
theorem zDY (m:Mod) (hm:zAF m=0):zAW m.vars:=⟨zAg m hm,fun v hv=>by
 have:=zKv m hm v _ (zJe hv);omega⟩
theorem zIG {a b:Nat} (ha:a<2 ^ 36) (hb:b<2 ^ 36):a ||| b<2 ^ 36:=Nat.or_lt_two_pow ha hb
theorem zKO (vs:List MVar) (hv:zAW vs) (v k:Nat) (h:v<vs.length) (hk:k<zB8 (zAK vs v)):2 ^ (6 * v+k)<2 ^ 36:=by
 have h1:=hv.1.1;have h2:=hv.1.2 v;exact Nat.pow_lt_pow_right (by omega) (by omega)
theorem zR7 (vs:List MVar) (hv:zAW vs) (f:Int→Bool) (v k:Nat) (h:v<vs.length) (hk:k≤zB8 (zAK vs v)):rowP f (6 * v) (zAK vs v).lo k<2 ^ 36:=by
 have h1:=hv.1.1;have h2:=hv.1.2 v;apply Nat.lt_pow_two_of_testBit;intro i hi;rw[zDM];have:¬(i<6 * v+k):=by omega
 simp[this]
theorem zQA (f:Int→Bool) (b:Nat) (lo:Int) (k:Nat) (h:f (lo+(k:Int))=false):rowP f b lo (k+1)=rowP f b lo k:=by
 show (if f (lo+(k:Int)) then _ else _)=_
 rw[h];rfl
theorem zR8 (f:Int→Bool) (b:Nat) (lo:Int) (k:Nat) (h:f (lo+(k:Int))=true):rowP f b lo (k+1)=rowP f b lo k ||| 2 ^ (b+k):=by
 show (if f (lo+(k:Int)) then _ else _)=_
 rw[h];rfl
theorem zS7 (F:Nat) (caps:Array Value) (vs:List MVar) (p:Nat→Int→Bool) (hva:zAW vs) (sv:Value) (w:World) (hv:VArg w sv vs) (hF:zT8 F caps vs p w) :
 Calls Tryz.prog 187 #[sv,.func (.func F) #[] caps] w fun e w'=>e=.returned (.int .u64 ((ofP vs p:Nat):Int))∧Below w.heap.size w w':=by
 have HVA:Hid (∀w':World,Below w.heap.size w w'→VArg w' sv vs):=fun w' h=>VArg.below h hv
 obtain⟨a,c,rfl,hm,hr⟩:=hv;have HV:Hid (∀(i:Nat) (t:MVar),vs[i]? = some t→t.name.size≤maxLen∧∃b off,a=some ⟨b,off,none⟩∧b<w.heap.size ∧
  w.cell? ⟨b,off+i * 3,none⟩=some (.string t.name)∧w.cell? ⟨b,off+i * 3+1,none⟩=some (.int .i64 t.lo)∧w.cell? ⟨b,off+i * 3+2,none⟩=some (.int .i64 t.hi)):=hr
 have HF:Hid (zT8 F caps vs p w):=hF;have HVO:Hid (zAW vs):=hva;have h6:=hva.1.1;unfold maxLen at hm;obtain⟨hm1,hm⟩:=hm;clear hr hF hva;go_enter Tryz.func187,Tryz.ntmps187
 go_wp2_with fail
 go_loopw [5,11] (fun o i wr=>∃k:Nat,k≤vs.length∧i=.int .i64 k∧o=.int .u64 ((ofN vs p k:Nat):Int)∧Below w.heap.size w wr) (fun _ i _=>vs.length - (intOf i).toNat)
 case atStart=>exact⟨0,by omega,rfl,rfl,Below.refl _ _⟩
 case round =>
  obtain⟨k,hk,rfl,rfl,hbw⟩:=hrel;have HBW:Hid (Below w.heap.size w wr):=hbw;clear hbw;by_cases hlt:k<vs.length
  ·obtain⟨hnm,b,off,ha,hb,q0,q1,q2⟩:=HV.out k _ (zJe hlt)
   subst ha;have hbn:=HVO.out.2 k hlt;have hsz:=HVO.out.1.2 k;have HSZ:Hid (zB8 (zAK vs k)=((zAK vs k).hi+1 - (zAK vs k).lo).toNat):=rfl;obtain⟨n,hn⟩:∃n,zB8 (zAK vs k)=n:=⟨_,rfl⟩;have HN:Hid (zB8 (zAK vs k)=n):=hn;have hnn:(n:Int)=(zAK vs k).hi+1 - (zAK vs k).lo:=by
    have:=HSZ.out;omega
   have hn6:n≤6:=by omega
   have hc0:=(HBW.out.cell (p:=⟨b,off+k * 3,none⟩) hb).trans q0;have hc1:=(HBW.out.cell (p:=⟨b,off+k * 3+1,none⟩) hb).trans q1;have hc2:=(HBW.out.cell (p:=⟨b,off+k * 3+2,none⟩) hb).trans q2;obtain⟨lo,hlo⟩:∃lo,(zAK vs k).lo=lo:=⟨_,rfl⟩;obtain⟨hi,hhi⟩:∃hi,(zAK vs k).hi=hi:=⟨_,rfl⟩;have HLO:Hid ((zAK vs k).lo=lo):=hlo;have HHI:Hid ((zAK vs k).hi=hi):=hhi;rw[hlo] at hc1 hbn hnn;rw[hhi] at hc2 hbn hnn;obtain⟨nm,hnm2⟩:∃nm,(zAK vs k).name=nm:=⟨_,rfl⟩;rw[hnm2] at hc0;have HO:Hid (ofN vs p (k+1)=ofN vs p k ||| rowP (p k) (6 * k) lo n):=by show _=_;rw[←hlo,←hn];rfl
   have HO36:Hid (ofN vs p k<2 ^ 36):=zS6 vs HVO.out.1 p k (by omega)
   have HROW:Hid (∀j,j≤n→rowP (p k) (6 * k) lo j<2 ^ 36):=fun j hj=>by rw[←hlo];exact zR7 vs HVO.out (p k) k j hlt (by omega)
   have HPOW:Hid (∀j,j<n→2 ^ (6 * k+j)<2 ^ 36):=fun j hj=>zKO vs HVO.out k j hlt (by omega)
   clear q0 q1 q2 hsz hn hlo hhi hnm hnm2 HSZ;have hbs:=HBW.out.size;obtain⟨B,hB⟩:∃B,wr.heap.size=B:=⟨_,rfl⟩;obtain⟨o0,ho0⟩:∃o0,ofN vs p k=o0:=⟨_,rfl⟩;have HO0:Hid (ofN vs p k=o0):=ho0;rw[ho0] at HO HO36 ⊢;clear ho0;have HVO2:Hid (zAd vs):=HVO.out.1;have hlk:(zAK vs k).lo=lo:=HLO.out;have HONE:Hid (∀(j:Nat) (w':World),j<n→Below w.heap.size w w'→Calls Tryz.prog 186 #[.slice (some ⟨b,off,none⟩) vs.length c,.int .i64 k,.int .i64 (lo+(j:Int))] w' fun e w''=>e=.returned (.int .u64 ((2 ^ (6 * k+j):Nat):Int))∧w''=w'):=by
    intro j w' hj hb';have h1:=zP9 vs HVO2.out k (lo+(j:Int)) _ w' (HVA.out w' hb') hlt (by rw[HLO.out];omega) (by rw[HHI.out];omega) (by rw[HLO.out,HHI.out];omega)
    rw[HLO.out,show (lo+(j:Int) - lo).toNat=j by omega] at h1
    exact h1
   have HCLO:Hid (∀(j:Nat) (w':World),j<n→Below w.heap.size w w'→Calls Tryz.prog F (#[.int .i64 k,.int .i64 (lo+(j:Int))]++caps) w' fun e w''=>e=.returned (.bool (p k (lo+(j:Int))))∧Below w'.heap.size w' w''):=by
    intro j w' hj hb';exact HF.out.2 k _ w' hlt (by rw[HLO.out];omega) (by rw[HHI.out];omega) hb'
   clear hlk;go_wp2_with fail
   have HB:Hid (wr.heap.size=B):=hB;have HB0:Hid (Below w.heap.size w (wr.alloc (.cells #[.string nm,.int .i64 lo,.int .i64 hi] 71))):=HBW.out.alloc hbs _;have HC2:Hid ((wr.alloc (.cells #[.string nm,.int .i64 lo,.int .i64 hi] 71)).cell? ⟨B,2,none⟩=some (.int .i64 hi)):=by show _=_;rw[←hB];exact World.cell?_alloc_at _ _ _ 2 (by simp)
   have HW:Hid (w.heap.size≤B):=by rw[←hB];exact hbs
   obtain⟨W1,hW1⟩:∃W1,wr.alloc (.cells #[.string nm,.int .i64 lo,.int .i64 hi] 71)=W1:=⟨_,rfl⟩;rw[hW1] at HB0 HC2 ⊢;have HW1:Hid (W1.heap.size=B+1):=by show _=_;rw[←hW1,←hB];simp
   clear hc0 hc1 hc2 hB hW1 hbs;go_loopw [5,8] (fun o i wr=>∃j:Nat,j≤n∧i=.int .i64 (lo+(j:Int))∧o=.int .u64 ((o0 ||| rowP (p k) (6 * k) lo j:Nat):Int)∧Below W1.heap.size W1 wr) (fun _ i _=>(hi+1 - intOf i).toNat)
   case atStart=>exact⟨0,by omega,by simp,by simp[rowP],Below.refl _ _⟩
   case round =>
    obtain⟨j,hj,rfl,rfl,hbw2⟩:=hrel;have hcc:=(hbw2.cell (p:=⟨B,2,none⟩) (by rw[HW1.out];simp)).trans HC2.out
    have HBN:Hid (Below w.heap.size w wr):=HB0.out.trans (hbw2.mono (by rw[HW1.out];have:=HW.out;omega))
    have HBW2:Hid (Below W1.heap.size W1 wr):=hbw2;clear hbw2;by_cases hlj:j<n
    ·have hle:lo+(j:Int)≤hi:=by omega
     have HCALL:=HCLO.out j wr hlj HBN.out;cases hq:p k (lo+(j:Int))
     ·have HNX:Hid (rowP (p k) (6 * k) lo (j+1)=rowP (p k) (6 * k) lo j):=zQA _ _ _ _ hq
      obtain⟨q,hqq⟩:∃q,o0 ||| rowP (p k) (6 * k) lo j=q:=⟨_,rfl⟩
      have HQ:Hid (o0 ||| rowP (p k) (6 * k) lo j=q):=hqq
      rw[hqq];have HC3:Hid (Calls Tryz.prog F (#[.int .i64 k,.int .i64 (lo+(j:Int))]++caps) wr fun e w''=>e=.returned (.bool false)∧Below wr.heap.size wr w''):=by rw[←hq];exact HCALL
      clear hqq HCALL hq;go_wp2_with fail
      rw[HF.out.1,Oper.upon_enter];refine HC3.out.mono ?_;rintro e w1 ⟨rfl,hb1⟩;have HB3:Hid (Below W1.heap.size W1 w1):=HBW2.out.trans (hb1.mono HBW2.out.size);clear hb1 hcc;go_wp2
      go_roundw
      case rel=>exact⟨j+1,by omega,by go_num,by rw[HNX.out,HQ.out],HB3.out⟩
      case measure=>simp[intOf];omega
     ·have HNX:Hid (rowP (p k) (6 * k) lo (j+1)=rowP (p k) (6 * k) lo j ||| 2 ^ (6 * k+j)):=zR8 _ _ _ _ hq
      obtain⟨q,hqq⟩:∃q,o0 ||| rowP (p k) (6 * k) lo j=q:=⟨_,rfl⟩
      have hq36:q<2 ^ 36:=by rw[←hqq];exact zIG HO36.out (HROW.out j hj)
      have hp36:=HPOW.out j hlj;have HQ:Hid (o0 ||| rowP (p k) (6 * k) lo (j+1)=q ||| 2 ^ (6 * k+j)):=by show _=_;rw[HNX.out,←hqq,Nat.or_assoc]
      rw[hqq];have HC3:Hid (Calls Tryz.prog F (#[.int .i64 k,.int .i64 (lo+(j:Int))]++caps) wr fun e w''=>e=.returned (.bool true)∧Below wr.heap.size wr w''):=by rw[←hq];exact HCALL
      have HO1:=HONE;obtain⟨t,ht⟩:∃t,2 ^ (6 * k+j)=t:=⟨_,rfl⟩;have HT:Hid (2 ^ (6 * k+j)=t):=ht;rw[ht] at HQ hp36;have hor:=bits_or_u64_nat q t (by omega) (by omega)
      clear hqq HCALL hq ht hq36 hp36;go_wp2_with fail
      rw[HF.out.1,Oper.upon_enter];refine HC3.out.mono ?_;rintro e w1 ⟨rfl,hb1⟩;have HB3:Hid (Below W1.heap.size W1 w1):=HBW2.out.trans (hb1.mono HBW2.out.size);have HBN3:Hid (Below w.heap.size w w1):=HBN.out.trans (hb1.mono HBN.out.size);clear hb1 hcc;go_wp2_with fail
      refine (HONE.out j w1 hlj HBN3.out).mono ?_;rintro e w2 ⟨rfl,rfl⟩;rw[HT.out];go_wp2
      go_roundw
      case rel=>exact⟨j+1,by omega,by go_num,by rw[HQ.out],HB3.out⟩
      case measure=>simp[intOf];omega
    ·have hle:¬(lo+(j:Int)≤hi):=by omega
     have hjn:j=n:=by omega
     have HNX:Hid (o0 ||| rowP (p k) (6 * k) lo j=ofN vs p (k+1)):=by show _=_;rw[HO.out,hjn]
     clear hjn;obtain⟨q,hqq⟩:∃q,o0 ||| rowP (p k) (6 * k) lo j=q:=⟨_,rfl⟩
     rw[hqq] at HNX ⊢;clear hqq;go_wp2
     go_roundw
     case rel=>exact⟨k+1,by omega,by go_num,by rw[HNX.out],HBN.out⟩
     case measure=>simp[intOf];omega
  ·have hke:k=vs.length:=by omega
   subst hke;go_wp2
   go_ret
   exact⟨rfl,HBW.out⟩
theorem zTT (p k:Nat) (hp:p<2 ^ 36):bits .and .u64 ((p:Int) / 2 ^ (k * 6)) 63=((p / 2 ^ (k * 6) &&& 63:Nat):Int):=by
 have e2:(p:Int) / 2 ^ (k * 6)=((p / 2 ^ (k * 6):Nat):Int):=by simp
 rw[e2];have h1:p / 2 ^ (k * 6)≤p:=Nat.div_le_self _ _;exact bits_and_u64_nat _ 63 (by omega) (by omega)
theorem zNr (n p k:Nat) (h:k<n) (h0:p / 2 ^ (k * 6) &&& 63=0):zCO n p=true:=by
 unfold zCO;exact List.any_eq_true.2 ⟨k,List.mem_range.2 h,by simp[h0]⟩
theorem zQB (n p:Nat) (h:∀k,k<n→p / 2 ^ (k * 6) &&& 63≠0):zCO n p=false:=by
 cases hl:zCO n p
 ·rfl
 ·unfold zCO at hl
  obtain⟨v,hv,hb⟩:=List.any_eq_true.1 hl;exact absurd (by simpa using hb) (h v (List.mem_range.1 hv))
theorem zIH (vs:List MVar) (hn:vs.length≤6) (p:Nat) (hp:p<2 ^ 36) (sv:Value) (w:World) (hv:VArg w sv vs) :
 Calls Tryz.prog 182 #[sv,.int .u64 p] w fun e w'=>e=.returned (.bool (zCO vs.length p))∧w'=w:=by
 obtain⟨a,c,rfl,hm,_⟩:=hv;unfold maxLen at hm;obtain⟨hm1,hm⟩:=hm;obtain⟨R,hR⟩:∃R,zCO vs.length p=R:=⟨_,rfl⟩;rw[hR];have HR:Hid (zCO vs.length p=R):=hR;clear hR;have HP:Hid (p<2 ^ 36):=hp;clear hp;go_enter Tryz.func182,Tryz.ntmps182
 go_wp2_with fail
 go_loopw [8] (fun i wr=>∃k:Nat,k≤vs.length∧i=.int .i64 k∧Hid (∀j,j<k→p / 2 ^ (j * 6) &&& 63≠0)∧wr=w) (fun i _=>vs.length - (intOf i).toNat)
 case atStart=>exact⟨0,by omega,rfl,fun j h=>by omega,rfl⟩
 case round =>
  obtain⟨k,hk,rfl,hall,rfl⟩:=hrel;by_cases hlt:k<vs.length
  ·obtain⟨q,hq⟩:∃q,p / 2 ^ (k * 6) &&& 63=q:=⟨_,rfl⟩
   have hb:=zTT p k HP.out;rw[hq] at hb;have HQ:Hid (p / 2 ^ (k * 6) &&& 63=q):=hq;clear hq;have h2:(0:Int)≤(k:Int) * 6:=by omega
   by_cases h0:q=0
   ·have HN:Hid (R=true):=by show _=_;rw[←HR.out];exact zNr _ _ k hlt (by rw[HQ.out];exact h0)
    subst h0;go_wp2
    go_ret
    exact⟨zAC HN.out.symm,rfl⟩
   ·have HN:Hid (∀j,j<k+1→p / 2 ^ (j * 6) &&& 63≠0):=fun j hj=>by
     by_cases hjk:j=k
     ·subst hjk;rw[HQ.out];exact h0
     ·exact hall.out j (by omega)
    have h0':((q:Int)==0)=false:=by simpa using h0
    clear hall;go_wp2
    go_roundw
    case rel=>exact⟨k+1,by omega,by go_num,HN,trivial⟩
    case measure=>simp[intOf];omega
  ·have hke:k=vs.length:=by omega
   have HN:Hid (R=false):=by show _=_;rw[←HR.out];exact zQB _ _ (by rw[←hke];exact hall.out)
   clear hall hke;go_wp2
   go_ret
   exact⟨zAC HN.out.symm,rfl⟩
def GArg (w:World) (v:Value) (l:List Sto):Prop :=
 ∃a c,v=.slice a l.length c∧(l.length≤c∧c≤maxLen)∧∀(i:Nat) (r:Sto),l[i]? = some r→∃b off x,a=some ⟨b,off,none⟩∧b<w.heap.size∧w.cell? ⟨b,off+i,none⟩=some x∧RArg w x r
theorem GArg.below {w w':World} {v:Value} {l:List Sto} (hb:Below w.heap.size w w') (h:GArg w v l):GArg w' v l:=by
 obtain⟨a,c,hv,hm,hr⟩:=h;refine⟨a,c,hv,hm,fun i z hz=>?_⟩
 obtain⟨b,off,x,ha,hlt,hc,hx⟩:=hr i z hz;exact⟨b,off,x,ha,Nat.lt_of_lt_of_le hlt hb.size,(hb.cell (p:=⟨b,off+i,none⟩) hlt).trans hc,RArg.below hb hx⟩
theorem zOf (x y:Value) (w:World):Calls Tryz.prog 246 #[x,y] w fun e w'=>e=.returned (.bool true)∧Below w.heap.size w w':=by
 go_enter Tryz.func246,Tryz.ntmps246
 go_wp2
 go_ret
 exact⟨rfl,Below.refl _ _⟩
theorem zK8 (args:Array Value) (w':World):Sem.run Tryz.prog (callFunc 246 args) w'=.ok (.enter 246 args) w':=by
 simp[callFunc,go_sem,Tryz.func246,Tryz.f246]
theorem zGZ (vs:List MVar) (hva:zAW vs) (sv:Value) (w:World) (hv:VArg w sv vs) :
 Calls Tryz.prog 183 #[sv] w fun e w'=>e=.returned (.int .u64 ((zAD vs:Nat):Int))∧Below w.heap.size w w':=by
 have HV:Hid (VArg w sv vs):=hv;have HVO:Hid (zAW vs):=hva;obtain⟨a,c,rfl,_,_⟩:=hv;clear hva;go_enter Tryz.func183,Tryz.ntmps183
 go_wp2_with fail
 refine (zS7 246 #[] vs (fun _ _=>true) HVO.out _ _ HV.out ⟨zK8,fun k z w' _ _ _ _=>zOf _ _ w'⟩).mono ?_
 rintro e w1 ⟨rfl,hb1⟩;go_wp2
 go_ret
 exact⟨rfl,hb1⟩
theorem zR9 (c:Cla) (k:Nat) (z:Int) (u:Value) (b1:Nat) (w:World) (hu:LArg w u c) (h1:w.cell? ⟨b1,0,none⟩=some u) :
 Calls Tryz.prog 188 #[.int .i64 k,.int .i64 z,.pointer (some ⟨b1,0,none⟩)] w fun e w'=>e=.returned (.bool (oneB c k z))∧Below w.heap.size w w':=by
 have HU:Hid (LArg w u c):=hu;obtain⟨a,cc,rfl,_,_⟩:=hu;go_enter Tryz.func188,Tryz.ntmps188
 go_wp2_with fail
 refine (zT7 c k z _ _ HU.out).mono ?_;rintro e w1 ⟨rfl,hb1⟩;go_wp2
 go_ret
 exact⟨rfl,hb1⟩
theorem zMi (args:Array Value) (w':World):Sem.run Tryz.prog (callFunc 188 args) w'=.ok (.enter 188 args) w':=by
 simp[callFunc,go_sem,Tryz.func188,Tryz.f188]
theorem zEL (vs:List MVar) (hva:zAW vs) (cl:Cla) (sv u:Value) (w:World) (hv:VArg w sv vs) (hu:LArg w u cl) :
 Calls Tryz.prog 128 #[sv,u] w fun e w'=>e=.returned (.int .u64 ((zAH vs cl:Nat):Int))∧Below w.heap.size w w':=by
 have HV:Hid (∀w',Below w.heap.size w w'→VArg w' sv vs):=fun w' h=>VArg.below h hv
 have HU:Hid (∀w',Below w.heap.size w w'→LArg w' u cl):=fun w' h=>LArg.below h hu
 have HVO:Hid (zAW vs):=hva;obtain⟨a,c,rfl,_,_⟩:=hv;obtain⟨a2,c2,rfl,_,_⟩:=hu;clear hva;go_enter Tryz.func128,Tryz.ntmps128
 go_wp2_with fail
 refine (zS7 188 _ vs (fun v x=>oneB cl v x) HVO.out _ _ (HV.out _ (zAA _ _)) ⟨zMi,fun k z w' hk _ _ hb'=>?_⟩).mono ?_
 ·exact zR9 cl k z _ w.heap.size w' (HU.out _ ((zAA _ _).trans (hb'.mono (by simp)))) ((hb'.cell (by simp)).trans (World.cell?_alloc_at _ _ _ 0 (by simp)))
 rintro e w1 ⟨rfl,hb1⟩;have hb2:Below w.heap.size w w1:=(zAA _ _).trans (hb1.mono (by simp))
 clear hb1;go_wp2
 go_ret
 exact⟨rfl,hb2⟩
def PArg (w:World) (v:Value) (l:List Nat):Prop :=
 ∃a c,v=.slice a l.length c∧(l.length≤c∧c≤maxLen)∧∀(i z:Nat),l[i]? = some z→z<2 ^ 36∧∃b off,a=some ⟨b,off,none⟩∧b<w.heap.size∧w.cell? ⟨b,off+i,none⟩=some (.int .u64 z)
theorem PArg.below {w w':World} {v:Value} {l:List Nat} (hb:Below w.heap.size w w') (h:PArg w v l):PArg w' v l:=by
 obtain⟨a,c,hv,hm,hr⟩:=h;refine⟨a,c,hv,hm,fun i z hz=>?_⟩
 obtain⟨hz36,b,off,ha,hlt,hc⟩:=hr i z hz;exact⟨hz36,b,off,ha,Nat.lt_of_lt_of_le hlt hb.size,(hb.cell (p:=⟨b,off+i,none⟩) hlt).trans hc⟩
theorem zK9 (p h:Nat) (hp:p<2 ^ 36) (hh:h<2 ^ 36) (b1:Nat) (w:World) (h1:w.cell? ⟨b1,0,none⟩=some (.int .u64 h)) :
 Calls Tryz.prog 181 #[.int .u64 p,.pointer (some ⟨b1,0,none⟩)] w fun e w'=>e=.returned (.bool (zEc h p))∧w'=w:=by
 have hb:=bits_and_u64_nat p h (by omega) (by omega)
 have HN:Hid (zEc h p=(((p &&& h:Nat):Int)==0)):=by
  show _=_;unfold zEc;by_cases h0:p &&& h=0
  ·simp[h0]
  ·have:(((p &&& h:Nat):Int)==0)=false:=by simpa using h0
   rw[this];simpa using h0
 rw[HN.out];obtain⟨q,hq⟩:∃q,p &&& h=q:=⟨_,rfl⟩;rw[hq] at hb ⊢;clear hq hp hh;go_enter Tryz.func181,Tryz.ntmps181
 go_wp2
 go_ret
 exact⟨rfl,rfl⟩
theorem zLA (h:Nat) (hh:h<2 ^ 36) (b1:Nat) (l:List Nat) (v:Value) (w:World) (hv:PArg w v l) (h1:w.cell? ⟨b1,0,none⟩=some (.int .u64 h)) :
 Calls Tryz.prog 247 #[v,.func (.func 181) #[] #[.pointer (some ⟨b1,0,none⟩)]] w fun e w'=>(∃z:Int,e=.returned (.int .i64 z)∧(decide (0≤z))=l.any (zEc h))∧w'=w:=by
 obtain⟨a,c,rfl,hm,hr⟩:=hv;have HV:Hid (∀(i z:Nat),l[i]? = some z→z<2 ^ 36∧∃b off,a=some ⟨b,off,none⟩∧b<w.heap.size∧w.cell? ⟨b,off+i,none⟩=some (.int .u64 z)):=hr;have HH:Hid (h<2 ^ 36):=hh;unfold maxLen at hm;obtain⟨hm1,hm⟩:=hm;clear hr hh;go_enter Tryz.func247,Tryz.ntmps247
 go_wp2_with fail
 go_loopw [8] (fun i wr=>∃k:Nat,k≤l.length∧i=.int .i64 k∧Hid ((l.take k).any (zEc h)=false)∧wr=w) (fun i _=>l.length - (intOf i).toNat)
 case atStart=>exact⟨0,by omega,rfl,rfl,rfl⟩
 case round =>
  obtain⟨k,hk,rfl,hall,rfl⟩:=hrel;by_cases hlt:k<l.length
  ·obtain⟨z,hz⟩:∃z,l[k]? = some z:=⟨l[k],by simp[hlt]⟩
   obtain⟨hz36,b,off,ha,hb,hc⟩:=HV.out k z hz;subst ha;have HZ:Hid (l[k]? = some z):=hz;have HZ36:Hid (z<2 ^ 36):=hz36;clear hz hz36;cases hq:zEc h z
   ·have HN:Hid ((l.take (k+1)).any (zEc h)=false):=by show _=_;rw[List.take_add_one,HZ.out,List.any_append,hall.out];simp[hq]
    have HC:=zK9 z h HZ36.out HH.out b1 wr h1;rw[hq] at HC;have HC2:Hid (Calls Tryz.prog 181 #[.int .u64 z,.pointer (some ⟨b1,0,none⟩)] wr fun e w'=>e=.returned (.bool false)∧w'=wr):=HC
    clear HC hq hall;go_wp2_with fail
    refine HC2.out.mono ?_;rintro e w ⟨rfl,rfl⟩;go_wp2
    go_roundw
    case rel=>exact⟨k+1,by omega,by go_num,HN,trivial⟩
    case measure=>simp[intOf];omega
   ·have HN:Hid (l.any (zEc h)=true):=List.any_eq_true.2 ⟨z,List.mem_of_getElem? HZ.out,hq⟩
    have HC:=zK9 z h HZ36.out HH.out b1 wr h1;rw[hq] at HC;have HC2:Hid (Calls Tryz.prog 181 #[.int .u64 z,.pointer (some ⟨b1,0,none⟩)] wr fun e w'=>e=.returned (.bool true)∧w'=wr):=HC
    clear HC hq hall;go_wp2_with fail
    refine HC2.out.mono ?_;rintro e w ⟨rfl,rfl⟩;go_wp2
    go_ret
    exact⟨⟨k,rfl,by rw[HN.out];simp⟩,rfl⟩
  ·have hke:k=l.length:=by omega
   have HN:Hid (l.any (zEc h)=false):=by have:=hall.out;rw[hke,List.take_length] at this;exact this
   clear hall hke;go_wp2
   go_ret
   exact⟨⟨-1,rfl,by rw[HN.out];simp⟩,rfl⟩
theorem zII (h:Nat) (hh:h<2 ^ 36) (b1:Nat) (l:List Nat) (v:Value) (w:World) (hv:PArg w v l) (h1:w.cell? ⟨b1,0,none⟩=some (.int .u64 h)) :
 Calls Tryz.prog 184 #[v,.func (.func 181) #[] #[.pointer (some ⟨b1,0,none⟩)]] w fun e w'=>e=.returned (.bool (l.any (zEc h)))∧w'=w:=by
 have HV:Hid (PArg w v l):=hv;have HH:Hid (h<2 ^ 36):=hh;obtain⟨a,c,rfl,_,_⟩:=hv;clear hh;go_enter Tryz.func184,Tryz.ntmps184
 go_wp2_with fail
 refine (zLA h HH.out b1 l _ _ HV.out h1).mono ?_;rintro e w ⟨⟨z,rfl,hz⟩,rfl⟩;have HZ:Hid (decide (0≤z)=l.any (zEc h)):=hz;clear hz;go_wp2
 go_ret
 exact⟨zAC HZ.out,rfl⟩
theorem zD5 {w:World} {base:Nat} {v:Value} {r:List Int} (h:w.ownsRow base 3 1 v r.length (r.map (Value.int .i64))):IArg w v r:=by
 rcases h.2 with ⟨rfl,hn⟩ | ⟨g,cap,cur,rfl,hg,hh,hc1,hc2,_,_⟩
 ·have:r=[]:=List.eq_nil_of_length_eq_zero hn
  subst this;exact⟨none,0,rfl,⟨Nat.le_refl _,Nat.zero_le _⟩,fun i z hz=>by simp at hz⟩
 ·refine⟨_,cap,rfl,⟨hc1,hc2⟩,fun i z hz=>⟨g,0,rfl,(Array.getElem?_eq_some_iff.1 hh).1,?_⟩⟩
  have hi:i<r.length:=(List.getElem?_eq_some_iff.1 hz).1;rw[Nat.zero_add,h.cellAt i (by omega),List.getElem?_map,hz];rfl
theorem zSA {w:World} {base base':Nat} {e:TypeId} {size:Nat} {v:Value} {n:Nat} {xs:List Value} (h:w.ownsRow base e size v n xs) (hb:base'≤base):w.ownsRow base' e size v n xs:=by
 refine⟨h.1,?_⟩;rcases h.2 with hn | ⟨g,cap,cur,hv,hg,r⟩
 ·exact .inl hn
 ·exact .inr ⟨g,cap,cur,hv,Nat.le_trans hb hg,r⟩
theorem zFs {w w':World} {base:Nat} {e:TypeId} {size:Nat} {v:Value} {n:Nat} {xs:List Value} (h:w.ownsRow base e size v n xs) (hk:∀g,v.ownBlock=some g→w'.heap[g]? = w.heap[g]?):w'.ownsRow base e size v n xs:=by
 refine⟨h.1,?_⟩;rcases h.2 with hn | ⟨g,cap,cur,hv,hg,hh,r⟩
 ·exact .inl hn
 ·exact .inr ⟨g,cap,cur,hv,hg,by rw[hk g (by rw[hv];rfl)];exact hh,r⟩
def zMj (w:World) (base B n:Nat) (cells:List Value) (M:Sto) (k:Nat):Prop :=
 w.ownsRow base 26 1 (.slice (some ⟨B,0,none⟩) n n) n cells ∧
 (∀i r,i<k→M[i]? = some r→∃x,cells[i]? = some x∧w.ownsRow (B+1) 3 1 x r.length (r.map (Value.int .i64))) ∧
 (∀i,k≤i→i<n→cells[i]? = some (.slice none 0 0))
def zFL (w:World) (base B n:Nat) (cells:List Value) (M:Sto) (k K:Nat) (acc:List Int):Prop :=
 w.ownsRow base 26 1 (.slice (some ⟨B,0,none⟩) n n) n cells ∧
 (∀i r,i<k→M[i]? = some r→∃x,cells[i]? = some x∧w.ownsRow (B+1) 3 1 x r.length (r.map (Value.int .i64))∧∀g,x.ownBlock=some g→g<K) ∧
 (∃x,cells[k]? = some x∧w.ownsRow K 3 1 x acc.length (acc.map (Value.int .i64))) ∧
 (∀i,k<i→i<n→cells[i]? = some (.slice none 0 0))∧B<K∧K≤w.heap.size∧k<n
theorem zFL.done {w:World} {base B n:Nat} {cells:List Value} {M:Sto} {k K:Nat} {acc:List Int} (h:zFL w base B n cells M k K acc) (hM:M[k]? = some acc):zMj w base B n cells M (k+1):=by
 obtain⟨h1,h2,⟨x,hx,ho⟩,h4,h5,_,_⟩:=h;refine⟨h1,fun i r hi hr=>?_,fun i hi hn=>h4 i (by omega) hn⟩
 by_cases hik:i<k
 ·obtain⟨y,hy,hoy,_⟩:=h2 i r hik hr
  exact⟨y,hy,hoy⟩
 ·obtain rfl:i=k:=by omega
  rw[hM] at hr;cases hr;exact⟨x,hx,zSA ho (by omega)⟩
theorem zFL.kept {w w':World} {base B n:Nat} {cells:List Value} {M:Sto} {k K:Nat} {acc:List Int} (h:zFL w base B n cells M k K acc) (hb:Below w.heap.size w w'):zFL w' base B n cells M k K acc:=by
 obtain⟨h1,h2,⟨x,hx,ho⟩,h4,h5,h6,h7⟩:=h;refine⟨zAG h1 hb,fun i r hi hr=>?_,⟨x,hx,zAG ho hb⟩,h4,h5,Nat.le_trans h6 hb.size,h7⟩
 obtain⟨y,hy,hoy,hg⟩:=h2 i r hi hr;exact⟨y,hy,zAG hoy hb,hg⟩
theorem zMj.kept {w w':World} {base B n:Nat} {cells:List Value} {M:Sto} {k:Nat} (h:zMj w base B n cells M k) (hb:Below w.heap.size w w'):zMj w' base B n cells M k:=by
 obtain⟨h1,h2,h3⟩:=h;refine⟨zAG h1 hb,fun i r hi hr=>?_,h3⟩
 obtain⟨y,hy,hoy⟩:=h2 i r hi hr;exact⟨y,hy,zAG hoy hb⟩
theorem zFL.push {w w3:World} {base B n:Nat} {cells:List Value} {M:Sto} {k K:Nat} {acc:List Int} {x v3:Value} {z:Int} (h:zFL w base B n cells M k K acc) (hx:cells[k]? = some x)
 (ho:w3.ownsRow K 3 1 v3 (acc++[z]).length ((acc++[z]).map (Value.int .i64))) (hg:w.grownBy w3 x.ownBlock) :
 zFL (w3.setCell ⟨B,k,none⟩ v3) base B n (cells.set k v3) M k K (acc++[z]):=by
 obtain⟨h1,h2,⟨y,hy,hoy⟩,h4,h5,h6,h7⟩:=h;rw[hx] at hy;cases hy;have hxK:∀g,x.ownBlock=some g→K≤g:=fun g hg=>(hoy.lt g hg).1
 have hB:B<w.heap.size:=(h1.lt B rfl).2;have hne:some B≠x.ownBlock:=fun h=>by have:=hxK B h.symm;omega
 have h13:w3.ownsRow base 26 1 (.slice (some ⟨B,0,none⟩) n n) n cells:=h1.kept hg (Or.inr hne);have hlen:cells.length=n:=by have:=h1.1;omega
 refine⟨(h13.stored k v3).1,fun i r hi hr=>?_,⟨v3,by rw[List.getElem?_set_self (by omega)],?_⟩,fun i hi hn=>by rw[List.getElem?_set_ne (by omega)];exact h4 i hi hn,h5,?_,h7⟩
 ·obtain⟨y,hy,hoy2,hgy⟩:=h2 i r hi hr
  refine⟨y,by rw[List.getElem?_set_ne (by omega)];exact hy,?_,hgy⟩
  have h23:w3.ownsRow (B+1) 3 1 y r.length (r.map (Value.int .i64)):=by
   refine hoy2.kept hg ?_;cases hyb:y.ownBlock with
   | none=>exact Or.inl rfl
   | some g =>
     refine Or.inr fun he=>?_
     have:=hxK g he.symm;have:=hgy g hyb;omega
  refine zFs h23 fun g hg2=>Below.heap_setCell _ _ _ _ ?_
  have:=(hoy2.lt g hg2).1;simp only;omega
 ·refine zFs ho fun g hg2=>Below.heap_setCell _ _ _ _ ?_
  have:=(ho.lt g hg2).1;simp only;omega
 ·have:=hg.size;simp;omega
theorem zMj.rarg {w:World} {base B n:Nat} {cells:List Value} {M:Sto} (h:zMj w base B n cells M n) (hM:M.length=n):RArg w (.slice (some ⟨B,0,none⟩) n n) M:=by
 obtain⟨h1,h2,_⟩:=h;have hB:B<w.heap.size:=(h1.lt B rfl).2;have hmx:n≤maxLen:=by
  rcases h1.2 with ⟨h',_⟩ | ⟨g,cap,cur,h',_,_,hc1,hc2,_⟩
  ·cases h'
  ·exact Nat.le_trans hc1 hc2
 refine⟨_,n,by rw[hM],⟨by omega,hmx⟩,fun i r hr=>?_⟩
 have hi:i<n:=by rw[←hM];exact (List.getElem?_eq_some_iff.1 hr).1
 obtain⟨x,hx,ho⟩:=h2 i r hi hr;exact⟨B,0,x,rfl,hB,by rw[Nat.zero_add,h1.cellAt i (by omega)];exact hx,zD5 ho⟩
def Old (N:Nat) (w:World) (P:World→Prop):Prop:=∃w0:World,w0.heap.size≤N∧P w0∧Below w0.heap.size w0 w
theorem Old.below {N:Nat} {w w':World} {P:World→Prop} (h:Old N w P) (hb:Below N w w'):Old N w' P:=by
 obtain⟨w0,h1,h2,h3⟩:=h;exact⟨w0,h1,h2,h3.trans (hb.mono h1)⟩
theorem zOg (vals:List Int) (k:Nat) (x:Int) (h:∀y∈vals,-50≤y∧y≤50) (hx:-50≤x∧x≤50):∀y∈vals.set k x,-50≤y∧y≤50:=by
 intro y hy;rcases List.mem_or_eq_of_mem_set hy with h1 | h1
 ·exact h y h1
 ·rw[h1];exact hx
end Go.Proofs.YtdjbejlbmaiocagGreatDoor
