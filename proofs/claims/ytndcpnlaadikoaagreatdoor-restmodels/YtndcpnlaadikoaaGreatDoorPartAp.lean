/- What the proof leans on, part 16. -/
import Derived.Test.YtndcpnlaadikoaaGreatDoorPartAm
import Derived.Test.YtndcpnlaadikoaaGreatDoorPartAo
import Derived.Laws.ShiftsVarLaws
import Derived.Deep.RegionHeld3
import Derived.Laws.OwnMore
set_option maxRecDepth 100000
set_option maxHeartbeats 800000
namespace Go.Proofs.YtndcpnlaadikoaaGreatDoor
open Go.RowKit
theorem zIm {vs:List MVar} {v:Nat} (h:v<vs.length):vs[v]? = some (zAJ vs v):=by
 unfold zAJ;rw[List.getD_eq_getElem?_getD,List.getElem?_eq_getElem h];rfl
theorem zST (c:Int) (k:Nat) (h:c=(k:Int)) (hk:k<64):IntKind.u64.wrap (2 ^ c.toNat)=((2 ^ k:Nat):Int):=by
 rw[IntKind.wrap_u64,h,Int.toNat_natCast];have h1:(2:Nat) ^ k<2 ^ 64:=Nat.pow_lt_pow_right (by omega) hk
 have e:((2:Int) ^ k)=((2 ^ k:Nat):Int):=by simp
 rw[e];exact Int.emod_eq_of_lt (Int.natCast_nonneg _) (Int.ofNat_lt.2 h1)
theorem zPK (vs:List MVar) (hvo:zAc vs) (v:Nat) (x:Int) (sv:Value) (w:World) (hv:VArg w sv vs) (hl:v<vs.length) (h1:(zAJ vs v).lo≤x) (h2:x≤(zAJ vs v).hi) (h3:-50≤(zAJ vs v).lo∧(zAJ vs v).hi≤50) :
 Calls Tryz.prog 197 #[sv,.int .i64 v,.int .i64 x] w fun e w'=>e=.returned (.int .u64 ((2 ^ (6 * v+(x - (zAJ vs v).lo).toNat):Nat):Int))∧w'=w:=by
 obtain⟨a,c,rfl,hm,hr⟩:=hv;obtain⟨_,b,off,rfl,hb,c0,c1,c2⟩:=hr v _ (zIm hl);unfold maxLen at hm;obtain⟨hm1,hm⟩:=hm;have h6:=hvo.1;have hs:=hvo.2 v;unfold zBj at hs;obtain⟨lo,hlo⟩:∃lo,(zAJ vs v).lo=lo:=⟨_,rfl⟩;rw[hlo] at h1 h3 hs c1 ⊢;have HK:Hid (IntKind.u64.wrap (2 ^ ((v:Int) * 6+x - lo).toNat)=((2 ^ (6 * v+(x - lo).toNat):Nat):Int)):=zST _ _ (by omega) (by omega)
 have hsh:(0:Int)≤(v:Int) * 6+x - lo:=by omega
 have hsl:(v:Int) * 6+x - lo≤64:=by omega
 clear hr hs hlo;go_enter Tryz.func197,Tryz.ntmps197
 go_wp2
 go_ret
 exact⟨zAI HK.out,rfl⟩
def zS9 (F:Nat) (caps:Array Value) (vs:List MVar) (p:Nat→Int→Bool) (w:World):Prop :=
 (∀(args:Array Value) (w':World),Sem.run Tryz.prog (callFunc F args) w'=.ok (.enter F args) w') ∧
 ∀(k:Nat) (z:Int) (w':World),k<vs.length→(zAJ vs k).lo≤z→z≤(zAJ vs k).hi→Below w.heap.size w w'→Calls Tryz.prog F (#[.int .i64 k,.int .i64 z]++caps) w' fun e w''=>e=.returned (.bool (p k z))∧Below w'.heap.size w' w''
def zAQ (vs:List MVar):Prop:=zAc vs∧∀v:Nat,v<vs.length→-50≤(zAJ vs v).lo∧(zAJ vs v).hi≤50∧(zAJ vs v).lo≤(zAJ vs v).hi
theorem zBg (m:Mod) (hm:zAG m=0):zAQ m.vars:=⟨zAy m hm,fun v hv=>by
 have:=zHG m hm v _ (zIm hv);omega⟩
theorem zHb {a b:Nat} (ha:a<2 ^ 36) (hb:b<2 ^ 36):a ||| b<2 ^ 36:=Nat.or_lt_two_pow ha hb
theorem zJf (vs:List MVar) (hv:zAQ vs) (v k:Nat) (h:v<vs.length) (hk:k<zBj (zAJ vs v)):2 ^ (6 * v+k)<2 ^ 36:=by
 have h1:=hv.1.1;have h2:=hv.1.2 v;exact Nat.pow_lt_pow_right (by omega) (by omega)
theorem zQy (vs:List MVar) (hv:zAQ vs) (f:Int→Bool) (v k:Nat) (h:v<vs.length) (hk:k≤zBj (zAJ vs v)):rowP f (6 * v) (zAJ vs v).lo k<2 ^ 36:=by
 have h1:=hv.1.1;have h2:=hv.1.2 v;apply Nat.lt_pow_two_of_testBit;intro i hi;rw[zCd];have:¬(i<6 * v+k):=by omega
 simp[this]
theorem zPL (f:Int→Bool) (b:Nat) (lo:Int) (k:Nat) (h:f (lo+(k:Int))=false):rowP f b lo (k+1)=rowP f b lo k:=by
 show (if f (lo+(k:Int)) then _ else _)=_
 rw[h];rfl
theorem zQz (f:Int→Bool) (b:Nat) (lo:Int) (k:Nat) (h:f (lo+(k:Int))=true):rowP f b lo (k+1)=rowP f b lo k ||| 2 ^ (b+k):=by
 show (if f (lo+(k:Int)) then _ else _)=_
 rw[h];rfl
theorem zR5 (F:Nat) (caps:Array Value) (vs:List MVar) (p:Nat→Int→Bool) (hva:zAQ vs) (sv:Value) (w:World) (hv:VArg w sv vs) (hF:zS9 F caps vs p w) :
 Calls Tryz.prog 143 #[sv,.func (.func F) #[] caps] w fun e w'=>e=.returned (.int .u64 ((ofP vs p:Nat):Int))∧Below w.heap.size w w':=by
 have HVA:Hid (∀w':World,Below w.heap.size w w'→VArg w' sv vs):=fun w' h=>VArg.below h hv
 obtain⟨a,c,rfl,hm,hr⟩:=hv;have HV:Hid (∀(i:Nat) (t:MVar),vs[i]? = some t→t.name.size≤maxLen∧∃b off,a=some ⟨b,off,none⟩∧b<w.heap.size ∧
  w.cell? ⟨b,off+i * 3,none⟩=some (.string t.name)∧w.cell? ⟨b,off+i * 3+1,none⟩=some (.int .i64 t.lo)∧w.cell? ⟨b,off+i * 3+2,none⟩=some (.int .i64 t.hi)):=hr
 have HF:Hid (zS9 F caps vs p w):=hF;have HVO:Hid (zAQ vs):=hva;have h6:=hva.1.1;unfold maxLen at hm;obtain⟨hm1,hm⟩:=hm;clear hr hF hva;go_enter Tryz.func143,Tryz.ntmps143
 go_wp2_with fail
 go_loopw [5,11] (fun o i wr=>∃k:Nat,k≤vs.length∧i=.int .i64 k∧o=.int .u64 ((ofN vs p k:Nat):Int)∧Below w.heap.size w wr) (fun _ i _=>vs.length - (intOf i).toNat)
 case atStart=>exact⟨0,by omega,rfl,rfl,Below.refl _ _⟩
 case round =>
  obtain⟨k,hk,rfl,rfl,hbw⟩:=hrel;have HBW:Hid (Below w.heap.size w wr):=hbw;clear hbw;by_cases hlt:k<vs.length
  ·obtain⟨hnm,b,off,ha,hb,q0,q1,q2⟩:=HV.out k _ (zIm hlt)
   subst ha;have hbn:=HVO.out.2 k hlt;have hsz:=HVO.out.1.2 k;have HSZ:Hid (zBj (zAJ vs k)=((zAJ vs k).hi+1 - (zAJ vs k).lo).toNat):=rfl;obtain⟨n,hn⟩:∃n,zBj (zAJ vs k)=n:=⟨_,rfl⟩;have HN:Hid (zBj (zAJ vs k)=n):=hn;have hnn:(n:Int)=(zAJ vs k).hi+1 - (zAJ vs k).lo:=by
    have:=HSZ.out;omega
   have hn6:n≤6:=by omega
   have hc0:=(HBW.out.cell (p:=⟨b,off+k * 3,none⟩) hb).trans q0;have hc1:=(HBW.out.cell (p:=⟨b,off+k * 3+1,none⟩) hb).trans q1;have hc2:=(HBW.out.cell (p:=⟨b,off+k * 3+2,none⟩) hb).trans q2;obtain⟨lo,hlo⟩:∃lo,(zAJ vs k).lo=lo:=⟨_,rfl⟩;obtain⟨hi,hhi⟩:∃hi,(zAJ vs k).hi=hi:=⟨_,rfl⟩;have HLO:Hid ((zAJ vs k).lo=lo):=hlo;have HHI:Hid ((zAJ vs k).hi=hi):=hhi;rw[hlo] at hc1 hbn hnn;rw[hhi] at hc2 hbn hnn;obtain⟨nm,hnm2⟩:∃nm,(zAJ vs k).name=nm:=⟨_,rfl⟩;rw[hnm2] at hc0;have HO:Hid (ofN vs p (k+1)=ofN vs p k ||| rowP (p k) (6 * k) lo n):=by show _=_;rw[←hlo,←hn];rfl
   have HO36:Hid (ofN vs p k<2 ^ 36):=zR4 vs HVO.out.1 p k (by omega)
   have HROW:Hid (∀j,j≤n→rowP (p k) (6 * k) lo j<2 ^ 36):=fun j hj=>by rw[←hlo];exact zQy vs HVO.out (p k) k j hlt (by omega)
   have HPOW:Hid (∀j,j<n→2 ^ (6 * k+j)<2 ^ 36):=fun j hj=>zJf vs HVO.out k j hlt (by omega)
   clear q0 q1 q2 hsz hn hlo hhi hnm hnm2 HSZ;have hbs:=HBW.out.size;obtain⟨B,hB⟩:∃B,wr.heap.size=B:=⟨_,rfl⟩;obtain⟨o0,ho0⟩:∃o0,ofN vs p k=o0:=⟨_,rfl⟩;have HO0:Hid (ofN vs p k=o0):=ho0;rw[ho0] at HO HO36 ⊢;clear ho0;have HVO2:Hid (zAc vs):=HVO.out.1;have hlk:(zAJ vs k).lo=lo:=HLO.out;have HONE:Hid (∀(j:Nat) (w':World),j<n→Below w.heap.size w w'→Calls Tryz.prog 197 #[.slice (some ⟨b,off,none⟩) vs.length c,.int .i64 k,.int .i64 (lo+(j:Int))] w' fun e w''=>e=.returned (.int .u64 ((2 ^ (6 * k+j):Nat):Int))∧w''=w'):=by
    intro j w' hj hb';have h1:=zPK vs HVO2.out k (lo+(j:Int)) _ w' (HVA.out w' hb') hlt (by rw[HLO.out];omega) (by rw[HHI.out];omega) (by rw[HLO.out,HHI.out];omega)
    rw[HLO.out,show (lo+(j:Int) - lo).toNat=j by omega] at h1
    exact h1
   have HCLO:Hid (∀(j:Nat) (w':World),j<n→Below w.heap.size w w'→Calls Tryz.prog F (#[.int .i64 k,.int .i64 (lo+(j:Int))]++caps) w' fun e w''=>e=.returned (.bool (p k (lo+(j:Int))))∧Below w'.heap.size w' w''):=by
    intro j w' hj hb';exact HF.out.2 k _ w' hlt (by rw[HLO.out];omega) (by rw[HHI.out];omega) hb'
   clear hlk;go_wp2_with fail
   have HB:Hid (wr.heap.size=B):=hB;have HB0:Hid (Below w.heap.size w (wr.alloc (.cells #[.string nm,.int .i64 lo,.int .i64 hi] 67))):=HBW.out.alloc hbs _;have HC2:Hid ((wr.alloc (.cells #[.string nm,.int .i64 lo,.int .i64 hi] 67)).cell? ⟨B,2,none⟩=some (.int .i64 hi)):=by show _=_;rw[←hB];exact World.cell?_alloc_at _ _ _ 2 (by simp)
   have HW:Hid (w.heap.size≤B):=by rw[←hB];exact hbs
   obtain⟨W1,hW1⟩:∃W1,wr.alloc (.cells #[.string nm,.int .i64 lo,.int .i64 hi] 67)=W1:=⟨_,rfl⟩;rw[hW1] at HB0 HC2 ⊢;have HW1:Hid (W1.heap.size=B+1):=by show _=_;rw[←hW1,←hB];simp
   clear hc0 hc1 hc2 hB hW1 hbs;go_loopw [5,8] (fun o i wr=>∃j:Nat,j≤n∧i=.int .i64 (lo+(j:Int))∧o=.int .u64 ((o0 ||| rowP (p k) (6 * k) lo j:Nat):Int)∧Below W1.heap.size W1 wr) (fun _ i _=>(hi+1 - intOf i).toNat)
   case atStart=>exact⟨0,by omega,by simp,by simp[rowP],Below.refl _ _⟩
   case round =>
    obtain⟨j,hj,rfl,rfl,hbw2⟩:=hrel;have hcc:=(hbw2.cell (p:=⟨B,2,none⟩) (by rw[HW1.out];simp)).trans HC2.out
    have HBN:Hid (Below w.heap.size w wr):=HB0.out.trans (hbw2.mono (by rw[HW1.out];have:=HW.out;omega))
    have HBW2:Hid (Below W1.heap.size W1 wr):=hbw2;clear hbw2;by_cases hlj:j<n
    ·have hle:lo+(j:Int)≤hi:=by omega
     have HCALL:=HCLO.out j wr hlj HBN.out;cases hq:p k (lo+(j:Int))
     ·have HNX:Hid (rowP (p k) (6 * k) lo (j+1)=rowP (p k) (6 * k) lo j):=zPL _ _ _ _ hq
      obtain⟨q,hqq⟩:∃q,o0 ||| rowP (p k) (6 * k) lo j=q:=⟨_,rfl⟩
      have HQ:Hid (o0 ||| rowP (p k) (6 * k) lo j=q):=hqq
      rw[hqq];have HC3:Hid (Calls Tryz.prog F (#[.int .i64 k,.int .i64 (lo+(j:Int))]++caps) wr fun e w''=>e=.returned (.bool false)∧Below wr.heap.size wr w''):=by rw[←hq];exact HCALL
      clear hqq HCALL hq;go_wp2_with fail
      rw[HF.out.1,Oper.upon_enter];refine HC3.out.mono ?_;rintro e w1 ⟨rfl,hb1⟩;have HB3:Hid (Below W1.heap.size W1 w1):=HBW2.out.trans (hb1.mono HBW2.out.size);clear hb1 hcc;go_wp2
      go_roundw
      case rel=>exact⟨j+1,by omega,by go_num,by rw[HNX.out,HQ.out],HB3.out⟩
      case measure=>simp[intOf];omega
     ·have HNX:Hid (rowP (p k) (6 * k) lo (j+1)=rowP (p k) (6 * k) lo j ||| 2 ^ (6 * k+j)):=zQz _ _ _ _ hq
      obtain⟨q,hqq⟩:∃q,o0 ||| rowP (p k) (6 * k) lo j=q:=⟨_,rfl⟩
      have hq36:q<2 ^ 36:=by rw[←hqq];exact zHb HO36.out (HROW.out j hj)
      have hp36:=HPOW.out j hlj;have HQ:Hid (o0 ||| rowP (p k) (6 * k) lo (j+1)=q ||| 2 ^ (6 * k+j)):=by show _=_;rw[HNX.out,←hqq,Nat.or_assoc]
      rw[hqq];have HC3:Hid (Calls Tryz.prog F (#[.int .i64 k,.int .i64 (lo+(j:Int))]++caps) wr fun e w''=>e=.returned (.bool true)∧Below wr.heap.size wr w''):=by rw[←hq];exact HCALL
      have HO1:=HONE;obtain⟨t,ht⟩:∃t,2 ^ (6 * k+j)=t:=⟨_,rfl⟩;have HT:Hid (2 ^ (6 * k+j)=t):=ht;rw[ht] at HQ hp36;have hor:=bits_or_u64_nat q t (by omega) (by omega)
      clear hqq HCALL hq ht hq36 hp36;go_wp2_with fail
      rw[HF.out.1,Oper.upon_enter];refine HC3.out.mono ?_;rintro e w1 ⟨rfl,hb1⟩;have HB3:Hid (Below W1.heap.size W1 w1):=HBW2.out.trans (hb1.mono HBW2.out.size);have HBN3:Hid (Below w.heap.size w w1):=HBN.out.trans (hb1.mono HBN.out.size);clear hb1 hcc;go_wp2_with fail
      refine (HONE.out j w1 hlj HBN3.out).mono ?_;rintro e w2 ⟨rfl,rfl⟩;rw[HT.out];go_wp2
      go_roundw
      case rel=>exact⟨j+1,by omega,by go_num,by rw[HQ.out],HB3.out⟩
      case measure=>simp[intOf];omega
    ·have hle:¬(lo+(j:Int)≤hi):=by omega
     have hjn:j=n:=by omega
     have HNX:Hid (o0 ||| rowP (p k) (6 * k) lo j=ofN vs p (k+1)):=by show _=_;rw[HO.out,hjn]
     clear hjn;obtain⟨q,hqq⟩:∃q,o0 ||| rowP (p k) (6 * k) lo j=q:=⟨_,rfl⟩
     rw[hqq] at HNX ⊢;clear hqq;go_wp2
     go_roundw
     case rel=>exact⟨k+1,by omega,by go_num,by rw[HNX.out],HBN.out⟩
     case measure=>simp[intOf];omega
  ·have hke:k=vs.length:=by omega
   subst hke;go_wp2
   go_ret
   exact⟨rfl,HBW.out⟩
theorem zSU (p k:Nat) (hp:p<2 ^ 36):bits .and .u64 ((p:Int) / 2 ^ (k * 6)) 63=((p / 2 ^ (k * 6) &&& 63:Nat):Int):=by
 have e2:(p:Int) / 2 ^ (k * 6)=((p / 2 ^ (k * 6):Nat):Int):=by simp
 rw[e2];have h1:p / 2 ^ (k * 6)≤p:=Nat.div_le_self _ _;exact bits_and_u64_nat _ 63 (by omega) (by omega)
theorem zMv (n p k:Nat) (h:k<n) (h0:p / 2 ^ (k * 6) &&& 63=0):zBt n p=true:=by
 unfold zBt;exact List.any_eq_true.2 ⟨k,List.mem_range.2 h,by simp[h0]⟩
theorem zPM (n p:Nat) (h:∀k,k<n→p / 2 ^ (k * 6) &&& 63≠0):zBt n p=false:=by
 cases hl:zBt n p
 ·rfl
 ·unfold zBt at hl
  obtain⟨v,hv,hb⟩:=List.any_eq_true.1 hl;exact absurd (by simpa using hb) (h v (List.mem_range.1 hv))
theorem zHc (vs:List MVar) (hn:vs.length≤6) (p:Nat) (hp:p<2 ^ 36) (sv:Value) (w:World) (hv:VArg w sv vs) :
 Calls Tryz.prog 194 #[sv,.int .u64 p] w fun e w'=>e=.returned (.bool (zBt vs.length p))∧w'=w:=by
 obtain⟨a,c,rfl,hm,_⟩:=hv;unfold maxLen at hm;obtain⟨hm1,hm⟩:=hm;obtain⟨R,hR⟩:∃R,zBt vs.length p=R:=⟨_,rfl⟩;rw[hR];have HR:Hid (zBt vs.length p=R):=hR;clear hR;have HP:Hid (p<2 ^ 36):=hp;clear hp;go_enter Tryz.func194,Tryz.ntmps194
 go_wp2_with fail
 go_loopw [8] (fun i wr=>∃k:Nat,k≤vs.length∧i=.int .i64 k∧Hid (∀j,j<k→p / 2 ^ (j * 6) &&& 63≠0)∧wr=w) (fun i _=>vs.length - (intOf i).toNat)
 case atStart=>exact⟨0,by omega,rfl,fun j h=>by omega,rfl⟩
 case round =>
  obtain⟨k,hk,rfl,hall,rfl⟩:=hrel;by_cases hlt:k<vs.length
  ·obtain⟨q,hq⟩:∃q,p / 2 ^ (k * 6) &&& 63=q:=⟨_,rfl⟩
   have hb:=zSU p k HP.out;rw[hq] at hb;have HQ:Hid (p / 2 ^ (k * 6) &&& 63=q):=hq;clear hq;have h2:(0:Int)≤(k:Int) * 6:=by omega
   by_cases h0:q=0
   ·have HN:Hid (R=true):=by show _=_;rw[←HR.out];exact zMv _ _ k hlt (by rw[HQ.out];exact h0)
    subst h0;go_wp2
    go_ret
    exact⟨zAD HN.out.symm,rfl⟩
   ·have HN:Hid (∀j,j<k+1→p / 2 ^ (j * 6) &&& 63≠0):=fun j hj=>by
     by_cases hjk:j=k
     ·subst hjk;rw[HQ.out];exact h0
     ·exact hall.out j (by omega)
    have h0':((q:Int)==0)=false:=by simpa using h0
    clear hall;go_wp2
    go_roundw
    case rel=>exact⟨k+1,by omega,by go_num,HN,trivial⟩
    case measure=>simp[intOf];omega
  ·have hke:k=vs.length:=by omega
   have HN:Hid (R=false):=by show _=_;rw[←HR.out];exact zPM _ _ (by rw[←hke];exact hall.out)
   clear hall hke;go_wp2
   go_ret
   exact⟨zAD HN.out.symm,rfl⟩
def GArg (w:World) (v:Value) (l:List Sto):Prop :=
 ∃a c,v=.slice a l.length c∧(l.length≤c∧c≤maxLen)∧∀(i:Nat) (r:Sto),l[i]? = some r→∃b off x,a=some ⟨b,off,none⟩∧b<w.heap.size∧w.cell? ⟨b,off+i,none⟩=some x∧RArg w x r
theorem GArg.below {w w':World} {v:Value} {l:List Sto} (hb:Below w.heap.size w w') (h:GArg w v l):GArg w' v l:=by
 obtain⟨a,c,hv,hm,hr⟩:=h;refine⟨a,c,hv,hm,fun i z hz=>?_⟩
 obtain⟨b,off,x,ha,hlt,hc,hx⟩:=hr i z hz;exact⟨b,off,x,ha,Nat.lt_of_lt_of_le hlt hb.size,(hb.cell (p:=⟨b,off+i,none⟩) hlt).trans hc,RArg.below hb hx⟩
theorem zNr (x y:Value) (w:World):Calls Tryz.prog 232 #[x,y] w fun e w'=>e=.returned (.bool true)∧Below w.heap.size w w':=by
 go_enter Tryz.func232,Tryz.ntmps232
 go_wp2
 go_ret
 exact⟨rfl,Below.refl _ _⟩
theorem zKR (args:Array Value) (w':World):Sem.run Tryz.prog (callFunc 232 args) w'=.ok (.enter 232 args) w':=by
 simp[callFunc,go_sem,Tryz.func232,Tryz.f232]
theorem zFj (vs:List MVar) (hva:zAQ vs) (sv:Value) (w:World) (hv:VArg w sv vs) :
 Calls Tryz.prog 147 #[sv] w fun e w'=>e=.returned (.int .u64 ((zAE vs:Nat):Int))∧Below w.heap.size w w':=by
 have HV:Hid (VArg w sv vs):=hv;have HVO:Hid (zAQ vs):=hva;obtain⟨a,c,rfl,_,_⟩:=hv;clear hva;go_enter Tryz.func147,Tryz.ntmps147
 go_wp2_with fail
 refine (zR5 232 #[] vs (fun _ _=>true) HVO.out _ _ HV.out ⟨zKR,fun k z w' _ _ _ _=>zNr _ _ w'⟩).mono ?_
 rintro e w1 ⟨rfl,hb1⟩;go_wp2
 go_ret
 exact⟨rfl,hb1⟩
theorem zQ0 (c:Cla) (k:Nat) (z:Int) (u:Value) (b1:Nat) (w:World) (hu:LArg w u c) (h1:w.cell? ⟨b1,0,none⟩=some u) :
 Calls Tryz.prog 144 #[.int .i64 k,.int .i64 z,.pointer (some ⟨b1,0,none⟩)] w fun e w'=>e=.returned (.bool (oneB c k z))∧Below w.heap.size w w':=by
 have HU:Hid (LArg w u c):=hu;obtain⟨a,cc,rfl,_,_⟩:=hu;go_enter Tryz.func144,Tryz.ntmps144
 go_wp2_with fail
 refine (zS8 c k z _ _ HU.out).mono ?_;rintro e w1 ⟨rfl,hb1⟩;go_wp2
 go_ret
 exact⟨rfl,hb1⟩
theorem zLd (args:Array Value) (w':World):Sem.run Tryz.prog (callFunc 144 args) w'=.ok (.enter 144 args) w':=by
 simp[callFunc,go_sem,Tryz.func144,Tryz.f144]
theorem zCm (vs:List MVar) (hva:zAQ vs) (cl:Cla) (sv u:Value) (w:World) (hv:VArg w sv vs) (hu:LArg w u cl) :
 Calls Tryz.prog 85 #[sv,u] w fun e w'=>e=.returned (.int .u64 ((zAH vs cl:Nat):Int))∧Below w.heap.size w w':=by
 have HV:Hid (∀w',Below w.heap.size w w'→VArg w' sv vs):=fun w' h=>VArg.below h hv
 have HU:Hid (∀w',Below w.heap.size w w'→LArg w' u cl):=fun w' h=>LArg.below h hu
 have HVO:Hid (zAQ vs):=hva;obtain⟨a,c,rfl,_,_⟩:=hv;obtain⟨a2,c2,rfl,_,_⟩:=hu;clear hva;go_enter Tryz.func85,Tryz.ntmps85
 go_wp2_with fail
 refine (zR5 144 _ vs (fun v x=>oneB cl v x) HVO.out _ _ (HV.out _ (zAA _ _)) ⟨zLd,fun k z w' hk _ _ hb'=>?_⟩).mono ?_
 ·exact zQ0 cl k z _ w.heap.size w' (HU.out _ ((zAA _ _).trans (hb'.mono (by simp)))) ((hb'.cell (by simp)).trans (World.cell?_alloc_at _ _ _ 0 (by simp)))
 rintro e w1 ⟨rfl,hb1⟩;have hb2:Below w.heap.size w w1:=(zAA _ _).trans (hb1.mono (by simp))
 clear hb1;go_wp2
 go_ret
 exact⟨rfl,hb2⟩
def PArg (w:World) (v:Value) (l:List Nat):Prop :=
 ∃a c,v=.slice a l.length c∧(l.length≤c∧c≤maxLen)∧∀(i z:Nat),l[i]? = some z→z<2 ^ 36∧∃b off,a=some ⟨b,off,none⟩∧b<w.heap.size∧w.cell? ⟨b,off+i,none⟩=some (.int .u64 z)
theorem PArg.below {w w':World} {v:Value} {l:List Nat} (hb:Below w.heap.size w w') (h:PArg w v l):PArg w' v l:=by
 obtain⟨a,c,hv,hm,hr⟩:=h;refine⟨a,c,hv,hm,fun i z hz=>?_⟩
 obtain⟨hz36,b,off,ha,hlt,hc⟩:=hr i z hz;exact⟨hz36,b,off,ha,Nat.lt_of_lt_of_le hlt hb.size,(hb.cell (p:=⟨b,off+i,none⟩) hlt).trans hc⟩
theorem zKS (p h:Nat) (hp:p<2 ^ 36) (hh:h<2 ^ 36) (b1:Nat) (w:World) (h1:w.cell? ⟨b1,0,none⟩=some (.int .u64 h)) :
 Calls Tryz.prog 193 #[.int .u64 p,.pointer (some ⟨b1,0,none⟩)] w fun e w'=>e=.returned (.bool (zEL h p))∧w'=w:=by
 have hb:=bits_and_u64_nat p h (by omega) (by omega)
 have HN:Hid (zEL h p=(((p &&& h:Nat):Int)==0)):=by
  show _=_;unfold zEL;by_cases h0:p &&& h=0
  ·simp[h0]
  ·have:(((p &&& h:Nat):Int)==0)=false:=by simpa using h0
   rw[this];simpa using h0
 rw[HN.out];obtain⟨q,hq⟩:∃q,p &&& h=q:=⟨_,rfl⟩;rw[hq] at hb ⊢;clear hq hp hh;go_enter Tryz.func193,Tryz.ntmps193
 go_wp2
 go_ret
 exact⟨rfl,rfl⟩
theorem zKT (h:Nat) (hh:h<2 ^ 36) (b1:Nat) (l:List Nat) (v:Value) (w:World) (hv:PArg w v l) (h1:w.cell? ⟨b1,0,none⟩=some (.int .u64 h)) :
 Calls Tryz.prog 252 #[v,.func (.func 193) #[] #[.pointer (some ⟨b1,0,none⟩)]] w fun e w'=>(∃z:Int,e=.returned (.int .i64 z)∧(decide (0≤z))=l.any (zEL h))∧w'=w:=by
 obtain⟨a,c,rfl,hm,hr⟩:=hv;have HV:Hid (∀(i z:Nat),l[i]? = some z→z<2 ^ 36∧∃b off,a=some ⟨b,off,none⟩∧b<w.heap.size∧w.cell? ⟨b,off+i,none⟩=some (.int .u64 z)):=hr;have HH:Hid (h<2 ^ 36):=hh;unfold maxLen at hm;obtain⟨hm1,hm⟩:=hm;clear hr hh;go_enter Tryz.func252,Tryz.ntmps252
 go_wp2_with fail
 go_loopw [8] (fun i wr=>∃k:Nat,k≤l.length∧i=.int .i64 k∧Hid ((l.take k).any (zEL h)=false)∧wr=w) (fun i _=>l.length - (intOf i).toNat)
 case atStart=>exact⟨0,by omega,rfl,rfl,rfl⟩
 case round =>
  obtain⟨k,hk,rfl,hall,rfl⟩:=hrel;by_cases hlt:k<l.length
  ·obtain⟨z,hz⟩:∃z,l[k]? = some z:=⟨l[k],by simp[hlt]⟩
   obtain⟨hz36,b,off,ha,hb,hc⟩:=HV.out k z hz;subst ha;have HZ:Hid (l[k]? = some z):=hz;have HZ36:Hid (z<2 ^ 36):=hz36;clear hz hz36;cases hq:zEL h z
   ·have HN:Hid ((l.take (k+1)).any (zEL h)=false):=by show _=_;rw[List.take_add_one,HZ.out,List.any_append,hall.out];simp[hq]
    have HC:=zKS z h HZ36.out HH.out b1 wr h1;rw[hq] at HC;have HC2:Hid (Calls Tryz.prog 193 #[.int .u64 z,.pointer (some ⟨b1,0,none⟩)] wr fun e w'=>e=.returned (.bool false)∧w'=wr):=HC
    clear HC hq hall;go_wp2_with fail
    refine HC2.out.mono ?_;rintro e w ⟨rfl,rfl⟩;go_wp2
    go_roundw
    case rel=>exact⟨k+1,by omega,by go_num,HN,trivial⟩
    case measure=>simp[intOf];omega
   ·have HN:Hid (l.any (zEL h)=true):=List.any_eq_true.2 ⟨z,List.mem_of_getElem? HZ.out,hq⟩
    have HC:=zKS z h HZ36.out HH.out b1 wr h1;rw[hq] at HC;have HC2:Hid (Calls Tryz.prog 193 #[.int .u64 z,.pointer (some ⟨b1,0,none⟩)] wr fun e w'=>e=.returned (.bool true)∧w'=wr):=HC
    clear HC hq hall;go_wp2_with fail
    refine HC2.out.mono ?_;rintro e w ⟨rfl,rfl⟩;go_wp2
    go_ret
    exact⟨⟨k,rfl,by rw[HN.out];simp⟩,rfl⟩
  ·have hke:k=l.length:=by omega
   have HN:Hid (l.any (zEL h)=false):=by have:=hall.out;rw[hke,List.take_length] at this;exact this
   clear hall hke;go_wp2
   go_ret
   exact⟨⟨-1,rfl,by rw[HN.out];simp⟩,rfl⟩
theorem zHd (h:Nat) (hh:h<2 ^ 36) (b1:Nat) (l:List Nat) (v:Value) (w:World) (hv:PArg w v l) (h1:w.cell? ⟨b1,0,none⟩=some (.int .u64 h)) :
 Calls Tryz.prog 195 #[v,.func (.func 193) #[] #[.pointer (some ⟨b1,0,none⟩)]] w fun e w'=>e=.returned (.bool (l.any (zEL h)))∧w'=w:=by
 have HV:Hid (PArg w v l):=hv;have HH:Hid (h<2 ^ 36):=hh;obtain⟨a,c,rfl,_,_⟩:=hv;clear hh;go_enter Tryz.func195,Tryz.ntmps195
 go_wp2_with fail
 refine (zKT h HH.out b1 l _ _ HV.out h1).mono ?_;rintro e w ⟨⟨z,rfl,hz⟩,rfl⟩;have HZ:Hid (decide (0≤z)=l.any (zEL h)):=hz;clear hz;go_wp2
 go_ret
 exact⟨zAD HZ.out,rfl⟩
def zDg (p:Nat):List Nat:=(List.range 36).filter fun i=>p.testBit i
theorem zQ1 (x:Nat) (h0:x≠0) (h:x<2 ^ 64):∃m,x=2 ^ (Lib.ctz 64 x+1) * m+2 ^ Lib.ctz 64 x∧Lib.ctz 64 x<64:=by
 obtain⟨m,h1,h2⟩:=Lib.ctzFrom_spec 64 x (by omega) h
 have e:Lib.ctz 64 x=Lib.ctzFrom 64 x:=by unfold Lib.ctz;rw[if_neg h0]
 rw[e];refine⟨m,?_,h2⟩
 conv=>lhs;rw[h1]
 rw[Nat.pow_succ,Nat.mul_add,Nat.mul_one,Nat.mul_assoc]
theorem zD6 (x:Nat) (h0:x≠0) (h:x<2 ^ 64) (i:Nat):(i<Lib.ctz 64 x→x.testBit i=false)∧(i=Lib.ctz 64 x→x.testBit i=true)∧(x &&& (x - 1)).testBit i=(x.testBit i&&!decide (i=Lib.ctz 64 x)):=by
 obtain⟨m,h1,_⟩:=zQ1 x h0 h;generalize hk:Lib.ctz 64 x=k at h1;have hp:0<2 ^ k:=Nat.pow_pos (by omega)
 have hlt:2 ^ k<2 ^ (k+1):=by rw[Nat.pow_succ];omega
 have h2:x - 1=2 ^ (k+1) * m+(2 ^ k - 1):=by omega
 have t1:x.testBit i=if i<k+1 then decide (k=i) else m.testBit (i - (k+1)):=by
  rw[h1,Nat.testBit_two_pow_mul_add _ hlt]
  split
  ·exact zCA k i
  ·rfl
 have t2:(x - 1).testBit i=if i<k+1 then decide (i<k) else m.testBit (i - (k+1)):=by
  rw[h2,Nat.testBit_two_pow_mul_add _ (by omega)]
  split
  ·exact Nat.testBit_two_pow_sub_one ..
  ·rfl
 refine⟨fun hi=>?_,fun hi=>?_,?_⟩
 ·rw[t1,if_pos (by omega)];simp;omega
 ·rw[t1,if_pos (by omega)];simp;omega
 ·rw[Nat.testBit_and,t1,t2]
  by_cases hi:i<k+1
  ·rw[if_pos hi,if_pos hi]
   by_cases he:k=i
   ·subst he;simp
   ·simp[he]
  ·rw[if_neg hi,if_neg hi,show decide (i=k)=false by simp;omega];simp
theorem zG6 (x:Nat) (h0:x≠0) (h:x<2 ^ 64):x &&& (x - 1)<x:=by
 have h1:=zD6 x h0 h;have hle:x &&& (x - 1)≤x:=Nat.and_le_left;have:x &&& (x - 1)≠x:=fun he=>by
  have h2:=(h1 (Lib.ctz 64 x)).2.2;rw[he,(h1 (Lib.ctz 64 x)).2.1 rfl] at h2;simp at h2
 omega
theorem zIn:zDg 0=[]:=by simp[zDg]
theorem zEu (x:Nat) (h0:x≠0) (h:x<2 ^ 36):zDg x=Lib.ctz 64 x :: zDg (x &&& (x - 1))∧Lib.ctz 64 x<36:=by
 have h64:x<2 ^ 64:=Nat.lt_of_lt_of_le h (Nat.pow_le_pow_right (by omega) (by omega))
 have hb:=zD6 x h0 h64;have hk:Lib.ctz 64 x<36:=by
  apply Classical.byContradiction;intro hn;have h1:=(hb (Lib.ctz 64 x)).2.1 rfl;rw[Nat.testBit_lt_two_pow (Nat.lt_of_lt_of_le h (Nat.pow_le_pow_right (by omega) (by omega)))] at h1
  cases h1
 refine⟨?_,hk⟩;generalize hc:Lib.ctz 64 x=k at *;unfold zDg;have hs:List.range 36=List.range k++(k :: (List.range (36 - (k+1))).map (·+(k+1))):=by
  have h1:List.range 36=List.range ((k+1)+(36 - (k+1))):=by congr 1;omega
  rw[h1,List.range_add,List.range_succ,List.append_assoc]
  congr 1
  simp only[List.singleton_append,List.cons.injEq,true_and];apply List.map_congr_left;intro a _;omega
 rw[hs,List.filter_append,List.filter_append,List.filter_cons,List.filter_cons];have e1:(List.range k).filter (fun i=>x.testBit i)=[]:=List.filter_eq_nil_iff.2 fun a ha=>by
  rw[(hb a).1 (List.mem_range.1 ha)];simp
 have e2:(List.range k).filter (fun i=>(x &&& (x - 1)).testBit i)=[]:=List.filter_eq_nil_iff.2 fun a ha=>by
  rw[(hb a).2.2,(hb a).1 (List.mem_range.1 ha)];simp
 have e3:x.testBit k=true:=(hb k).2.1 rfl;have e4:(x &&& (x - 1)).testBit k=false:=by rw[(hb k).2.2];simp
 rw[e1,e2,e3,e4,if_pos rfl,if_neg (by simp),List.nil_append,List.nil_append]
 congr 1
 apply List.filter_congr;intro a ha;obtain⟨b,_,rfl⟩:=List.mem_map.1 ha;rw[(hb _).2.2,show decide (b+(k+1)=k)=false by simp;omega];simp
def zBY (vs:List MVar) (p:Nat):Cla:=(zDg p).map fun i=>⟨((i / 6:Nat):Int),3,(zAJ vs (i / 6)).lo+((i % 6:Nat):Int)⟩
theorem zD7 (vs:List MVar) (p:Nat):(zBY vs p).length≤36:=by
 unfold zBY zDg;rw[List.length_map];exact Nat.le_trans (List.length_filter_le _ _) (by simp)
def zCF (says:Nat→Bool):Nat→Nat→Nat→Nat
 | 0,gone,_=>gone
 | f+1,gone,rest=>if rest=0 then gone else zCF says f (if says (zAL gone (2 ^ Lib.ctz 64 rest)) then zAL gone (2 ^ Lib.ctz 64 rest) else gone) (rest &&& (rest - 1))
theorem zIo (says:Nat→Bool):∀(f gone rest:Nat),says gone=true→says (zCF says f gone rest)=true
 | 0,gone,rest,h=>h
 | f+1,gone,rest,h=>by
   unfold zCF
   split
   ·exact h
   ·apply zIo
    split
    ·assumption
    ·exact h
theorem zHe (says:Nat→Bool):∀(f gone rest i:Nat),(zCF says f gone rest).testBit i=true→gone.testBit i=true
 | 0,gone,rest,i,h=>h
 | f+1,gone,rest,i,h=>by
   unfold zCF at h
   split at h
   ·exact h
   ·have:=zHe says f _ _ i h
    split at this
    ·rw[zAO,Bool.and_eq_true] at this
     exact this.1
    ·exact this
theorem zIp (says:Nat→Bool):∀(f g gone rest:Nat),rest<f→rest<g→rest<2 ^ 64→zCF says f gone rest=zCF says g gone rest
 | 0,g,gone,rest,hf,hg,_=>by omega
 | f+1,0,gone,rest,hf,hg,_=>by omega
 | f+1,g+1,gone,rest,hf,hg,h=>by
   unfold zCF
   split
   ·rfl
   ·rename_i h0
    have:=zG6 rest h0 h;exact zIp says f g _ _ (by omega) (by omega) (by omega)
theorem zNs (says:Nat→Bool) (gone rest:Nat) (h0:rest≠0) (h:rest<2 ^ 64):zCF says (rest+1) gone rest=zCF says ((rest &&& (rest - 1))+1) (if says (zAL gone (2 ^ Lib.ctz 64 rest)) then zAL gone (2 ^ Lib.ctz 64 rest) else gone) (rest &&& (rest - 1)):=by
 conv=>lhs;unfold zCF
 rw[if_neg h0];have:=zG6 rest h0 h;exact zIp says _ _ _ _ (by omega) (by omega) (by omega)
theorem zDb (lo hi x:Int):x∈zIJ lo hi↔lo≤x∧x≤hi:=by
 refine⟨fun h=>?_,fun h=>zMu lo hi x h.1 h.2⟩
 unfold zIJ at h;obtain⟨k,hk,rfl⟩:=List.mem_map.1 h;have:=List.mem_range.1 hk;omega
theorem zD8 (vs:List MVar) (c:MCon):∀(r u:List Int) (a p:Nat),(∀v∈r,0≤v∧v<(vs.length:Int))→u.length=vs.length→p∈zAm vs c r u a →
 ∃u':List Int,u'.length=vs.length∧zAR c u'=true∧(∀v∈r,(zAJ vs v.toNat).lo≤zAf u' v∧zAf u' v≤(zAJ vs v.toNat).hi)∧(∀w:Int,(∀v∈r,v.toNat≠w.toNat)→zAf u' w=zAf u w) ∧
  (∀i,a.testBit i=true→p.testBit i=true)∧∀v∈r,p.testBit (6 * v.toNat+(zAf u' v - (zAJ vs v.toNat).lo).toNat)=true
 | [],u,a,p,_,hu,hp=>by
   unfold zAm at hp
   split at hp
   ·rename_i hh
    rw[List.mem_singleton.1 hp];exact⟨u,hu,hh,(fun v hv=>by cases hv),(fun _ _=>rfl),(fun _ h=>h),(fun v hv=>by cases hv)⟩
   ·cases hp
 | v :: r,u,a,p,hr,hu,hp=>by
   unfold zAm at hp;obtain⟨x,hx,hp⟩:=List.mem_flatMap.1 hp;obtain⟨h1,h2⟩:=(zDb _ _ _).1 hx;obtain⟨v0,v1⟩:=hr v (List.mem_cons_self ..);obtain⟨u',l1,l2,l3,l4,l5,l6⟩:=zD8 vs c r _ _ p (fun y hy=>hr y (List.mem_cons_of_mem _ hy)) (by simpa using hu) hp
   have key:(∀y∈r,y.toNat≠v.toNat)→zAf u' v=x:=fun hq=>by rw[l4 v hq,zE8 _ _ _ (by omega)]
   have same:∀y∈r,y.toNat=v.toNat→y=v:=fun y hy he=>by
    have:=hr y (List.mem_cons_of_mem _ hy);omega
   refine⟨u',l1,l2,fun y hy=>?_,fun w hw=>?_,fun i hi=>l5 i (by rw[Nat.testBit_or,hi];rfl),fun y hy=>?_⟩
   ·rcases List.mem_cons.1 hy with rfl | hy
    ·by_cases hq:∃z∈r,z.toNat=y.toNat
     ·obtain⟨z,hz,he⟩:=hq
      rw[←same z hz he];exact l3 z hz
     ·rw[key fun z hz he=>hq ⟨z,hz,he⟩];exact⟨h1,h2⟩
    ·exact l3 y hy
   ·rw[l4 w (fun y hy=>hw y (List.mem_cons_of_mem _ hy)),zGe _ _ _ _ (hw v (List.mem_cons_self ..))]
   ·rcases List.mem_cons.1 hy with rfl | hy
    ·by_cases hq:∃z∈r,z.toNat=y.toNat
     ·obtain⟨z,hz,he⟩:=hq
      rw[←same z hz he];exact l6 z hz
     ·rw[key fun z hz he=>hq ⟨z,hz,he⟩]
      refine l5 _ ?_;rw[Nat.testBit_or,zCA];simp
    ·exact l6 y hy
theorem zJg (p i:Nat) (hi:i<36):i∈zDg p↔p.testBit i=true:=by
 unfold zDg;rw[List.mem_filter,List.mem_range];exact⟨fun h=>h.2,fun h=>⟨hi,h⟩⟩
theorem zIq (vs:List MVar) (hv:zAc vs) (hb:∀v:Nat,v<vs.length→-50≤(zAJ vs v).lo∧(zAJ vs v).hi≤50) (p:Nat) (hp:∀i,p.testBit i=true→(zAE vs).testBit i=true):∀l∈zBY vs p,litE vs l=0:=by
 intro l hl;obtain⟨i,hi,rfl⟩:=List.mem_map.1 hl;unfold zDg at hi;have h1:=hp i (List.mem_filter.1 hi).2;unfold zAE ofP at h1;rw[zAd vs hv] at h1;simp only[Bool.and_eq_true,decide_eq_true_eq] at h1;have h2:=hb (i / 6) h1.1;have h3:=h1.2.1;unfold zBj at h3;unfold litE;simp only;rw[if_neg (by omega),if_neg (by omega),if_neg (by omega)]
theorem zCe (m:Mod) (hm:zAG m=0) (v:Nat) (h:v<m.vars.length):-50≤(zAJ m.vars v).lo∧(zAJ m.vars v).hi≤50:=by
 have e:m.vars[v]? = some (zAJ m.vars v):=by unfold zAJ;rw[List.getD_eq_getElem?_getD,List.getElem?_eq_getElem h];rfl
 have:=zHG m hm v _ e;omega
theorem zFJ (l:List Int) (h:∀e∈l,e=0):zAj l=0:=by
 induction l with
 | nil=>rfl
 | cons a r ih =>
   unfold zAj;rw[if_pos (h a (List.mem_cons_self ..))];exact ih fun e he=>h e (List.mem_cons_of_mem _ he)
theorem zFk {w:World} {base:Nat} {v:Value} {r:List Int} (h:w.ownsRow base 3 1 v r.length (r.map (Value.int .i64))):IArg w v r:=by
 rcases h.2 with ⟨rfl,hn⟩ | ⟨g,cap,cur,rfl,hg,hh,hc1,hc2,_,_⟩
 ·have:r=[]:=List.eq_nil_of_length_eq_zero hn
  subst this;exact⟨none,0,rfl,⟨Nat.le_refl _,Nat.zero_le _⟩,fun i z hz=>by simp at hz⟩
 ·refine⟨_,cap,rfl,⟨hc1,hc2⟩,fun i z hz=>⟨g,0,rfl,(Array.getElem?_eq_some_iff.1 hh).1,?_⟩⟩
  have hi:i<r.length:=(List.getElem?_eq_some_iff.1 hz).1;rw[Nat.zero_add,h.cellAt i (by omega),List.getElem?_map,hz];rfl
theorem zQ2 {w:World} {base base':Nat} {e:TypeId} {size:Nat} {v:Value} {n:Nat} {xs:List Value} (h:w.ownsRow base e size v n xs) (hb:base'≤base):w.ownsRow base' e size v n xs:=by
 refine⟨h.1,?_⟩;rcases h.2 with hn | ⟨g,cap,cur,hv,hg,r⟩
 ·exact .inl hn
 ·exact .inr ⟨g,cap,cur,hv,Nat.le_trans hb hg,r⟩
theorem zDc {w w':World} {base:Nat} {e:TypeId} {size:Nat} {v:Value} {n:Nat} {xs:List Value} (h:w.ownsRow base e size v n xs) (hk:∀g,v.ownBlock=some g→w'.heap[g]? = w.heap[g]?):w'.ownsRow base e size v n xs:=by
 refine⟨h.1,?_⟩;rcases h.2 with hn | ⟨g,cap,cur,hv,hg,hh,r⟩
 ·exact .inl hn
 ·exact .inr ⟨g,cap,cur,hv,hg,by rw[hk g (by rw[hv];rfl)];exact hh,r⟩
def zLe (w:World) (base B n:Nat) (cells:List Value) (M:Sto) (k:Nat):Prop :=
 w.ownsRow base 42 1 (.slice (some ⟨B,0,none⟩) n n) n cells ∧
 (∀i r,i<k→M[i]? = some r→∃x,cells[i]? = some x∧w.ownsRow (B+1) 3 1 x r.length (r.map (Value.int .i64))) ∧
 (∀i,k≤i→i<n→cells[i]? = some (.slice none 0 0))
def zEa (w:World) (base B n:Nat) (cells:List Value) (M:Sto) (k K:Nat) (acc:List Int):Prop :=
 w.ownsRow base 42 1 (.slice (some ⟨B,0,none⟩) n n) n cells ∧
 (∀i r,i<k→M[i]? = some r→∃x,cells[i]? = some x∧w.ownsRow (B+1) 3 1 x r.length (r.map (Value.int .i64))∧∀g,x.ownBlock=some g→g<K) ∧
 (∃x,cells[k]? = some x∧w.ownsRow K 3 1 x acc.length (acc.map (Value.int .i64))) ∧
 (∀i,k<i→i<n→cells[i]? = some (.slice none 0 0))∧B<K∧K≤w.heap.size∧k<n
theorem zEa.done {w:World} {base B n:Nat} {cells:List Value} {M:Sto} {k K:Nat} {acc:List Int} (h:zEa w base B n cells M k K acc) (hM:M[k]? = some acc):zLe w base B n cells M (k+1):=by
 obtain⟨h1,h2,⟨x,hx,ho⟩,h4,h5,_,_⟩:=h;refine⟨h1,fun i r hi hr=>?_,fun i hi hn=>h4 i (by omega) hn⟩
 by_cases hik:i<k
 ·obtain⟨y,hy,hoy,_⟩:=h2 i r hik hr
  exact⟨y,hy,hoy⟩
 ·obtain rfl:i=k:=by omega
  rw[hM] at hr;cases hr;exact⟨x,hx,zQ2 ho (by omega)⟩
theorem zEa.kept {w w':World} {base B n:Nat} {cells:List Value} {M:Sto} {k K:Nat} {acc:List Int} (h:zEa w base B n cells M k K acc) (hb:Below w.heap.size w w'):zEa w' base B n cells M k K acc:=by
 obtain⟨h1,h2,⟨x,hx,ho⟩,h4,h5,h6,h7⟩:=h;refine⟨zAB h1 hb,fun i r hi hr=>?_,⟨x,hx,zAB ho hb⟩,h4,h5,Nat.le_trans h6 hb.size,h7⟩
 obtain⟨y,hy,hoy,hg⟩:=h2 i r hi hr;exact⟨y,hy,zAB hoy hb,hg⟩
theorem zLe.kept {w w':World} {base B n:Nat} {cells:List Value} {M:Sto} {k:Nat} (h:zLe w base B n cells M k) (hb:Below w.heap.size w w'):zLe w' base B n cells M k:=by
 obtain⟨h1,h2,h3⟩:=h;refine⟨zAB h1 hb,fun i r hi hr=>?_,h3⟩
 obtain⟨y,hy,hoy⟩:=h2 i r hi hr;exact⟨y,hy,zAB hoy hb⟩
theorem zEa.push {w w3:World} {base B n:Nat} {cells:List Value} {M:Sto} {k K:Nat} {acc:List Int} {x v3:Value} {z:Int} (h:zEa w base B n cells M k K acc) (hx:cells[k]? = some x)
 (ho:w3.ownsRow K 3 1 v3 (acc++[z]).length ((acc++[z]).map (Value.int .i64))) (hg:w.grownBy w3 x.ownBlock) :
 zEa (w3.setCell ⟨B,k,none⟩ v3) base B n (cells.set k v3) M k K (acc++[z]):=by
 obtain⟨h1,h2,⟨y,hy,hoy⟩,h4,h5,h6,h7⟩:=h;rw[hx] at hy;cases hy;have hxK:∀g,x.ownBlock=some g→K≤g:=fun g hg=>(hoy.lt g hg).1
 have hB:B<w.heap.size:=(h1.lt B rfl).2;have hne:some B≠x.ownBlock:=fun h=>by have:=hxK B h.symm;omega
 have h13:w3.ownsRow base 42 1 (.slice (some ⟨B,0,none⟩) n n) n cells:=h1.kept hg (Or.inr hne);have hlen:cells.length=n:=by have:=h1.1;omega
 refine⟨(h13.stored k v3).1,fun i r hi hr=>?_,⟨v3,by rw[List.getElem?_set_self (by omega)],?_⟩,fun i hi hn=>by rw[List.getElem?_set_ne (by omega)];exact h4 i hi hn,h5,?_,h7⟩
 ·obtain⟨y,hy,hoy2,hgy⟩:=h2 i r hi hr
  refine⟨y,by rw[List.getElem?_set_ne (by omega)];exact hy,?_,hgy⟩
  have h23:w3.ownsRow (B+1) 3 1 y r.length (r.map (Value.int .i64)):=by
   refine hoy2.kept hg ?_;cases hyb:y.ownBlock with
   | none=>exact Or.inl rfl
   | some g =>
     refine Or.inr fun he=>?_
     have:=hxK g he.symm;have:=hgy g hyb;omega
  refine zDc h23 fun g hg2=>Below.heap_setCell _ _ _ _ ?_
  have:=(hoy2.lt g hg2).1;simp only;omega
 ·refine zDc ho fun g hg2=>Below.heap_setCell _ _ _ _ ?_
  have:=(ho.lt g hg2).1;simp only;omega
 ·have:=hg.size;simp;omega
theorem zLe.rarg {w:World} {base B n:Nat} {cells:List Value} {M:Sto} (h:zLe w base B n cells M n) (hM:M.length=n):RArg w (.slice (some ⟨B,0,none⟩) n n) M:=by
 obtain⟨h1,h2,_⟩:=h;have hB:B<w.heap.size:=(h1.lt B rfl).2;have hmx:n≤maxLen:=by
  rcases h1.2 with ⟨h',_⟩ | ⟨g,cap,cur,h',_,_,hc1,hc2,_⟩
  ·cases h'
  ·exact Nat.le_trans hc1 hc2
 refine⟨_,n,by rw[hM],⟨by omega,hmx⟩,fun i r hr=>?_⟩
 have hi:i<n:=by rw[←hM];exact (List.getElem?_eq_some_iff.1 hr).1
 obtain⟨x,hx,ho⟩:=h2 i r hi hr;exact⟨B,0,x,rfl,hB,by rw[Nat.zero_add,h1.cellAt i (by omega)];exact hx,zFk ho⟩
def Old (N:Nat) (w:World) (P:World→Prop):Prop:=∃w0:World,w0.heap.size≤N∧P w0∧Below w0.heap.size w0 w
theorem Old.below {N:Nat} {w w':World} {P:World→Prop} (h:Old N w P) (hb:Below N w w'):Old N w' P:=by
 obtain⟨w0,h1,h2,h3⟩:=h;exact⟨w0,h1,h2,h3.trans (hb.mono h1)⟩
theorem zNt (vals:List Int) (k:Nat) (x:Int) (h:∀y∈vals,-50≤y∧y≤50) (hx:-50≤x∧x≤50):∀y∈vals.set k x,-50≤y∧y≤50:=by
 intro y hy;rcases List.mem_or_eq_of_mem_set hy with h1 | h1
 ·exact h y h1
 ·rw[h1];exact hx
end Go.Proofs.YtndcpnlaadikoaaGreatDoor
