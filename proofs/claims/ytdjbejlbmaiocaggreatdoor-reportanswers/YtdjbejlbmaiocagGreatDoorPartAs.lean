/- What the proof leans on, part 19. -/
import Derived.Test.YtdjbejlbmaiocagGreatDoorPartAr
import Derived.Test.YtdjbejlbmaiocagGreatDoorPartAn
import Derived.Test.YtdjbejlbmaiocagGreatDoorPartAj
import Derived.Test.YtdjbejlbmaiocagGreatDoorPartAq
set_option maxRecDepth 100000
set_option maxHeartbeats 6400000
namespace Go.Proofs.YtdjbejlbmaiocagGreatDoor
open Go.RowKit
abbrev RV:=(MStep×Nat)×Value
def zBI (x:RV):List Value:=[.int .i64 x.1.1.kind,.int .i64 x.1.1.con,x.2,.int .u64 (x.1.2:Int)]
def IsSl (x:RV):Prop:=∃a n c,x.2=.slice a n c
theorem zEM (l:List RV):∀c∈l.map zBI,c.length=4:=by
 intro c hc;obtain⟨t,_,rfl⟩:=List.mem_map.1 hc;rfl
theorem zFt (l:List RV) (h:∀x∈l,IsSl x):∀c∈l.map zBI,∀u∈c,u.oneCell'=true:=by
 intro c hc u hu;obtain⟨t,ht,rfl⟩:=List.mem_map.1 hc;obtain⟨a,n,c,he⟩:=h t ht;simp[zBI,he] at hu;rcases hu with rfl | rfl | rfl | rfl <;> rfl
def ROwn (base:Nat) (w:World) (v:Value) (l:List RV):Prop:=w.ownsRow base 287 4 v l.length (l.map zBI).flatten
def zGx (w:World) (v:Value) (l:List RV):Prop:=EArg w v (l.map zBI)
theorem zGx.below {w w':World} {v:Value} {l:List RV} (hb:Below w.heap.size w w') (h:zGx w v l):zGx w' v l:=EArg.below hb h
theorem zQR {w:World} {v:Value} {l:List RV} (h:zGx w v l):∃a c,v=.slice a l.length c:=by
 obtain⟨a,c,rfl,_,_⟩:=h;exact⟨a,c,by rw[List.length_map]⟩
theorem ROwn.arg {base:Nat} {w:World} {v:Value} {l:List RV} (h:ROwn base w v l):zGx w v l:=zSK (zEM l) (by rw[List.length_map];exact h)
theorem zEi {base base':Nat} {w:World} {v:Value} {l:List RV} (hb:base'≤base) (h:ROwn base w v l):ROwn base' w v l:=World.ownsRow.mono h hb
def zTB (F:Nat) (caps:Array Value) (enough:List RV→Bool) (l:List RV) (w:World):Prop :=
 (∀(args:Array Value) (w':World),Sem.run Tryz.prog (callFunc F args) w'=.ok (.enter F args) w') ∧
 ∀(c:List RV) (v:Value) (w':World),c.length≤l.length→(∀x∈c,x∈l)→Below w.heap.size w w'→zGx w' v c→Calls Tryz.prog F (#[v]++caps) w' fun e w''=>e=.returned (.bool (enough c))∧Below w'.heap.size w' w''
theorem zOq (l:List RV) (h1:∀x∈l,IsSl x) (k:Nat) (hk:k<l.length) (base:Nat) (v:Value) (w:World) (h:ROwn base w v l) :
 Calls Tryz.prog 282 #[v,.int .i64 k,.int .i64 ((k:Int)+1)] w fun e w'=>∃x,e=.returned x∧ROwn base w' x (l.eraseIdx k)∧Below base w w':=by
 refine (zMr (l.map zBI) (zEM l) (zFt l h1) k (by rw[List.length_map];exact hk) base v w (by rw[List.length_map];exact h)).mono ?_
 rintro e w' ⟨x,rfl,hx,hb⟩;rw[zIP,List.length_map] at hx;exact⟨x,rfl,hx,hb⟩
theorem zHP (l:List RV) (h1:∀x∈l,IsSl x) (hl:l.length≤9000) (v:Value) (w:World) (h:zGx w v l) :
 Calls Tryz.prog 281 #[v] w fun e w'=>∃x,e=.returned x∧ROwn w.heap.size w' x l∧Below w.heap.size w w':=by
 refine (zKR (l.map zBI) (zEM l) (zFt l h1) (by rw[List.length_map];exact hl) v w h).mono ?_
 rintro e w' ⟨x,rfl,hx,hb⟩;rw[List.length_map] at hx;exact⟨x,rfl,hx,hb⟩
theorem zKS (F:Nat) (caps:Array Value) (enough:List RV→Bool) (l:List RV) (hsl:∀x∈l,IsSl x) (hl:l.length≤9000) (v:Value) (w:World) (hv:zGx w v l) (hF:zTB F caps enough l w) :
 Calls Tryz.prog 255 #[v,.func (.func F) #[] caps] w fun e w'=>∃x,e=.returned x∧ROwn w.heap.size w' x (zA4 enough l.length l)∧Below w.heap.size w w':=by
 have HV:Hid (zGx w v l):=hv;have HSL:Hid (∀x∈l,IsSl x):=hsl;have HL:Hid (l.length≤9000):=hl;have HF:Hid (zTB F caps enough l w):=hF;obtain⟨R,hR⟩:∃R,zA4 enough l.length l=R:=⟨_,rfl⟩;have HR:Hid (R=zA4 enough l.length l):=hR.symm;rw[hR];obtain⟨a,c,rfl⟩:=zQR hv;clear hF hR hsl;go_enter Tryz.func255,Tryz.ntmps255
 go_wp2_with fail
 refine (zHP l HSL.out HL.out _ _ HV.out).mono ?_;rintro e w1 ⟨x,rfl,hx,hb1⟩;have HX:Hid (ROwn w.heap.size w1 x l):=hx;have HB1:Hid (Below w.heap.size w w1):=hb1;obtain⟨ax,cx,rfl⟩:=zAB (show w1.ownsRow _ _ _ _ _ _ from hx)
 clear hx hb1;go_wp2_with fail
 go_loopw [5,6] (fun o i wr=>∃(out:List RV) (k:Nat),i=.int .i64 ((k:Int) - 1)∧k≤out.length∧Hid (out.length≤l.length)∧Hid (∀x∈out,x∈l)∧ROwn w.heap.size wr o out∧Hid (R=zA4 enough k out)∧Below w.heap.size w wr) (fun _ i _=>(intOf i+1).toNat)
 case atStart=>exact⟨l,l.length,rfl,Nat.le_refl _,Nat.le_refl _,fun _ h=>h,HX.out,HR,HB1.out⟩
 case round =>
  obtain⟨out,k,rfl,hk,hlo,hso,ho,hrd,hbw⟩:=hrel;have HSO:Hid (∀x∈out,IsSl x):=fun x hx=>HSL.out x (hso.out x hx)
  have HO:Hid (ROwn w.heap.size wr u5 out):=ho;have HBW:Hid (Below w.heap.size w wr):=hbw;obtain⟨ao,co,rfl⟩:=zAB (show wr.ownsRow _ _ _ _ _ _ from ho)
  clear ho hbw;cases k with
  | zero =>
    have HE:Hid (R=out):=hrd.out;clear hrd;go_wp2
    go_ret
    exact⟨_,rfl,by rw[HE.out];exact HO.out,HBW.out⟩
  | succ k =>
    have hke:((k+1:Nat):Int) - 1=(k:Int):=by omega
    rw[hke];have HST:Hid (R=zA4 enough k (if enough (out.eraseIdx k) then out.eraseIdx k else out)):=hrd.out
    have HLO:Hid (out.length≤9000):=Nat.le_trans hlo.out HL.out;have HEL:Hid ((out.eraseIdx k).length=out.length - 1):=List.length_eraseIdx_of_lt (by omega)
    have hk9:k+1≤9000:=Nat.le_trans hk HLO.out;clear hrd hke;go_wp2_with fail
    refine (zHP out HSO.out HLO.out _ _ HO.out.arg).mono ?_;rintro e w2 ⟨y,rfl,hy,hb2⟩;have HY:Hid (ROwn w.heap.size w2 y out):=zEi HBW.out.size hy;have HY2:Hid (ROwn wr.heap.size w2 y out):=hy;have HO2:Hid (ROwn w.heap.size w2 (.slice ao (List.length out) co) out):=zAG HO.out hb2;have HBR:Hid (Below wr.heap.size wr w2):=hb2;have HB2:Hid (Below w.heap.size w w2):=HBW.out.trans (hb2.mono HBW.out.size);obtain⟨ay,cy,rfl⟩:=zAB (show w2.ownsRow _ _ _ _ _ _ from hy)
    clear hy hb2;go_wp2_with fail
    refine (zOq out HSO.out k (by omega) wr.heap.size _ _ HY2.out).mono ?_
    rintro e w3 ⟨z,rfl,hz,hb3⟩;have HZ:Hid (ROwn w.heap.size w3 z (out.eraseIdx k)):=zEi HBW.out.size hz;have HBR3:Hid (Below wr.heap.size wr w3):=HBR.out.trans hb3;have HO3:Hid (ROwn w.heap.size w3 (.slice ao (List.length out) co) out):=zAG HO.out HBR3.out;have HB3:Hid (Below w.heap.size w w3):=HBW.out.trans (HBR3.out.mono HBW.out.size);obtain⟨az,cz,rfl⟩:=zAB (show w3.ownsRow _ _ _ _ _ _ from hz)
    have HCL:Hid (Calls Tryz.prog F (#[.slice az (out.eraseIdx k).length cz]++caps) w3 fun e w''=>e=.returned (.bool (enough (out.eraseIdx k)))∧Below w3.heap.size w3 w''):=HF.out.2 _ _ _ (by have:=hlo.out;have:=HEL.out;omega) (fun x hx=>hso.out x (List.mem_of_mem_eraseIdx hx)) HB3.out HZ.out.arg
    obtain⟨B,hB⟩:∃B,enough (out.eraseIdx k)=B:=⟨_,rfl⟩;rw[hB] at HCL HST;have HSE:Hid (∀x∈out.eraseIdx k,x∈l):=fun x hx=>hso.out x (List.mem_of_mem_eraseIdx hx)
    obtain⟨E,hE⟩:∃E,out.eraseIdx k=E:=⟨_,rfl⟩;rw[hE] at HCL HST HEL HZ HSE ⊢;have HLK:Hid (E.length≤l.length):=by have:=hlo.out;have:=HEL.out;show _≤_;omega
    have hkE:k≤E.length:=by have:=HEL.out;omega
    clear hz hb3 hB hE;go_wp2_with fail
    rw[HF.out.1,Oper.upon_enter];refine HCL.out.mono ?_;rintro e w4 ⟨rfl,hb4⟩;have HO4:Hid (ROwn w.heap.size w4 (.slice ao (List.length out) co) out):=zAG HO3.out hb4;have HZ4:Hid (ROwn w.heap.size w4 (.slice az (List.length E) cz) E):=zAG HZ.out hb4;have HB4:Hid (Below w.heap.size w w4):=HB3.out.trans (hb4.mono HB3.out.size);clear hb4;cases B
    ·have HN:Hid (R=zA4 enough k out):=HST.out
     clear HST;go_wp2
     go_roundw
     case rel=>exact⟨out,k,rfl,by omega,hlo,hso,HO4.out,HN,HB4.out⟩
     case measure=>simp[intOf]
    ·have HN:Hid (R=zA4 enough k E):=HST.out
     clear HST;go_wp2
     go_roundw
     case rel=>exact⟨E,k,rfl,hkE,HLK,HSE,HZ4.out,HN,HB4.out⟩
     case measure=>simp[intOf]
theorem zTZ (vs:List MVar) (hva:zAW vs) (pts:List Nat) (any:Cla) (hla:any.length≤100) (g0:Nat) (hgw:∀i,g0.testBit i=true→(zAD vs).testBit i=true) (sv pv u:Value) (w:World) (hv:VArg w sv vs) (hp:PArg w pv pts) (hu:LArg w u any) (hT:TabT w) :
 Calls Tryz.prog 285 #[sv,pv,u,.int .u64 g0] w fun e w'=>∃x,e=.returned x∧LOwn w.heap.size w' x (whyP vs pts any g0)∧Below w.heap.size w w':=by
 have HV:Hid (∀w',Below w.heap.size w w'→VArg w' sv vs):=fun w' h=>VArg.below h hv
 have HP:Hid (∀w',Below w.heap.size w w'→PArg w' pv pts):=fun w' h=>PArg.below h hp
 have HU:Hid (∀w',Below w.heap.size w w'→LArg w' u any):=fun w' h=>LArg.below h hu
 have HT:Hid (∀w',Below w.heap.size w w'→TabT w'):=fun w' h=>hT.below h
 have HVO:Hid (zAW vs):=hva;have HLA:Hid (any.length≤100):=hla;have HGW:Hid (∀i,g0.testBit i=true→(zAD vs).testBit i=true):=hgw;have HG36:Hid (g0<2 ^ 36):=Nat.lt_of_le_of_lt (Nat.le_of_testBit hgw) (zB6 vs hva.1);obtain⟨h,hh⟩:∃h,zAH vs any=h:=⟨_,rfl⟩;have HH:Hid (zAH vs any=h):=hh;have HH36:Hid (h<2 ^ 36):=by rw[←hh];exact zGN vs hva.1 _
 obtain⟨LP,hLP⟩:∃LP,zCu (fun g=>zCy vs pts (h ||| g)) (g0+1) g0 g0=LP:=⟨_,rfl⟩
 have HWY:Hid (whyP vs pts any g0=any++zBj vs LP):=by show _=_;unfold whyP;rw[hh,hLP]
 have HLE:Hid (LP=zCu (fun g=>zCy vs pts (h ||| g)) (g0+1) g0 g0):=hLP.symm
 obtain⟨a1,c1,rfl,_,_⟩:=hv;obtain⟨a2,c2,rfl,_,_⟩:=hp;obtain⟨a3,c3,rfl,_,_⟩:=hu;clear hva hla hgw hh hLP hT;go_enter Tryz.func285,Tryz.ntmps285
 go_wp2_with fail
 refine (zEL vs HVO.out any _ _ _ (HV.out _ (Below.refl _ _)) (HU.out _ (Below.refl _ _))).mono ?_;rintro e w1 ⟨rfl,hb1⟩;rw[HH.out];have HB1:Hid (Below w.heap.size w w1):=hb1;clear hb1;go_wp2_with fail
 go_loopw [3,10] (fun g r wr=>∃gg rr:Nat,g=.int .u64 (gg:Int)∧r=.int .u64 (rr:Int)∧Hid (gg<2 ^ 36)∧Hid (rr<2 ^ 36)∧Hid (LP=zCu (fun g=>zCy vs pts (h ||| g)) (rr+1) gg rr)∧Hid (∀i,gg.testBit i=true→(zAD vs).testBit i=true)∧Hid (Below w.heap.size w wr)) (fun _ r _=>(intOf r).toNat)
 case atStart=>exact⟨g0,g0,rfl,rfl,HG36,HG36,HLE,HGW,HB1⟩
 case round =>
  obtain⟨gg,rr,rfl,rfl,hg36,hr36,hle,hgw,hbw⟩:=hrel;by_cases hr0:rr=0
  ·subst hr0
   have HEQ:Hid (LP=gg):=by show _=_;rw[hle.out];rfl
   clear hle;go_wp2_with fail
   refine (zLM any (by have:=HLA.out;omega) _ _ (HU.out _ hbw.out)).mono ?_
   rintro e w2 ⟨x,rfl,hx,hb2⟩;have HB2:Hid (Below w.heap.size w w2):=hbw.out.trans (hb2.mono hbw.out.size);have HX:Hid (LOwn w.heap.size w2 x any):=zBS hbw.out.size hx;have HSZ:Hid (w.heap.size≤w2.heap.size):=HB2.out.size;obtain⟨ax,cx,rfl⟩:=zAB (show w2.ownsRow _ _ _ _ _ _ from hx)
   clear hx hb2;go_wp2_with fail
   refine (zIN vs HVO.out gg hgw.out _ _ (HV.out _ HB2.out) (HT.out _ HB2.out)).mono ?_;rintro e w3 ⟨y,rfl,hy,hb3⟩;have HX3:Hid (LOwn w.heap.size w3 (.slice ax (List.length any) cx) any):=zAG HX.out hb3;have HB3:Hid (Below w.heap.size w w3):=HB2.out.trans (hb3.mono HB2.out.size);have HLL:Hid ((zBj vs gg).length≤36):=zEr _ _;obtain⟨L,hL⟩:∃L,zBj vs gg=L:=⟨_,rfl⟩;have HRE:Hid (whyP vs pts any g0=any++L):=by show _=_;rw[HWY.out,HEQ.out,hL]
   rw[hL] at hy HLL;have HY:Hid (LArg w3 y L):=hy.arg;have HXL:Hid (∀g,(Value.slice ax (List.length any) cx).ownBlock=some g→w.heap.size≤g):=fun g hg=>((show w3.ownsRow _ _ _ _ _ _ from HX3.out).lt g hg).1
   obtain⟨ay,cy,rfl⟩:=zAB (show w3.ownsRow _ _ _ _ _ _ from hy)
   clear hy hb3 hL;go_wp2_with (at_builtin;refine zC4 38 zD6 rfl _ _ rfl w.heap.size _ any rfl HX3.out _ L rfl HY.out ?c1 ?c2 ?_)
   case c1=>have:=HLL.out;have:=HLA.out;omega
   case c2=>exact HB3.out.size
   intro v4 w4 hown4 hgrow;have HO4:Hid (LOwn w.heap.size w4 v4 (any++L)):=hown4;have HB4:Hid (Below w.heap.size w w4):=HB3.out.grown hgrow HB3.out.size (fun g hg=>HXL.out g hg)
   obtain⟨av,cv,rfl⟩:=zAB (show w4.ownsRow _ _ _ _ _ _ from hown4)
   clear hown4 hgrow;go_wp2
   go_ret
   exact⟨_,rfl,by rw[HRE.out];exact HO4.out,HB4.out⟩
  ·have HST:Hid (LP=zCu (fun g=>zCy vs pts (h ||| g)) ((rr &&& (rr - 1))+1) (if zCy vs pts (h ||| zAL gg (2 ^ Lib.ctz 64 rr)) then zAL gg (2 ^ Lib.ctz 64 rr) else gg) (rr &&& (rr - 1))):=by
    show _=_;rw[hle.out];exact zOZ _ gg rr hr0 (by have:=hr36.out;omega)
   obtain⟨hlow,hk⟩:=Lib.lowest_bit 64 rr hr0 (by have:=hr36.out;omega)
   have hless:=zHf rr hr0 (by have:=hr36.out;omega)
   obtain⟨hk36⟩:Nonempty (Lib.ctz 64 rr<36):=⟨(zFe rr hr0 hr36.out).2⟩;have hpow:2 ^ Lib.ctz 64 rr<2 ^ 36:=Nat.pow_lt_pow_right (by omega) hk36
   obtain⟨tt,htt⟩:∃tt,2 ^ Lib.ctz 64 rr=tt:=⟨_,rfl⟩;rw[htt] at hlow hpow HST;have hneg:IntKind.u64.wrap (-(rr:Int))=((18446744073709551616 - rr:Nat):Int):=by rw[IntKind.wrap_u64];have:=hr36.out;omega
   have hand:=bits_and_u64_nat rr (18446744073709551616 - rr) (by have:=hr36.out;omega) (by omega)
   have hlow':rr &&& (18446744073709551616 - rr)=tt:=hlow;rw[hlow'] at hand;obtain⟨N0,hN0⟩:∃N0,18446744073709551616 - rr=N0:=⟨_,rfl⟩;rw[hN0] at hneg hand;have hnot:=zAm gg tt (by have:=hg36.out;omega) (by omega)
   obtain⟨sp,hsp⟩:∃sp,zAL gg tt=sp:=⟨_,rfl⟩;have HSP36:Hid (sp<2 ^ 36):=by rw[←hsp];exact zCe 36 _ _ hg36.out
   have HSW:Hid (∀i,sp.testBit i=true→(zAD vs).testBit i=true):=fun i hi=>by
    rw[←hsp,zAR,Bool.and_eq_true] at hi;exact hgw.out i hi.1
   rw[hsp] at hnot HST;obtain⟨r2,hr2⟩:∃r2,rr &&& (rr - 1)=r2:=⟨_,rfl⟩;have hsub:IntKind.u64.wrap ((rr:Int) - 1)=((rr - 1:Nat):Int):=by rw[IntKind.wrap_u64];have:=hr36.out;omega
   have hand2:=bits_and_u64_nat rr (rr - 1) (by have:=hr36.out;omega) (by have:=hr36.out;omega)
   obtain⟨r1,hr1⟩:∃r1,rr - 1=r1:=⟨_,rfl⟩;rw[hr2] at hand2 hless HST;rw[hr1] at hsub hand2;have HR236:Hid (r2<2 ^ 36):=by have:=hr36.out;show _<_;omega
   have HLS:Hid (r2<rr):=hless;have hne:((rr:Int) != 0)=true:=by simpa using hr0
   have hor:=bits_or_u64_nat h sp (by have:=HH36.out;omega) (by have:=HSP36.out;omega)
   obtain⟨hs,hhs⟩:∃hs,h ||| sp=hs:=⟨_,rfl⟩
   have HHS36:Hid (hs<2 ^ 36):=by rw[←hhs];exact zIG HH36.out HSP36.out
   rw[hhs] at hor HST;obtain⟨B,hB⟩:∃B,zCy vs pts hs=B:=⟨_,rfl⟩;have HSY:Hid (Calls Tryz.prog 126 #[.slice a1 (List.length vs) c1,.slice a2 (List.length pts) c2,.int .u64 (hs:Int)] wr fun e w'=>e=.returned (.bool B)∧Below wr.heap.size wr w'):=by
    rw[←hB];exact zNs vs HVO.out pts hs HHS36.out _ _ wr (HV.out _ hbw.out) (HP.out _ hbw.out)
   rw[hB] at HST;have HGWK:Hid (∀i,gg.testBit i=true→(zAD vs).testBit i=true):=hgw.out;clear hle hr0 hlow hk hk36 hpow htt hlow' hN0 hsp hr2 hr1 hless hB hgw hhs;cases B
   ·have HS2:Hid (LP=zCu (fun g=>zCy vs pts (h ||| g)) (r2+1) gg r2):=by show _=_;rw[HST.out];rfl
    clear HST;go_wp2_with fail
    refine HSY.out.mono ?_;rintro e w7 ⟨rfl,hb7⟩;have HB7:Hid (Below w.heap.size w w7):=hbw.out.trans (hb7.mono hbw.out.size);clear hb7;go_wp2
    go_roundw
    case rel=>exact⟨gg,r2,rfl,rfl,hg36,HR236,HS2,HGWK,HB7⟩
    case measure=>simp[intOf];exact HLS.out
   ·have HS2:Hid (LP=zCu (fun g=>zCy vs pts (h ||| g)) (r2+1) sp r2):=by show _=_;rw[HST.out];rfl
    clear HST;go_wp2_with fail
    refine HSY.out.mono ?_;rintro e w7 ⟨rfl,hb7⟩;have HB7:Hid (Below w.heap.size w w7):=hbw.out.trans (hb7.mono hbw.out.size);clear hb7;go_wp2
    go_roundw
    case rel=>exact⟨sp,r2,rfl,rfl,HSP36,HR236,HS2,HSW,HB7⟩
    case measure=>simp[intOf];exact HLS.out
structure ReaS (w0:World) (r:Nat) (w:World) (ov:Value) (L:List RV):Prop where
 blk0:w.heap[w0.heap.size]? = some (.cells #[.pointer (some ⟨r,0,none⟩)] 117)
 blk:w.heap[w0.heap.size+1]? = some (.cells #[ov] 284)
 own:ROwn (w0.heap.size+2) w ov L
 cl:∀x∈L,LOwn (w0.heap.size+2) w x.2 x.1.1.cla
 fr:Below w0.heap.size w0 w
theorem ReaS.below {w0 w w':World} {r:Nat} {ov:Value} {L:List RV} (h:ReaS w0 r w ov L) (hb:Below w.heap.size w w'):ReaS w0 r w' ov L :=
 ⟨(hb.block _ (Array.getElem?_eq_some_iff.1 h.blk0).1).trans h.blk0,(hb.block _ (Array.getElem?_eq_some_iff.1 h.blk).1).trans h.blk,zAG h.own hb,fun x hx=>zAG (h.cl x hx) hb,h.fr.trans (hb.mono h.fr.size)⟩
theorem zCi {w:World} {B b:Nat} {e t:TypeId} {s n:Nat} {v:Value} {xs:List Value} {cs:Array Value} (h:w.ownsRow B e s v n xs) (hb:w.heap[b]? = some (.cells cs t)) (hne:t≠e):v.ownBlock≠some b:=by
 intro he;rcases h.2 with ⟨rfl,_⟩ | ⟨g,cap,cur,rfl,_,hh,_⟩
 ·cases he
 ·have:g=b:=by injection he
  subst this;rw[hh] at hb
  injection hb with h1
  injection h1 with _ h2
  exact hne h2.symm
theorem zMt (w:World) (x:RV):∀(j:Nat) (u:Value),(zBI x)[j]? = some u→(w.alloc (.cells #[.int .i64 x.1.1.kind,.int .i64 x.1.1.con,x.2,.int .u64 (x.1.2:Int)] 287)).cell? ((⟨w.heap.size,0,none⟩:Addr).add j)=some u:=by
 intro j u hj
 match j,hj with
 | 0,hj=>simp[zBI] at hj;subst hj;simp[Addr.add]
 | 1,hj=>simp[zBI] at hj;subst hj;simp[Addr.add]
 | 2,hj=>simp[zBI] at hj;subst hj;simp[Addr.add]
 | 3,hj=>simp[zBI] at hj;subst hj;simp[Addr.add]
theorem ReaS.push {w0 w w1 w2:World} {r:Nat} {ov v':Value} {L:List RV} {x:RV} {n:Nat} (h:ReaS w0 r w ov L) (hb:Below w.heap.size w w1) (hx:LOwn (w0.heap.size+2) w1 x.2 x.1.1.cla) (hg:w1.grownBy w2 ov.ownBlock) (hn:n=L.length+1) (ho:w2.ownsRow (w0.heap.size+2) 287 4 v' n ((L.map zBI).flatten++zBI x)) :
 ReaS w0 r (w2.setCell ⟨w0.heap.size+1,0,none⟩ v') v' (L++[x])∧Fr (fun k=>k=w0.heap.size+1∨ov.ownBlock=some k) w (w2.setCell ⟨w0.heap.size+1,0,none⟩ v'):=by
 have h1:=h.below hb;have hb2:w2.heap[w0.heap.size+1]? = some (.cells #[ov] 284):=zA6 h1.blk hg h1.own (by decide)
 have ho2:ROwn (w0.heap.size+2) w2 v' (L++[x]):=by
  show World.ownsRow _ _ _ _ _ _ _;rw[List.length_append,List.length_singleton,←hn,List.map_append,List.flatten_append];simpa using ho
 refine⟨⟨?_,?_,zAu ho2 hb2 (by decide) 0 _,fun y hy=>?_,?_⟩,?_⟩
 ·exact (Below.heap_setCell _ _ _ _ (by simp)).trans (zA6 h1.blk0 hg h1.own (by decide))
 ·rw[heap_setCell_same w2 _ 0 _ _ v' hb2];rfl
 ·rcases List.mem_append.1 hy with h3 | h3
  ·exact zAu (zBb (h1.cl y h3) hg h1.own (by decide)) hb2 (by decide) 0 _
  ·rw[List.mem_singleton.1 h3]
   exact zAu (zBb hx hg h1.own (by decide)) hb2 (by decide) 0 _
 ·exact (h1.fr.grown hg h1.fr.size (fun k hk=>by have:=(h1.own.lt k hk).1;omega)).setCell (show w0.heap.size≤w0.heap.size+1 by omega) _
 ·exact Fr.setX (X:=fun k=>k=w0.heap.size+1∨ov.ownBlock=some k) ((Fr.below hb).grown hg (fun k hk=>Or.inl (Or.inr hk))) (p:=⟨w0.heap.size+1,0,none⟩) (Or.inl rfl) _
theorem zNw (vs:List MVar) (hva:zAW vs) (pt:List (List Nat)) (cs:List Nat) (r:Nat) (sv pv cv:Value) (w0:World) (hR:RulesAt w0 r sv pv cv vs pt cs) (con:Nat) (pts:List Nat) (hcon:pt[con]? = some pts) (g0:Nat) (hgw:∀i,g0.testBit i=true→(zAD vs).testBit i=true)
 (any:Cla) (hla:any.length≤100) (u:Value) (bc bg:Nat) (ov:Value) (L:List RV) (hLL:L.length≤8000) (w:World) (hS:ReaS w0 r w ov L) (hu:LArg w u any)
 (hc:w.cell? ⟨bc,0,none⟩=some (.int .i64 con)) (hg:w.cell? ⟨bg,0,none⟩=some (.int .u64 g0)) (hlc:bc<w.heap.size) (hlg:bg<w.heap.size) :
 Calls Tryz.prog 284 #[u,.pointer (some ⟨w0.heap.size,0,none⟩),.pointer (some ⟨bc,0,none⟩),.pointer (some ⟨bg,0,none⟩),.pointer (some ⟨w0.heap.size+1,0,none⟩)] w fun e w'=>e=.returned (.tuple #[]) ∧
  ∃ov' x,x.1=zC2 vs con (whyP vs pts any g0)∧ReaS w0 r w' ov' (L++[x])∧Fr (fun k=>k=w0.heap.size+1∨ov.ownBlock=some k) w w':=by
 obtain⟨i0,hi0,hz0,hz1,hz2⟩:=info_parts Tryz.infoReason;have HS:Hid (ReaS w0 r w ov L):=hS;have hb1:w.cell? ⟨w0.heap.size,0,none⟩=some (.pointer (some ⟨r,0,none⟩)):=blk9 hS.blk0 0 _ rfl;have hl1:w0.heap.size+1<w.heap.size:=(Array.getElem?_eq_some_iff.1 hS.blk).1;have HR:Hid (∀Y,Below w.heap.size w Y→RulesAt Y r sv pv cv vs pt cs):=fun Y hY=>RulesAt.below (hS.fr.trans (hY.mono hS.fr.size)) hR
 have HU:Hid (∀Y,Below w.heap.size w Y→LArg Y u any):=fun Y hY=>LArg.below hY hu
 have HVO:Hid (zAW vs):=hva;have HLA:Hid (any.length≤100):=hla;have HGW:Hid (∀i,g0.testBit i=true→(zAD vs).testBit i=true):=hgw;have hRW:=RulesAt.below hS.fr hR;have r0:=hRW.c0;have r1:=hRW.c1;have rl:=hRW.lt;obtain⟨a1,c1,rfl,_,_⟩:=hRW.hv;obtain⟨a2,c2,rfl,hm2,hr2⟩:=hRW.hp;have hct:con<pt.length:=(List.getElem?_eq_some_iff.1 hcon).1;obtain⟨b,off,x,rfl,hb,hcx,hpx⟩:=hr2 con pts hcon;have HPX:Hid (∀Y,Below w.heap.size w Y→PArg Y x pts):=fun Y hY=>PArg.below hY hpx
 obtain⟨a3,c3,rfl,_,_⟩:=hpx;obtain⟨ao,co,rfl⟩:=zAB (show w.ownsRow _ _ _ _ _ _ from hS.own)
 obtain⟨a4,c4,rfl,_,_⟩:=hu;unfold maxLen at hm2;obtain⟨hm21,hm22⟩:=hm2;obtain⟨C,hC⟩:∃C,whyP vs pts any g0=C:=⟨_,rfl⟩;have HC:Hid (whyP vs pts any g0=C):=hC;obtain⟨h,hh⟩:∃h,zAH vs C=h:=⟨_,rfl⟩;have HRO:Hid (zC2 vs con (whyP vs pts any g0)=(⟨1,(con:Int),C⟩,h)):=by show _=_;rw[hC,←hh];rfl
 have HH:Hid (zAH vs C=h):=hh;rw[HRO.out];have HWY:Hid (∀Y,Below w.heap.size w Y→Calls Tryz.prog 285 #[.slice a1 (List.length vs) c1,.slice a3 (List.length pts) c3,.slice a4 (List.length any) c4,.int .u64 (g0:Int)] Y fun e w'=>∃x,e=.returned x∧LOwn Y.heap.size w' x C∧Below Y.heap.size Y w'):=fun Y hY=>by
  rw[←HC.out];exact zTZ vs HVO.out pts any HLA.out g0 HGW.out _ _ _ Y (HR.out Y hY).hv (HPX.out Y hY) (HU.out Y hY) (HR.out Y hY).tab
 have HO2:Hid (∀Y,Below w.heap.size w Y→Y.cell? ⟨w0.heap.size+1,0,none⟩=some (.slice ao L.length co)):=fun Y hY=>blk9 (hS.below hY).blk 0 _ rfl
 have o2:=HO2.out w (Below.refl _ _);clear hva hla hgw hS hR hRW hr2 hcon hC hh;go_enter Tryz.func284,Tryz.ntmps284
 go_wp2_with fail
 go_region_held3 (fun w'=>Below w.heap.size w w'∧w'.cell? ⟨w0.heap.size,0,none⟩=some (.pointer (some ⟨r,0,none⟩))∧w'.cell? ⟨r,0,none⟩=some (.slice a1 (List.length vs) c1)∧w'.cell? ⟨r,1,none⟩=some (.slice (some ⟨b,off,none⟩) (List.length pt) c2)∧w'.cell? ⟨bc,0,none⟩=some (.int .i64 con)∧w'.cell? ⟨bg,0,none⟩=some (.int .u64 g0)∧w'.cell? ⟨b,off+con,none⟩=some (.slice a3 (List.length pts) c3))
  ((refine (fun (hB:Below w.heap.size w _)=>⟨hB,(hB.cell (p:=⟨w0.heap.size,0,none⟩) (Nat.lt_of_succ_lt hl1)).trans hb1,(hB.cell (p:=⟨r,0,none⟩) rl).trans r0,(hB.cell (p:=⟨r,1,none⟩) rl).trans r1,(hB.cell (p:=⟨bc,0,none⟩) hlc).trans hc,(hB.cell (p:=⟨bg,0,none⟩) hlg).trans hg,(hB.cell (p:=⟨b,off+con,none⟩) hb).trans hcx⟩:Below w.heap.size w _→_) ?_;first | exact (Below.refl _ _).drew | exact zCa (by assumption) hbq))
  (first
    | (go_at_call 285;refine (HWY.out _ (show Below w.heap.size w _∧_ by assumption).1).mono ?_;rintro e w3 ⟨xc,rfl,hxc,hbq⟩;obtain⟨ac,cc,rfl⟩:=zAB (show w3.ownsRow _ _ _ _ _ _ from hxc);obtain⟨base,HBASE,HXC⟩:∃base,Hid (base=_)∧Hid (LOwn base w3 (.slice ac (List.length C) cc) C):=⟨_,rfl,hxc⟩;clear hxc;have hB3:=zCa (by assumption) hbq))
 have hbase:w0.heap.size+2≤base:=by have e:base=w.heap.size:=HBASE.out;omega
 have HXC2:Hid (LOwn (w0.heap.size+2) w3 (.slice ac (List.length C) cc) C):=zBS hbase HXC.out;have HB3:Hid (Below w.heap.size w w3):=hB3;have q1:=(hB3.cell (p:=⟨w0.heap.size,0,none⟩) (Nat.lt_of_succ_lt hl1)).trans hb1;have q2:=(hB3.cell (p:=⟨r,0,none⟩) rl).trans r0;have q3:=(hB3.cell (p:=⟨bc,0,none⟩) hlc).trans hc;have q4:=HO2.out w3 hB3;have s3:=hB3.size;have l1:w0.heap.size+1<w3.heap.size:=by omega
 have l2:r<w3.heap.size:=by omega
 clear hbq hB3 HBASE HXC hbase hb1 r0 r1 hc hg hcx o2;go_upto_region 2 with (fail)
 have HBS:Hid (Below w3.heap.size w3 (w3.alloc (.cells #[.int .i64 1,.int .i64 con,.slice ac (List.length C) cc] 93))):=zAA _ _;have t0:(w3.alloc (.cells #[.int .i64 1,.int .i64 con,.slice ac (List.length C) cc] 93)).cell? ⟨w3.heap.size,0,none⟩=some (.int .i64 1):=World.cell?_alloc_at _ _ _ 0 (by simp)
 have t1:(w3.alloc (.cells #[.int .i64 1,.int .i64 con,.slice ac (List.length C) cc] 93)).cell? ⟨w3.heap.size,1,none⟩=some (.int .i64 con):=World.cell?_alloc_at _ _ _ 1 (by simp)
 have t2:(w3.alloc (.cells #[.int .i64 1,.int .i64 con,.slice ac (List.length C) cc] 93)).cell? ⟨w3.heap.size,2,none⟩=some (.slice ac (List.length C) cc):=World.cell?_alloc_at _ _ _ 2 (by simp)
 have tl:w3.heap.size<(w3.alloc (.cells #[.int .i64 1,.int .i64 con,.slice ac (List.length C) cc] 93)).heap.size:=by simp
 obtain⟨B,hB⟩:∃B,w3.heap.size=B:=⟨_,rfl⟩;rw[hB] at t0 t1 t2 tl ⊢;obtain⟨V,hV⟩:∃V,w3.alloc (.cells #[.int .i64 1,.int .i64 con,.slice ac (List.length C) cc] 93)=V:=⟨_,rfl⟩;rw[hV] at HBS t0 t1 t2 tl ⊢;have HBV:Hid (Below w.heap.size w V):=HB3.out.trans (HBS.out.mono HB3.out.size);have k1:=(HBS.out.cell (p:=⟨w0.heap.size,0,none⟩) (Nat.lt_of_succ_lt l1)).trans q1;have k2:=(HBS.out.cell (p:=⟨r,0,none⟩) l2).trans q2;have k4:=(HBS.out.cell (p:=⟨w0.heap.size+1,0,none⟩) l1).trans q4;have HSV:Hid (ReaS w0 r V (.slice ao L.length co) L):=HS.out.below HBV.out;have HXV:Hid (LOwn (w0.heap.size+2) V (.slice ac (List.length C) cc) C):=zAG HXC2.out HBS.out;have HHE:Hid (∀Y,Below V.heap.size V Y→Calls Tryz.prog 128 #[.slice a1 (List.length vs) c1,.slice ac (List.length C) cc] Y fun e w'=>e=.returned (.int .u64 (h:Int))∧Below Y.heap.size Y w'):=fun Y hY=>by
  rw[←HH.out];exact zEL vs HVO.out C _ _ Y (HR.out Y (HBV.out.trans (hY.mono HBV.out.size))).hv (LArg.below hY HXV.out.arg)
 have vl1:w0.heap.size+1<V.heap.size:=Nat.lt_of_lt_of_le l1 HBS.out.size;have vl2:r<V.heap.size:=Nat.lt_of_lt_of_le l2 HBS.out.size;have vlB:B<V.heap.size:=tl;clear hB hV q1 q2 q3 q4 s3 tl;go_region_law
  (first
    | (rw[if_pos (by rfl)];refine wp_append_own _ _ _ 284 rfl (w0.heap.size+2) 287 i0 _ 4 48 zC5 hi0 hz0 hz1 hz2 rfl (by decide) _ _ _ rfl (hw5.alloc _) ⟨w5.heap.size,0,none⟩ 1 1 (zBI ((⟨1,(con:Int),C⟩,h),.slice ac (List.length C) cc)) rfl rfl (zMt w5 ((⟨1,(con:Int),C⟩,h),.slice ac (List.length C) cc)) (by intro u hu;simp[zBI] at hu;rcases hu with rfl | rfl | rfl | rfl <;> rfl) ?_ ?_ ?_ ?_;(unfold maxLen;omega);omega;(have:=hB5.size;simp;omega);intro v6 w6 hown6 hg6 _;have hP:=ReaS.push (x:=((⟨1,(con:Int),C⟩,h),.slice ac (List.length C) cc)) HSV.out (hB5.alloc hB5.size (.cells #[.int .i64 1,.int .i64 con,.slice ac (List.length C) cc,.int .u64 (h:Int)] 287)) (zAG HXV.out (hB5.alloc hB5.size _)) hg6 rfl hown6;have hk6:=zA6 (HSV.out.below (hB5.alloc hB5.size (.cells #[.int .i64 1,.int .i64 con,.slice ac (List.length C) cc,.int .u64 (h:Int)] 287))).blk hg6 (hw5.alloc _) (by decide);obtain⟨a9,b9,hv9⟩:=zAB hown6;subst hv9;have d2:w6.cell? ⟨w0.heap.size+1,0,none⟩=some (.slice ao L.length co):=blk9 hk6 0 _ rfl;have z2:w6.frozen? ⟨w0.heap.size+1,0,none⟩=false:=frz9 hk6 0)
    | (rw[if_pos (by rfl)];go_simp;go_at_call 128;refine (HHE.out _ (Below.refl _ _).drew).mono ?_;rintro e w5 ⟨rfl,hb5⟩;have hB5:Below V.heap.size V w5:=(Below.refl _ _).drew.trans hb5;have c5:w5.cell? ⟨w0.heap.size+1,0,none⟩=some (.slice ao L.length co):=(hB5.cell (p:=⟨w0.heap.size+1,0,none⟩) vl1).trans k4;have u0:=(hB5.cell (p:=⟨B,0,none⟩) vlB).trans t0;have u1:=(hB5.cell (p:=⟨B,1,none⟩) vlB).trans t1;have u2:=(hB5.cell (p:=⟨B,2,none⟩) vlB).trans t2;have hw5:w5.ownsRow (w0.heap.size+2) 287 4 (.slice ao L.length co) L.length (L.map zBI).flatten:=zAG HSV.out.own hB5;have l5:w0.heap.size+1<w5.heap.size:=Nat.lt_of_lt_of_le vl1 hB5.size;have lB5:B<w5.heap.size:=Nat.lt_of_lt_of_le vlB hB5.size;dsimp only))
 all_goals
  have HF:Hid (Fr (fun k=>k=w0.heap.size+1∨(Value.slice ao L.length co).ownBlock=some k) w _):=(Fr.below HBV.out).trans hP.2
  go_wp2
  go_end0
  exact⟨rfl,_,_,rfl,hP.1,HF.out⟩
end Go.Proofs.YtdjbejlbmaiocagGreatDoor
