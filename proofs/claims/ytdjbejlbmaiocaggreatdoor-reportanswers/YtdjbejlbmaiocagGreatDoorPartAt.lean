/- What the proof leans on, part 20. -/
import Derived.Test.YtdjbejlbmaiocagGreatDoorPartAs
import Derived.Test.YtdjbejlbmaiocagGreatDoorPartAq
import Derived.Test.YtdjbejlbmaiocagGreatDoorPartAr
set_option maxRecDepth 100000
set_option maxHeartbeats 6400000
namespace Go.Proofs.YtdjbejlbmaiocagGreatDoor
open Go.RowKit
theorem zQS {X:Nat→Prop} {w w':World} {b:Nat} {cs:Array Value} {t:TypeId} (hf:Fr X w w') (hb:w.heap[b]? = some (.cells cs t)) (hx:¬X b):w'.heap[b]? = some (.cells cs t) :=
 (hf.block b (Array.getElem?_eq_some_iff.1 hb).1 hx).trans hb
theorem zIQ (vs:List MVar) (pt:List (List Nat)) (con b:Nat) (pts:List Nat) (h:pt[con]? = some pts):zBD vs pt (con,b,0)=[zC2 vs con (whyP vs pts [] (zAL (zAD vs) b))]:=by
 unfold zBD;rw[if_pos rfl];simp only[List.getD_eq_getElem?_getD,h];rfl
theorem zLP (vs:List MVar) (pt:List (List Nat)) (con b a:Nat) (ha:a≠0) (pts:List Nat) (h:pt[con]? = some pts):zBD vs pt (con,b,a)=(zBj vs (zAL b a)).map fun l=>zC2 vs con (whyP vs pts [⟨l.var,4,l.n⟩] (zAL (zAD vs) b)):=by
 unfold zBD;rw[if_neg ha];simp only[List.getD_eq_getElem?_getD,h];rfl
theorem zQT (vs:List MVar) (hva:zAW vs) (pt:List (List Nat)) (cs:List Nat) (r:Nat) (sv pv cv:Value) (w0:World) (hR:RulesAt w0 r sv pv cv vs pt cs) (con b a:Nat) (hcon:con<pt.length) (hbw:∀i,b.testBit i=true→(zAD vs).testBit i=true) (hab:∀i,a.testBit i=true→b.testBit i=true)
 (ov:Value) (L:List RV) (hLL:L.length≤7000) (w:World) (hS:ReaS w0 r w ov L) :
 Calls Tryz.prog 283 #[.int .i64 con,.int .u64 b,.int .u64 a,.pointer (some ⟨w0.heap.size,0,none⟩),.pointer (some ⟨w0.heap.size+1,0,none⟩)] w fun e w'=>e=.returned (.tuple #[]) ∧
  ∃ov' L',L'.map (·.1)=zBD vs pt (con,b,a)∧ReaS w0 r w' ov' (L++L'):=by
 obtain⟨pts,hpts⟩:∃pts,pt[con]? = some pts:=⟨pt[con],by simp[hcon]⟩
 have HP:Hid (pt[con]? = some pts):=hpts;have HRL:Hid (RulesAt w0 r sv pv cv vs pt cs):=hR;have HS:Hid (ReaS w0 r w ov L):=hS;have HVO:Hid (zAW vs):=hva;have HBW:Hid (∀i,b.testBit i=true→(zAD vs).testBit i=true):=hbw;have HW36:Hid (zAD vs<2 ^ 36):=zGN vs hva.1 _;have HB36:Hid (b<2 ^ 36):=Nat.lt_of_le_of_lt (Nat.le_of_testBit hbw) HW36.out;have HA36:Hid (a<2 ^ 36):=Nat.lt_of_le_of_lt (Nat.le_of_testBit hab) HB36.out;obtain⟨q,hq⟩:∃q,zAD vs=q:=⟨_,rfl⟩;have HQ:Hid (zAD vs=q):=hq;obtain⟨g0,hg0⟩:∃g0,zAL (zAD vs) b=g0:=⟨_,rfl⟩;have hbits:=zAm (zAD vs) b (by have:=HW36.out;omega) (by have:=HB36.out;omega)
 rw[hg0,hq] at hbits;have HGW:Hid (∀i,g0.testBit i=true→(zAD vs).testBit i=true):=fun i hi=>by
  rw[←hg0,zAR,Bool.and_eq_true] at hi;exact hi.1
 have HG:Hid (zAL (zAD vs) b=g0):=hg0;have hRW:=RulesAt.below hS.fr hR;have r0:=hRW.c0;have rl:=hRW.lt;have hb1:w.cell? ⟨w0.heap.size,0,none⟩=some (.pointer (some ⟨r,0,none⟩)):=blk9 hS.blk0 0 _ rfl;have hl0:w0.heap.size<w.heap.size:=(Array.getElem?_eq_some_iff.1 hS.blk0).1;obtain⟨a1,c1,rfl,_,_⟩:=hRW.hv;obtain⟨RT,hRT⟩:∃RT,zBD vs pt (con,b,a)=RT:=⟨_,rfl⟩;have HRT:Hid (zBD vs pt (con,b,a)=RT):=hRT;rw[hRT];have HRV:Hid (∀Y,Below w.heap.size w Y→RulesAt Y r (.slice a1 (List.length vs) c1) pv cv vs pt cs):=fun Y hY=>RulesAt.below hY hRW
 clear hva hbw hab hS hR hRW hpts hq hg0 hRT;go_enter Tryz.func283,Tryz.ntmps283
 go_wp2_with fail
 refine (zGZ vs HVO.out _ _ (HRV.out _ (zAA _ _)).hv).mono ?_;rintro e w1 ⟨rfl,hb2⟩;rw[HQ.out];have HB1:Hid (Below w.heap.size w w1):=(zAA _ _).trans (hb2.mono (by simp))
 have HBC:Hid (w1.heap[w.heap.size]? = some (.cells #[.int .i64 (con:Int)] 3)):=(hb2.block w.heap.size (by simp)).trans (heap_alloc_new w _)
 clear hb2 r0 rl hb1 hl0;by_cases ha0:a=0
 ·subst ha0
  have HE:Hid (RT=[zC2 vs con (whyP vs pts [] g0)]):=by show _=_;rw[←HRT.out,zIQ vs pt con b pts HP.out,HG.out]
  go_wp2_with fail
  have HB3:Hid (Below w.heap.size w (w1.alloc (.cells #[.int .u64 (g0:Int)] 183))):=HB1.out.alloc HB1.out.size _;refine (zNw vs HVO.out pt cs r _ pv cv w0 HRL.out con pts HP.out g0 HGW.out [] (by simp) (.slice none 0 0) w.heap.size w1.heap.size ov L (by omega) _ (HS.out.below HB3.out) (zTX _) ?_ ?_ ?_ ?_).mono ?_
  ·exact blk9 (((zAA w1 _).block w.heap.size (Array.getElem?_eq_some_iff.1 HBC.out).1).trans HBC.out) 0 _ rfl
  ·exact World.cell?_alloc_at _ _ _ 0 (by simp)
  ·have:=(Array.getElem?_eq_some_iff.1 HBC.out).1
   simp;omega
  ·simp
  rintro e w4 ⟨rfl,ov',x,hx,hS4,hf4⟩;have HF:Hid (ReaS w0 r w4 ov' (L++[x])):=hS4;have HX:Hid ([x].map (·.1)=RT):=by show _=_;rw[HE.out,←hx];rfl
  clear hS4 hf4 hx;go_wp2
  refine bodyPost_ret (results_none rfl _ _ _) rfl ?_;exact⟨rfl,ov',[x],HX.out,HF.out⟩
 ·have HE:Hid (RT=(zBj vs (zAL b a)).map fun l=>zC2 vs con (whyP vs pts [⟨l.var,4,l.n⟩] g0)):=by show _=_;rw[←HRT.out,zLP vs pt con b a ha0 pts HP.out,HG.out]
  have ha1:((a:Int)==0)=false:=by simpa using ha0
  have hnt:=zAm b a (by have:=HB36.out;omega) (by have:=HA36.out;omega)
  obtain⟨d,hd⟩:∃d,zAL b a=d:=⟨_,rfl⟩;have HDW:Hid (∀i,d.testBit i=true→(zAD vs).testBit i=true):=fun i hi=>by
   rw[←hd,zAR,Bool.and_eq_true] at hi;exact HBW.out i hi.1
  rw[hd] at hnt HE;obtain⟨l,hl⟩:∃l,zBj vs d=l:=⟨_,rfl⟩;have HLD:Hid (zBj vs d=l):=hl;have hl36:l.length≤36:=by rw[←hl];exact zEr vs d
  rw[hl] at HE;clear hd hl ha0;have HB3:Hid (Below w.heap.size w (w1.alloc (.cells #[.int .u64 (g0:Int)] 183))):=HB1.out.alloc HB1.out.size _;have HBG:Hid ((w1.alloc (.cells #[.int .u64 (g0:Int)] 183)).heap[w1.heap.size]? = some (.cells #[.int .u64 (g0:Int)] 183)):=heap_alloc_new w1 _;have HBC2:Hid ((w1.alloc (.cells #[.int .u64 (g0:Int)] 183)).heap[w.heap.size]? = some (.cells #[.int .i64 (con:Int)] 3)):=((zAA w1 _).block w.heap.size (Array.getElem?_eq_some_iff.1 HBC.out).1).trans HBC.out;obtain⟨G,hG⟩:∃G,w1.heap.size=G:=⟨_,rfl⟩;obtain⟨V,hV⟩:∃V,w1.alloc (.cells #[.int .u64 (g0:Int)] 183)=V:=⟨_,rfl⟩;go_upto_region 5 with (fail)
  rw[hG] at HBG;rw[hV] at HB3 HBG HBC2;have b1:V.cell? ⟨w0.heap.size,0,none⟩=some (.pointer (some ⟨r,0,none⟩)):=blk9 (HS.out.below HB3.out).blk0 0 _ rfl;have r0:=(HRV.out _ HB3.out).c0;clear hG hV;go_wp2_with fail
  refine (zIN vs HVO.out d HDW.out _ _ (HRV.out _ HB3.out).hv (HRV.out _ HB3.out).tab).mono ?_;rintro e w5 ⟨y,rfl,hy,hb5⟩;rw[HLD.out] at hy;have HY:Hid (LArg w5 y l):=hy.arg;have HYO:Hid (LOwn V.heap.size w5 y l):=hy;have HB5:Hid (Below V.heap.size V w5):=hb5;obtain⟨ay,cy,rfl⟩:=zAB (show w5.ownsRow _ _ _ _ _ _ from hy)
  have HYB:Hid (∀g,(Value.slice ay l.length cy).ownBlock=some g→w0.heap.size+2≤g):=fun g hg=>by have h1:=((show w5.ownsRow _ _ _ _ _ _ from hy).lt g hg).1;have h2:=(Array.getElem?_eq_some_iff.1 (HS.out.below HB3.out).blk).1;omega
  clear hy hb5 b1 r0;go_wp2_with fail
  go_loopw [33] (fun i wr=>∃(k:Nat),k≤l.length∧i=.int .i64 k∧Hid (∃(ov2:Value) (L2:List RV),Hid (L2.map (·.1)=RT.take k)∧Hid (ReaS w0 r wr ov2 (L++L2))∧Hid (LOwn (w0.heap.size+2) wr (.slice ay l.length cy) l)∧Hid (wr.heap[w.heap.size]? = some (.cells #[.int .i64 (con:Int)] 3))∧Hid (wr.heap[G]? = some (.cells #[.int .u64 (g0:Int)] 183)))) (fun i _=>l.length - (intOf i).toNat)
  case atStart =>
   refine⟨0,by omega,rfl,ov,[],rfl,?_,zBS ?_ HYO.out,(HB5.out.block _ (Array.getElem?_eq_some_iff.1 HBC2.out).1).trans HBC2.out,(HB5.out.block _ (Array.getElem?_eq_some_iff.1 HBG.out).1).trans HBG.out⟩
   ·rw[List.append_nil];exact (HS.out.below HB3.out).below HB5.out
   ·have:=(Array.getElem?_eq_some_iff.1 (HS.out.below HB3.out).blk).1;omega
  case round =>
   obtain⟨k,hk,rfl,hrest⟩:=hrel;obtain⟨ov2,L2,hmp,hS2,hown,hbc,hbg⟩:=hrest.out;clear hrest;have HLL2:Hid (L2.length=k):=by
    have h1:=congrArg List.length hmp.out;rw[List.length_map,List.length_take,HE.out,List.length_map] at h1;show _=_;omega
   by_cases hlt:k<l.length
   ·obtain⟨t,ht⟩:∃t,l[k]? = some t:=⟨l[k],by simp[hlt]⟩
    obtain⟨q2,c2,he2,_,hr2⟩:=hown.out.arg
    injection he2 with he2 he3 he4
    clear he3 he4;obtain⟨b2,o2,hq2,hlt2,t0,t1,t2⟩:=hr2 k t ht;rw[hq2] at he2;have HRTK:Hid (RT[k]? = some (zC2 vs con (whyP vs pts [⟨t.var,4,t.n⟩] g0))):=by show _=_;rw[HE.out,List.getElem?_map,ht];rfl
    subst he2;clear hr2 ht;have HBA:Hid (Below wr.heap.size wr ((wr.alloc (.cells #[.int .i64 t.var,.int .i64 t.op,.int .i64 t.n] 88)).alloc (.cells #[.int .i64 t.var,.int .i64 4,.int .i64 t.n] 88))):=(zAA _ _).alloc (by simp) _
    have HLA:Hid (LArg ((wr.alloc (.cells #[.int .i64 t.var,.int .i64 t.op,.int .i64 t.n] 88)).alloc (.cells #[.int .i64 t.var,.int .i64 4,.int .i64 t.n] 88)) (.slice (some ⟨wr.heap.size+1,0,none⟩) 1 1) [⟨t.var,4,t.n⟩]):=by
     have h1:LOwn (wr.heap.size+1) ((wr.alloc (.cells #[.int .i64 t.var,.int .i64 t.op,.int .i64 t.n] 88)).alloc (.cells #[.int .i64 t.var,.int .i64 4,.int .i64 t.n] 88)) (.slice (some ⟨wr.heap.size+1,0,none⟩) 1 1) [⟨t.var,4,t.n⟩]:=by
      have h2:=World.ownsRow_lit (base:=wr.heap.size+1) (e:=88) (size:=3) (wr.alloc (.cells #[.int .i64 t.var,.int .i64 t.op,.int .i64 t.n] 88)) #[.int .i64 t.var,.int .i64 4,.int .i64 t.n] 1 (by simp) (by unfold maxLen;omega) rfl
      rw[World.size_alloc] at h2;exact h2
     exact h1.arg
    go_wp2_with fail
    have HSA:=HBA.out.size;refine (zNw vs HVO.out pt cs r _ pv cv w0 HRL.out con pts HP.out g0 HGW.out [⟨t.var,4,t.n⟩] (by simp) _ w.heap.size G ov2 (L++L2) (by rw[List.length_append,HLL2.out];omega) _ (hS2.out.below HBA.out) HLA.out ?_ ?_ ?_ ?_).mono ?_
    ·exact blk9 ((HBA.out.block _ (Array.getElem?_eq_some_iff.1 hbc.out).1).trans hbc.out) 0 _ rfl
    ·exact blk9 ((HBA.out.block _ (Array.getElem?_eq_some_iff.1 hbg.out).1).trans hbg.out) 0 _ rfl
    ·exact Nat.lt_of_lt_of_le (Array.getElem?_eq_some_iff.1 hbc.out).1 HBA.out.size
    ·exact Nat.lt_of_lt_of_le (Array.getElem?_eq_some_iff.1 hbg.out).1 HBA.out.size
    rintro e w6 ⟨rfl,ov6,x6,hx6,hS6,hf6⟩;have HNX1:Hid (¬(fun k=>k=w0.heap.size+1∨ov2.ownBlock=some k) w.heap.size):=fun hq=>by
     rcases hq with hq | hq
     ·have h1:=hS2.out.blk;rw[←hq,hbc.out] at h1;injection h1 with h1;injection h1 with _ h2;exact absurd h2 (by decide)
     ·exact zCi hS2.out.own hbc.out (by decide) hq
    have HNX2:Hid (¬(fun k=>k=w0.heap.size+1∨ov2.ownBlock=some k) G):=fun hq=>by
     rcases hq with hq | hq
     ·have h1:=hS2.out.blk;rw[←hq,hbg.out] at h1;injection h1 with h1;injection h1 with _ h2;exact absurd h2 (by decide)
     ·exact zCi hS2.out.own hbg.out (by decide) hq
    have HF6:Hid (Fr (fun k=>k=w0.heap.size+1∨ov2.ownBlock=some k) wr w6):=(Fr.below HBA.out).trans hf6
    have HS6:Hid (ReaS w0 r w6 ov6 (L++(L2++[x6]))):=by rw[←List.append_assoc];exact hS6
    have HM6:Hid ((L2++[x6]).map (·.1)=RT.take (k+1)):=by show _=_;rw[List.map_append,hmp.out,List.take_add_one,HRTK.out,←hx6];rfl
    have HO6:Hid (LOwn (w0.heap.size+2) w6 (.slice (some ⟨b2,o2,none⟩) l.length cy) l):=zGv hown.out HF6.out fun g hg hX=>by
     rcases hX with hX | hX
     ·have:=((show wr.ownsRow _ _ _ _ _ _ from hown.out).lt g hg).1;omega
     ·rcases zFN (show wr.ownsRow _ _ _ _ _ _ from hown.out) hS2.out.own (by decide) with h1 | h1
      ·rw[h1] at hg;cases hg
      ·exact h1 (by rw[hg,hX])
    have HC6:Hid (w6.heap[w.heap.size]? = some (.cells #[.int .i64 (con:Int)] 3)):=zQS HF6.out hbc.out HNX1.out;have HG6:Hid (w6.heap[G]? = some (.cells #[.int .u64 (g0:Int)] 183)):=zQS HF6.out hbg.out HNX2.out;clear hS6 hf6 hx6;go_wp2
    go_roundw
    case rel=>exact⟨k+1,by omega,by go_num,ov6,L2++[x6],HM6,HS6,HO6,HC6,HG6⟩
    case measure=>simp[intOf];omega
   ·have HFM:Hid (L2.map (·.1)=RT):=by
     have h1:=hmp.out;rw[List.take_of_length_le (by rw[HE.out,List.length_map];omega)] at h1
     exact h1
    go_wp2
    go_end0
    exact⟨rfl,ov2,L2,HFM.out,hS2.out⟩
theorem zLQ (vs:List MVar) (pt:List (List Nat)) (t:Nat×Nat×Nat):(zBD vs pt t).length≤36:=by
 unfold zBD
 split
 ·simp
 ·rw[List.length_map];exact zEr _ _
theorem zLR (args:Array Value) (w':World):Sem.run Tryz.prog (callFunc 283 args) w'=.ok (.enter 283 args) w':=by
 simp[callFunc,go_sem,Tryz.func283,Tryz.f283]
def ReaI (vs:List MVar) (pt:List (List Nat)) (w0:World) (r:Nat) (T:List (Nat×Nat×Nat)) (w:World):Prop :=
 ∃ov L,ReaS w0 r w ov L∧L.map (·.1)=T.flatMap (zBD vs pt)∧L.length≤36 * T.length∧T.length≤37
theorem zJC (vs:List MVar) (hva:zAW vs) (pt:List (List Nat)) (cs:List Nat) (r:Nat) (sv pv cv:Value) (w0:World) (hR:RulesAt w0 r sv pv cv vs pt cs) :
 Teller 283 #[.pointer (some ⟨w0.heap.size,0,none⟩),.pointer (some ⟨w0.heap.size+1,0,none⟩)] vs pt (ReaI vs pt w0 r):=by
 refine⟨zLR,fun T w w' h hb=>?_,fun T con b a w h hT hcon hbw hab=>?_⟩
 ·obtain⟨ov,L,h1,h2⟩:=h
  exact⟨ov,L,h1.below hb,h2⟩
 ·obtain⟨ov,L,h1,h2,h3,h4⟩:=h
  refine (zQT vs hva pt cs r sv pv cv w0 hR con b a hcon hbw hab ov L (by omega) w h1).mono ?_
  rintro e w' ⟨rfl,ov',L',h5,h6⟩;refine⟨rfl,ov',L++L',h6,?_,?_,?_⟩
  ·rw[List.map_append,h2,h5,List.flatMap_append];simp
  ·have h7:=congrArg List.length h5
   rw[List.length_map] at h7;have h8:=zLQ vs pt (con,b,a);rw[List.length_append,List.length_append,List.length_singleton];omega
  ·rw[List.length_append,List.length_singleton];omega
theorem zMu (vs:List MVar) (hva:zAW vs) (hn1:1≤vs.length) (pt:List (List Nat)) (cs:List Nat) (h:Nat) (hh:h<2 ^ 36) (r:Nat) (sv pv cv:Value) (w:World) (hR:RulesAt w r sv pv cv vs pt cs) :
 Calls Tryz.prog 256 #[.pointer (some ⟨r,0,none⟩),.int .u64 h] w fun e w'=>∃v L,e=.returned v∧L.map (·.1)=zAz vs cs pt h∧ROwn w.heap.size w' v L∧(∀x∈L,LOwn w.heap.size w' x.2 x.1.1.cla)∧L.length≤1400∧Below w.heap.size w w':=by
 have HR:Hid (RulesAt w r sv pv cv vs pt cs):=hR;have HVO:Hid (zAW vs):=hva;have H1:Hid (1≤vs.length):=hn1;have HH:Hid (h<2 ^ 36):=hh;have HI:Hid (ReaI vs pt w r [] ((w.alloc (.cells #[.pointer (some ⟨r,0,none⟩)] 117)).alloc (.cells #[.slice none 0 0] 284))):=by
  refine⟨.slice none 0 0,[],⟨?_,?_,World.ownsRow_nil _ _ _ _,(fun x hx=>by cases hx),?_⟩,rfl,by simp,by simp⟩
  ·exact ((zAA (w.alloc (.cells #[.pointer (some ⟨r,0,none⟩)] 117)) (.cells #[.slice none 0 0] 284)).block w.heap.size (by simp)).trans (heap_alloc_new w _)
  ·have h:=heap_alloc_new (w.alloc (.cells #[.pointer (some ⟨r,0,none⟩)] 117)) (.cells #[.slice none 0 0] 284)
   rw[World.size_alloc] at h;exact h
  ·exact (zAA _ _).alloc (by simp) _
 clear hR hva hn1 hh;go_enter Tryz.func256,Tryz.ntmps256
 go_wp2_with fail
 refine (zJn vs HVO.out H1.out cs pt h HH.out r sv pv cv _ _ (ReaI vs pt w r) (zJC vs HVO.out pt cs r sv pv cv w HR.out) (fun T Y hY=>by obtain⟨ov,L,h1,_⟩:=hY;exact RulesAt.below h1.fr HR.out) _ HI.out).mono ?_
 rintro e w2 ⟨rfl,ov,L,hS,hmp,hl1,hl2⟩;have HS:Hid (ReaS w r w2 ov L):=hS;have HMP:Hid (L.map (·.1)=zAz vs cs pt h):=hmp
 have HLL:Hid (L.length≤1400):=by show _≤_;omega
 have k0:w2.cell? ⟨w.heap.size+1,0,none⟩=some ov:=blk9 hS.blk 0 _ rfl;obtain⟨ao,co,rfl⟩:=zAB (show w2.ownsRow _ _ _ _ _ _ from hS.own)
 clear hS hmp hl1 hl2;go_wp2
 go_ret
 exact⟨_,L,rfl,HMP.out,zEi (by omega) HS.out.own,fun x hx=>zBS (by omega) (HS.out.cl x hx),HLL.out,HS.out.fr⟩
theorem zMv (l:List Nat) (hl:l.length≤200000) (u:Value) (w:World) (hu:PArg w u l) :
 Calls Tryz.prog 254 #[u] w fun e w'=>∃x,e=.returned x∧w'.ownsRow w.heap.size 183 1 x l.length (u64s l)∧Below w.heap.size w w':=by
 obtain⟨i0,hi0,hz0,hz1,hz2⟩:=info_parts Tryz.infoPart;have HU:Hid (∀w',Below w.heap.size w w'→PArg w' u l):=fun w' h=>PArg.below h hu
 have q22:∀(w:World) (a:Option Addr) (n c n' c':Nat),(binOp .eql 180 (.slice a n c) (.slice none n' c')).run Tryz.prog w=.ok (.bool a.isNone) w:=fun w a n c n' c'=>Lib.run_eql_slice_nil w _ _ a n c n' c' Tryz.underPart
 obtain⟨a,c,rfl,hm,hr⟩:=hu;cases a with
 | none =>
   have:l=[]:=by
    cases l with
    | nil=>rfl
    | cons z r=>obtain⟨_,b,off,hq,_⟩:=hr 0 z rfl;cases hq
   subst this;clear HU;go_enter Tryz.func254,Tryz.ntmps254
   go_wp2
   go_ret
   exact⟨_,rfl,World.ownsRow_nil _ _ _ _,Below.refl _ _⟩
 | some ad =>
   have HL:Hid (l.length≤200000):=hl;have HC:Hid (∀(j:Nat) (u:Value),(u64s l)[j]? = some u→(w.alloc (.cells #[] 183)).cell? (ad.add j)=some u):=fun j y hy=>by
    unfold u64s at hy;rw[List.getElem?_map] at hy;cases hz:l[j]? with
    | none=>rw[hz] at hy;cases hy
    | some z =>
      rw[hz] at hy;obtain⟨_,b,off,hq,hlt,hc⟩:=hr j z hz;cases hq
      rw[zJM];have:y=.int .u64 (z:Int):=by simpa using hy.symm
      rw[this];exact ((zAA w _).cell (p:=⟨b,off+j,none⟩) hlt).trans hc
   have H1:Hid (∀u∈u64s l,u.oneCell'=true):=fun u hu=>by
    obtain⟨z,_,rfl⟩:=List.mem_map.1 hu;rfl
   have HFL:Hid ((u64s l).length=l.length * 1):=by show _=_;unfold u64s;simp
   have HM0:Hid ((w.alloc (.cells #[] 183)).ownsRow w.heap.size 183 1 (.slice (some ⟨w.heap.size,0,none⟩) 0 0) 0 []):=World.ownsRow_made w #[] 0 (Nat.le_refl _) (Nat.zero_le _) (by simp)
   clear hl hr hm;go_enter Tryz.func254,Tryz.ntmps254
   go_wp2_with (at_builtin;refine wpList_append_own _ rfl _ _ 180 rfl w.heap.size 183 i0 (.int .u64 0) 1 8 Tryz.underPart hi0 hz0 hz1 hz2 rfl (by decide) _ _ _ rfl HM0.out ad l.length c (u64s l) rfl HFL.out HC.out H1.out ?c1 ?c2 ?c3 ?_)
   case c1=>have:=HL.out;unfold maxLen;omega
   case c2=>have:=HL.out;omega
   case c3=>simp
   intro v3 w3 hown3 hgrow _;have HB3:Hid (Below w.heap.size w w3):=(zAA _ _).grown hgrow (by simp) (by intro k hk;simp[Value.ownBlock] at hk;omega)
   have HO3:Hid (w3.ownsRow w.heap.size 183 1 v3 l.length (u64s l)):=by show World.ownsRow _ _ _ _ _ _ _;simpa using hown3
   obtain⟨av,cv,rfl⟩:=zAB hown3;clear hown3 hgrow;go_wp2
   go_ret
   exact⟨_,by simp,HO3.out,HB3.out⟩
theorem zHQ {w:World} {v:Value} {c:List RV} (h:zGx w v c) (k:Nat) (x:RV) (hx:c[k]? = some x):∃a n cc b off,v=.slice a n cc∧n=c.length∧n≤cc∧cc≤maxLen∧a=some ⟨b,off,none⟩∧b<w.heap.size ∧
 w.cell? ⟨b,off+k * 4,none⟩=some (.int .i64 x.1.1.kind)∧w.cell? ⟨b,off+k * 4+1,none⟩=some (.int .i64 x.1.1.con)∧w.cell? ⟨b,off+k * 4+2,none⟩=some x.2∧w.cell? ⟨b,off+k * 4+3,none⟩=some (.int .u64 (x.1.2:Int)):=by
 obtain⟨a,cc,hv,hm,hr⟩:=h;have hk:k<c.length:=(List.getElem?_eq_some_iff.1 hx).1;have hw:=zEM c;have get:∀(j:Nat) (u:Value),j<4→(zBI x)[j]? = some u→((c.map zBI).flatten)[k * 4+j]? = some u:=by
  intro j u hj hu;have h1:(((c.map zBI).flatten).drop (k * 4))[j]? = some u:=by
   rw[zFO 4 k _ hw,←List.map_drop,List.drop_eq_getElem_cons hk];have e:c[k]=x:=by rw[List.getElem?_eq_getElem hk] at hx;exact Option.some.inj hx
   rw[List.map_cons,List.flatten_cons,e,List.getElem?_append_left (by show j<4;exact hj)]
   exact hu
  rw[List.getElem?_drop] at h1;exact h1
 obtain⟨b,off,ha,hlt,c0⟩:=hr _ _ (get 0 _ (by omega) rfl)
 obtain⟨b1,o1,ha1,_,c1⟩:=hr _ _ (get 1 _ (by omega) rfl)
 obtain⟨b2,o2,ha2,_,c2⟩:=hr _ _ (get 2 _ (by omega) rfl)
 obtain⟨b3,o3,ha3,_,c3⟩:=hr _ _ (get 3 _ (by omega) rfl)
 rw[ha] at ha1 ha2 ha3;cases ha1;cases ha2;cases ha3
 rw[List.length_map] at hv hm;exact⟨a,_,cc,b,off,hv,rfl,hm.1,hm.2,ha,hlt,c0,by rw[Nat.add_assoc];exact c1,by rw[Nat.add_assoc];exact c2,by rw[Nat.add_assoc];exact c3⟩
theorem zLS (x y z:Value) (w:World):Calls Tryz.prog 192 #[x,y,z] w fun e w'=>e=.returned (.tuple #[])∧w'=w:=by
 go_enter Tryz.func192,Tryz.ntmps192
 go_wp2
 go_end0
 exact⟨rfl,rfl⟩
theorem zIR (args:Array Value) (w':World):Sem.run Tryz.prog (callFunc 192 args) w'=.ok (.enter 192 args) w':=by
 simp[callFunc,go_sem,Tryz.func192,Tryz.f192]
theorem zMw (vs:List MVar) (pt:List (List Nat)) (W:World):Teller 192 #[] vs pt (fun _ w=>Below W.heap.size W w) :=
 ⟨zIR,fun _ _ _ h hb=>h.trans (hb.mono h.size),fun _ _ _ _ w h _ _ _ _=>(zLS _ _ _ w).mono fun _ _ ⟨h1,h2⟩=>⟨h1,by rw[h2];exact h⟩⟩
theorem zLT (vs:List MVar) (hva:zAW vs) (hn1:1≤vs.length) (cs:List Nat) (pt:List (List Nat)) (cl:Cla) (r:Nat) (sv pv cv u:Value) (w:World) (hR:RulesAt w r sv pv cv vs pt cs) (hu:LArg w u cl) :
 Calls Tryz.prog 132 #[.pointer (some ⟨r,0,none⟩),u] w fun e w'=>e=.returned (.int .u64 ((zBe vs cs pt (zAH vs cl):Nat):Int))∧Below w.heap.size w w':=by
 have HR:Hid (RulesAt w r sv pv cv vs pt cs):=hR;have HU:Hid (LArg w u cl):=hu;have HVO:Hid (zAW vs):=hva;have H1:Hid (1≤vs.length):=hn1;have g0:=hR.c0;obtain⟨h,hh⟩:∃h,zAH vs cl=h:=⟨_,rfl⟩;have HH:Hid (zAH vs cl=h):=hh;have HH36:Hid (h<2 ^ 36):=by rw[←hh];exact zGN vs hva.1 _
 rw[hh];obtain⟨a,c,rfl,_,_⟩:=hR.hv;obtain⟨a2,c2,rfl,_,_⟩:=hu;clear hR hva hn1 hh;go_enter Tryz.func132,Tryz.ntmps132
 go_wp2_with fail
 refine (zEL vs HVO.out cl _ _ _ HR.out.hv HU.out).mono ?_;rintro e w1 ⟨rfl,hb1⟩;rw[HH.out];have HB1:Hid (Below w.heap.size w w1):=hb1;clear hb1 g0;go_wp2_with fail
 refine (zJn vs HVO.out H1.out cs pt h HH36.out r _ pv cv _ #[] _ (zMw vs pt w) (fun T Y hY=>RulesAt.below hY HR.out) _ HB1.out).mono ?_
 rintro e w2 ⟨rfl,hb2⟩;have HB2:Hid (Below w.heap.size w w2):=hb2;clear hb2;go_wp2
 go_ret
 exact⟨rfl,HB2.out⟩
theorem zIS (vs:List MVar) (hva:zAW vs) (hn1:1≤vs.length) (cs:List Nat) (pt:List (List Nat)) (cl:Cla) (r bx:Nat) (sv pv cv u:Value) (w:World) (hR:RulesAt w r sv pv cv vs pt cs) (hu:LArg w u cl) (hx:w.cell? ⟨bx,0,none⟩=some (.pointer (some ⟨r,0,none⟩))) :
 Calls Tryz.prog 251 #[u,.pointer (some ⟨bx,0,none⟩)] w fun e w'=>e=.returned (.bool (zBM vs cs pt cl))∧Below w.heap.size w w':=by
 have HR:Hid (RulesAt w r sv pv cv vs pt cs):=hR;have HU:Hid (LArg w u cl):=hu;have HVO:Hid (zAW vs):=hva;have H1:Hid (1≤vs.length):=hn1;obtain⟨B,hB⟩:∃B,zBM vs cs pt cl=B:=⟨_,rfl⟩;obtain⟨N,hN⟩:∃N:Nat,zBe vs cs pt (zAH vs cl)=N:=⟨_,rfl⟩;have HN:Hid (zBe vs cs pt (zAH vs cl)=N):=hN;have HB:Hid (B=((N:Int)==0)):=by
  show _=_;rw[←hB];unfold zBM;rw[hN];by_cases h0:N=0
  ·rw[h0];rfl
  ·have h1:((N:Int)==0)=false:=by simpa using h0
   rw[h1];simpa using h0
 rw[hB];obtain⟨a2,c2,rfl,_,_⟩:=hu;clear hR hva hn1 hB hN;go_enter Tryz.func251,Tryz.ntmps251
 go_wp2_with fail
 refine (zLT vs HVO.out H1.out cs pt cl r sv pv cv _ _ HR.out HU.out).mono ?_;rintro e w1 ⟨rfl,hb1⟩;rw[HN.out];have HB1:Hid (Below w.heap.size w w1):=hb1;clear hb1 hx;go_wp2
 go_ret
 exact⟨zAC HB.out.symm,HB1.out⟩
theorem zJD (args:Array Value) (w':World):Sem.run Tryz.prog (callFunc 251 args) w'=.ok (.enter 251 args) w':=by
 simp[callFunc,go_sem,Tryz.func251,Tryz.f251]
def zLU (vs:List MVar) (cs:List Nat) (pt:List (List Nat)) (c:Cla):Cla×Bool:=if zBM vs cs pt c then (zCX vs cs pt c,true) else ([],false)
theorem zOr (vs:List MVar) (hva:zAW vs) (hn1:1≤vs.length) (cs:List Nat) (pt:List (List Nat)) (cl:Cla) (hcl:cl.length≤900) (r:Nat) (sv pv cv u:Value) (w:World) (hR:RulesAt w r sv pv cv vs pt cs) (hu:LArg w u cl) :
 Calls Tryz.prog 193 #[.pointer (some ⟨r,0,none⟩),u] w fun e w'=>∃x,e=.returned (.tuple #[x,.bool (zLU vs cs pt cl).2])∧LOwn w.heap.size w' x (zLU vs cs pt cl).1∧Below w.heap.size w w':=by
 have HR:Hid (∀Y,Below w.heap.size w Y→RulesAt Y r sv pv cv vs pt cs):=fun Y hY=>RulesAt.below hY hR
 have HU:Hid (∀Y,Below w.heap.size w Y→LArg Y u cl):=fun Y hY=>LArg.below hY hu
 have HVO:Hid (zAW vs):=hva;have H1:Hid (1≤vs.length):=hn1;have HCL:Hid (cl.length≤900):=hcl;obtain⟨R,hRR⟩:∃R,zLU vs cs pt cl=R:=⟨_,rfl⟩;obtain⟨B,hB⟩:∃B,zBM vs cs pt cl=B:=⟨_,rfl⟩;have HE:Hid (R=if B then (zCX vs cs pt cl,true) else ([],false)):=by show _=_;rw[←hRR,←hB];rfl
 have HBE:Hid (zBM vs cs pt cl=B):=hB;rw[hRR];obtain⟨a2,c2,rfl,_,_⟩:=hu;have HX:Hid (∀Y,Below (w.alloc (.cells #[.pointer (some ⟨r,0,none⟩)] 117)).heap.size (w.alloc (.cells #[.pointer (some ⟨r,0,none⟩)] 117)) Y→Y.cell? ⟨w.heap.size,0,none⟩=some (.pointer (some ⟨r,0,none⟩))):=fun Y hY=>(hY.cell (by simp)).trans (World.cell?_alloc_at _ _ _ 0 (by simp))
 clear hR hva hn1 hB hRR hcl;go_enter Tryz.func193,Tryz.ntmps193
 go_wp2_with fail
 refine (zIS vs HVO.out H1.out cs pt cl r w.heap.size sv pv cv _ _ (HR.out _ (zAA _ _)) (HU.out _ (zAA _ _)) (HX.out _ (Below.refl _ _))).mono ?_;rintro e w1 ⟨rfl,hb1⟩;rw[HBE.out];have HBA:Hid (Below (w.alloc (.cells #[.pointer (some ⟨r,0,none⟩)] 117)).heap.size (w.alloc (.cells #[.pointer (some ⟨r,0,none⟩)] 117)) w1):=hb1;have HB1:Hid (Below w.heap.size w w1):=(zAA _ _).trans (hb1.mono (by simp))
 clear hb1;cases B
 ·have HE2:Hid (R=([],false)):=HE.out
  go_wp2
  go_ret2
  exact⟨_,by rw[HE2.out];rfl,by rw[HE2.out];exact World.ownsRow_nil _ _ _ _,HB1.out⟩
 ·have HE2:Hid (R=(zCX vs cs pt cl,true)):=HE.out
  go_wp2_with fail
  refine (zOp 251 #[.pointer (some ⟨w.heap.size,0,none⟩)] (zBM vs cs pt) cl HCL.out _ _ (HU.out _ HB1.out) ⟨zJD,fun c v Y hc hY hv=>?_⟩).mono ?_
  ·have hYA:=HBA.out.trans (hY.mono HBA.out.size)
   have hYW:=HB1.out.trans (hY.mono HB1.out.size);exact zIS vs HVO.out H1.out cs pt c r w.heap.size sv pv cv _ _ (HR.out _ hYW) hv (HX.out _ hYA)
  rintro e w2 ⟨x,rfl,hx,hb2⟩;have HO:Hid (LOwn w.heap.size w2 x (zCX vs cs pt cl)):=zBS HB1.out.size hx;have HB2:Hid (Below w.heap.size w w2):=HB1.out.trans (hb2.mono HB1.out.size);obtain⟨ax,cx,rfl⟩:=zAB (show w2.ownsRow _ _ _ _ _ _ from hx)
  clear hx hb2;go_wp2
  go_ret2
  exact⟨_,by rw[HE2.out];rfl,by rw[HE2.out];exact HO.out,HB2.out⟩
theorem PArg.lt36 {w:World} {v:Value} {l:List Nat} (h:PArg w v l):∀z∈l,z<2 ^ 36:=by
 intro z hz;obtain⟨a,c,_,_,hr⟩:=h;obtain⟨i,hi⟩:=List.mem_iff_getElem?.1 hz;exact (hr i z hi).1
theorem zMx (vs:List MVar) (hva:zAW vs) (hn1:1≤vs.length) (pt:List (List Nat)) (cs:List Nat) (hcs:cs.length≤100000) (h:Nat) (hh:h<2 ^ 36) (r:Nat) (sv pv cv:Value) (c:List RV) (hcl:c.length≤5000) (hc36:∀x∈c,x.1.2<2 ^ 36) (hsl:∀x∈c,IsSl x) (v:Value) (b1 bh:Nat) (w:World) (hR:RulesAt w r sv pv cv vs pt cs) (hv:zGx w v c)
 (h1:w.cell? ⟨b1,0,none⟩=some (.pointer (some ⟨r,0,none⟩))) (h2:w.cell? ⟨bh,0,none⟩=some (.int .u64 h)) (hl1:b1<w.heap.size) (hl2:bh<w.heap.size) :
 Calls Tryz.prog 253 #[v,.pointer (some ⟨b1,0,none⟩),.pointer (some ⟨bh,0,none⟩)] w fun e w'=>e=.returned (.bool (zCU vs cs h (c.map (·.1))))∧Below w.heap.size w w':=by
 obtain⟨i0,hi0,hz0,hz1,hz2⟩:=info_parts Tryz.infoPart;have HR:Hid (∀Y,Below w.heap.size w Y→RulesAt Y r sv pv cv vs pt cs):=fun Y hY=>RulesAt.below hY hR
 have HV:Hid (∀Y,Below w.heap.size w Y→zGx Y v c):=fun Y hY=>zGx.below hY hv
 have HVO:Hid (zAW vs):=hva;have H1:Hid (1≤vs.length):=hn1;have HH:Hid (h<2 ^ 36):=hh;have HCS:Hid (cs.length≤100000):=hcs;have HC36:Hid (∀x∈c,x.1.2<2 ^ 36):=hc36;have HCS36:Hid (∀z∈cs,z<2 ^ 36):=PArg.lt36 hR.hc;have HSL:Hid (∀x∈c,IsSl x):=hsl;have r2:=hR.c2;have rl:=hR.lt;have r0':=hR.c0;have HK1:Hid (∀Y,Below w.heap.size w Y→Y.cell? ⟨b1,0,none⟩=some (.pointer (some ⟨r,0,none⟩))∧Y.cell? ⟨bh,0,none⟩=some (.int .u64 h)∧Y.cell? ⟨r,0,none⟩=some sv∧b1<Y.heap.size∧bh<Y.heap.size∧r<Y.heap.size):=fun Y hY =>
  ⟨(hY.cell (p:=⟨b1,0,none⟩) hl1).trans h1,(hY.cell (p:=⟨bh,0,none⟩) hl2).trans h2,(hY.cell (p:=⟨r,0,none⟩) rl).trans r0',Nat.lt_of_lt_of_le hl1 hY.size,Nat.lt_of_lt_of_le hl2 hY.size,Nat.lt_of_lt_of_le rl hY.size⟩
 obtain⟨B,hB⟩:∃B,zCU vs cs h (c.map (·.1))=B:=⟨_,rfl⟩
 have HB:Hid (B=zDf vs (cs++c.map (·.1.2)) h):=by show _=_;rw[←hB];unfold zCU;rw[List.map_map];rfl
 rw[hB];obtain⟨a1,c1,rfl,_,_⟩:=hR.hv;obtain⟨a2,c2,rfl,_,_⟩:=hR.hc;obtain⟨a3,c3,he3⟩:=zQR hv;subst he3;clear hR hv hva hn1 hh hB hc36 hsl r0';go_enter Tryz.func253,Tryz.ntmps253
 go_wp2_with fail
 refine (zMv cs (by have:=HCS.out;omega) _ _ (HR.out _ (Below.refl _ _)).hc).mono ?_
 rintro e w1 ⟨x,rfl,hx,hb1⟩;have HX:Hid (w1.ownsRow w.heap.size 183 1 x cs.length (u64s cs)):=hx;have HB1:Hid (Below w.heap.size w w1):=hb1;obtain⟨ax,cx,rfl⟩:=zAB hx;clear hx hb1 r2 rl h1 h2;go_wp2_with fail
 go_loopw [5,15] (fun o i wr=>∃(k:Nat) (done:List Nat),k≤c.length∧i=.int .i64 k∧wr.ownsRow w.heap.size 183 1 o done.length (u64s done)∧Hid (done=cs++(c.take k).map (·.1.2))∧Below w.heap.size w wr) (fun _ i _=>c.length - (intOf i).toNat)
 case atStart=>exact⟨0,cs,by omega,rfl,HX.out,by show _=_;simp,HB1.out⟩
 case round =>
  obtain⟨k,done,hk,rfl,hown,hdn,hbw⟩:=hrel;have HOW:Hid (wr.ownsRow w.heap.size 183 1 u5 done.length (u64s done)):=hown;have HBW:Hid (Below w.heap.size w wr):=hbw;obtain⟨ao,co,rfl⟩:=zAB hown;have hdl:done.length≤105000:=by rw[hdn.out,List.length_append,List.length_map,List.length_take];have:=HCS.out;omega
  clear hown hbw;by_cases hlt:k<c.length
  ·obtain⟨t,ht⟩:∃t,c[k]? = some t:=⟨c[k],by simp[hlt]⟩
   obtain⟨a4,n4,c4,b4,o4,he4,hn4,hc41,hc42,ha4,hb4,q0,q1,q2,q3⟩:=zHQ (HV.out _ HBW.out) k t ht
   injection he4 with he4 he5 he6
   rw[ha4] at he4;subst he4;obtain⟨sa,ns,sc,hse⟩:=HSL.out t (List.mem_of_getElem? ht);rw[hse] at q2;have HNX:Hid (done++[t.1.2]=cs++(c.take (k+1)).map (·.1.2)):=by
    show _=_;rw[hdn.out,List.take_add_one,ht,List.map_append,←List.append_assoc];rfl
   have hcc:c.length≤c3:=by omega
   unfold maxLen at hc42;have hcm:c3≤2 ^ 63 - 1:=by omega
   clear he5 he6 hc41 hc42 hn4 hse ha4 ht hdn;obtain⟨z,hz⟩:∃z,t.1.2=z:=⟨_,rfl⟩;rw[hz] at q3 HNX;have hbs:=HBW.out.size;have HBX:Hid (Below w.heap.size w (wr.alloc (.cells #[.int .i64 t.1.1.kind,.int .i64 t.1.1.con,.slice sa ns sc,.int .u64 (z:Int)] 287))):=HBW.out.alloc hbs _;have HO1:Hid ((wr.alloc (.cells #[.int .i64 t.1.1.kind,.int .i64 t.1.1.con,.slice sa ns sc,.int .u64 (z:Int)] 287)).ownsRow w.heap.size 183 1 (.slice ao done.length co) done.length (u64s done)):=HOW.out.alloc _;clear hz;go_upto_region 5 with (fail)
   obtain⟨V,hV⟩:∃V,wr.alloc (.cells #[.int .i64 t.1.1.kind,.int .i64 t.1.1.con,.slice sa ns sc,.int .u64 (z:Int)] 287)=V:=⟨_,rfl⟩;have k3:(wr.alloc (.cells #[.int .i64 t.1.1.kind,.int .i64 t.1.1.con,.slice sa ns sc,.int .u64 (z:Int)] 287)).cell? ⟨wr.heap.size,3,none⟩=some (.int .u64 (z:Int)):=World.cell?_alloc_at _ _ _ 3 (by simp)
   rw[hV] at HBX HO1 k3 ⊢;clear hV q0 q1 q2 q3;have hvs:=HBX.out.size;go_wp2_with (at_builtin;refine wpList_append_own _ rfl _ _ 180 rfl w.heap.size 183 i0 (.int .u64 0) 1 8 Tryz.underPart hi0 hz0 hz1 hz2 rfl (by decide) _ _ _ rfl (HO1.out.alloc _) ⟨V.heap.size,0,none⟩ 1 1 [.int .u64 (z:Int)] rfl rfl (zJo V z) (by intro u hu;simp at hu;subst hu;rfl) ?c1 ?c2 ?c3 ?_)
   case c1=>unfold maxLen;omega
   case c2=>omega
   case c3=>simp;omega
   intro v6 w6 hown6 hg6 _;have HO6:Hid (w6.ownsRow w.heap.size 183 1 v6 (done++[z]).length (u64s (done++[z]))):=by
    show World.ownsRow _ _ _ _ _ _ _;unfold u64s at *;rw[List.length_append,List.map_append];exact hown6
   have HB6:Hid (Below w.heap.size w w6):=(HBX.out.alloc hvs _).grown hg6 (by simp;omega) (fun g hg=>(HO1.out.lt g hg).1)
   clear hown6 hg6 k3;go_wp2
   go_roundw
   case rel=>exact⟨k+1,done++[z],by omega,by go_num,HO6.out,HNX,HB6.out⟩
   case measure=>simp[intOf];omega
  ·have HFD:Hid (done=cs++c.map (·.1.2)):=by have h1:=hdn.out;rw[List.take_of_length_le (by omega)] at h1;exact h1
   have HPA:Hid (PArg wr (.slice ao done.length co) done):=zEh HOW.out (by
    rw[HFD.out];intro z hz;rcases List.mem_append.1 hz with h | h
    ·exact HCS36.out z h
    ·obtain⟨x,hx,rfl⟩:=List.mem_map.1 h
     exact HC36.out x hx)
   obtain⟨k1,k2,k3,m1,m2,m3⟩:=HK1.out _ HBW.out;have HBF:Hid (B=zDf vs done h):=by show _=_;rw[HB.out,HFD.out]
   have HFA:Hid (∀Y,Below wr.heap.size wr Y→Calls Tryz.prog 130 #[.slice a1 (List.length vs) c1,.slice ao done.length co,.int .u64 (h:Int)] Y fun e w'=>e=.returned (.bool B)∧Below Y.heap.size Y w'):=fun Y hY=>by
    rw[HBF.out];have hRY:=HR.out Y (HBW.out.trans (hY.mono HBW.out.size));exact zLF vs HVO.out H1.out done h HH.out _ _ Y hRY.hv (PArg.below hY HPA.out) hRY.tab
   clear hdn;go_upto_region 7 with (fail)
   go_region_held3 (fun w'=>Below wr.heap.size wr w'∧w'.cell? ⟨b1,0,none⟩=some (.pointer (some ⟨r,0,none⟩))∧w'.cell? ⟨bh,0,none⟩=some (.int .u64 h)∧w'.cell? ⟨r,0,none⟩=some (.slice a1 (List.length vs) c1))
    ((refine (fun (hB:Below wr.heap.size wr _)=>⟨hB,(hB.cell (p:=⟨b1,0,none⟩) m1).trans k1,(hB.cell (p:=⟨bh,0,none⟩) m2).trans k2,(hB.cell (p:=⟨r,0,none⟩) m3).trans k3⟩:Below wr.heap.size wr _→_) ?_;first | exact (Below.refl _ _).drew | exact zCa (by assumption) hbq))
    (first
      | (go_at_call 130;refine (HFA.out _ (show Below wr.heap.size wr _∧_ by assumption).1).mono ?_;rintro e w3 ⟨rfl,hbq⟩;have hB3:=zCa (by assumption) hbq))
   have HB3:Hid (Below w.heap.size w w3):=HBW.out.trans (hB3.mono HBW.out.size);clear hbq hB3 k1 k2 k3;go_wp2
   go_ret
   exact⟨rfl,HB3.out⟩
theorem zKT (args:Array Value) (w':World):Sem.run Tryz.prog (callFunc 253 args) w'=.ok (.enter 253 args) w':=by
 simp[callFunc,go_sem,Tryz.func253,Tryz.f253]
end Go.Proofs.YtdjbejlbmaiocagGreatDoor
