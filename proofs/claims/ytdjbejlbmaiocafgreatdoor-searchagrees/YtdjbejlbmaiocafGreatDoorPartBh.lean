/- What the proof leans on, part 34. -/
import Derived.Test.YtdjbejlbmaiocafGreatDoorPartBg
namespace Go.Proofs.YtdjbejlbmaiocafGreatDoor
open Go.RowKit
theorem zJY {X:Nat→Prop} {w w':World} {b:Nat} {cs:Array Value} {t:TypeId} (hf:Fr X w w') (hb:w.heap[b]? = some (.cells cs t)) (hx:¬X b):w'.heap[b]? = some (.cells cs t) :=
 (hf.block b (Array.getElem?_eq_some_iff.1 hb).1 hx).trans hb
theorem zEj (vs:List MVar) (pt:List (List Nat)) (con b:Nat) (pts:List Nat) (h:pt[con]? = some pts):zBA vs pt (con,b,0)=[zBh vs con (whyP vs pts [] (zAM (zAG vs) b))]:=by
 unfold zBA
 rw[if_pos rfl]
 simp only[List.getD_eq_getElem?_getD,h];rfl
theorem zGM (vs:List MVar) (pt:List (List Nat)) (con b a:Nat) (ha:a≠0) (pts:List Nat) (h:pt[con]? = some pts):zBA vs pt (con,b,a)=(zA8 vs (zAM b a)).map fun l=>zBh vs con (whyP vs pts [⟨l.var,4,l.n⟩] (zAM (zAG vs) b)):=by
 unfold zBA
 rw[if_neg ha]
 simp only[List.getD_eq_getElem?_getD,h];rfl
set_option maxHeartbeats 6400000 in
set_option maxRecDepth 100000 in
theorem zJZ (vs:List MVar) (hva:zAH vs) (pt:List (List Nat)) (cs:List Nat) (r:Nat) (sv pv cv:Value) (w0:World) (hR:RulesAt w0 r sv pv cv vs pt cs) (con b a:Nat) (hcon:con<pt.length) (hbw:∀i,b.testBit i=true→(zAG vs).testBit i=true) (hab:∀i,a.testBit i=true→b.testBit i=true)
 (ov:Value) (L:List RV) (hLL:L.length≤7000) (w:World) (hS:ReaS w0 r w ov L) :
 Calls Tryz.prog 227 #[.int .i64 con,.int .u64 b,.int .u64 a,.pointer (some ⟨w0.heap.size,0,none⟩),.pointer (some ⟨w0.heap.size+1,0,none⟩)] w fun e w'=>e=.returned (.tuple #[]) ∧
  ∃ov' L',L'.map (·.1)=zBA vs pt (con,b,a)∧ReaS w0 r w' ov' (L++L'):=by
 obtain⟨pts,hpts⟩:∃pts,pt[con]? = some pts:=⟨pt[con],by simp[hcon]⟩
 have HP:Hid (pt[con]? = some pts):=hpts
 have HRL:Hid (RulesAt w0 r sv pv cv vs pt cs):=hR
 have HS:Hid (ReaS w0 r w ov L):=hS
 have HVO:Hid (zAH vs):=hva
 have HBW:Hid (∀i,b.testBit i=true→(zAG vs).testBit i=true):=hbw
 have HW36:Hid (zAG vs<2 ^ 36):=zDY vs hva.1 _
 have HB36:Hid (b<2 ^ 36):=Nat.lt_of_le_of_lt (Nat.le_of_testBit hbw) HW36.out
 have HA36:Hid (a<2 ^ 36):=Nat.lt_of_le_of_lt (Nat.le_of_testBit hab) HB36.out
 obtain⟨q,hq⟩:∃q,zAG vs=q:=⟨_,rfl⟩
 have HQ:Hid (zAG vs=q):=hq
 obtain⟨g0,hg0⟩:∃g0,zAM (zAG vs) b=g0:=⟨_,rfl⟩
 have hbits:=zAO (zAG vs) b (by have:=HW36.out;omega) (by have:=HB36.out;omega)
 rw[hg0,hq] at hbits
 have HGW:Hid (∀i,g0.testBit i=true→(zAG vs).testBit i=true):=fun i hi=>by
  rw[←hg0,zAK,Bool.and_eq_true] at hi
  exact hi.1
 have HG:Hid (zAM (zAG vs) b=g0):=hg0
 have hRW:=RulesAt.below hS.fr hR
 have r0:=hRW.c0
 have rl:=hRW.lt
 have hb1:w.cell? ⟨w0.heap.size,0,none⟩=some (.pointer (some ⟨r,0,none⟩)):=blk9 hS.blk0 0 _ rfl
 have hl0:w0.heap.size<w.heap.size:=(Array.getElem?_eq_some_iff.1 hS.blk0).1
 obtain⟨a1,c1,rfl,_,_⟩:=hRW.hv
 obtain⟨RT,hRT⟩:∃RT,zBA vs pt (con,b,a)=RT:=⟨_,rfl⟩
 have HRT:Hid (zBA vs pt (con,b,a)=RT):=hRT
 rw[hRT]
 have HRV:Hid (∀Y,Below w.heap.size w Y→RulesAt Y r (.slice a1 (List.length vs) c1) pv cv vs pt cs):=fun Y hY=>RulesAt.below hY hRW
 clear hva hbw hab hS hR hRW hpts hq hg0 hRT
 go_enter Tryz.func227,Tryz.ntmps227
 go_wp2_with fail
 refine (zDN vs HVO.out _ _ (HRV.out _ (zAA _ _)).hv).mono ?_
 rintro e w1 ⟨rfl,hb2⟩
 rw[HQ.out]
 have HB1:Hid (Below w.heap.size w w1):=(zAA _ _).trans (hb2.mono (by simp))
 have HBC:Hid (w1.heap[w.heap.size]? = some (.cells #[.int .i64 (con:Int)] 3)):=(hb2.block w.heap.size (by simp)).trans (heap_alloc_new w _)
 clear hb2 r0 rl hb1 hl0
 by_cases ha0:a=0
 ·subst ha0
  have HE:Hid (RT=[zBh vs con (whyP vs pts [] g0)]):=by show _=_;rw[←HRT.out,zEj vs pt con b pts HP.out,HG.out]
  go_wp2_with fail
  have HB3:Hid (Below w.heap.size w (w1.alloc (.cells #[.int .u64 (g0:Int)] 152))):=HB1.out.alloc HB1.out.size _
  refine (zHg vs HVO.out pt cs r _ pv cv w0 HRL.out con pts HP.out g0 HGW.out [] (by simp) (.slice none 0 0) w.heap.size w1.heap.size ov L (by omega) _ (HS.out.below HB3.out) (zLO _) ?_ ?_ ?_ ?_).mono ?_
  ·exact blk9 (((zAA w1 _).block w.heap.size (Array.getElem?_eq_some_iff.1 HBC.out).1).trans HBC.out) 0 _ rfl
  ·exact World.cell?_alloc_at _ _ _ 0 (by simp)
  ·have:=(Array.getElem?_eq_some_iff.1 HBC.out).1
   simp;omega
  ·simp
  rintro e w4 ⟨rfl,ov',x,hx,hS4,hf4⟩
  have HF:Hid (ReaS w0 r w4 ov' (L++[x])):=hS4
  have HX:Hid ([x].map (·.1)=RT):=by show _=_;rw[HE.out,←hx];rfl
  clear hS4 hf4 hx
  go_wp2
  refine bodyPost_ret (results_none rfl _ _ _) rfl ?_
  exact⟨rfl,ov',[x],HX.out,HF.out⟩
 ·have HE:Hid (RT=(zA8 vs (zAM b a)).map fun l=>zBh vs con (whyP vs pts [⟨l.var,4,l.n⟩] g0)):=by show _=_;rw[←HRT.out,zGM vs pt con b a ha0 pts HP.out,HG.out]
  have ha1:((a:Int)==0)=false:=by simpa using ha0
  have hnt:=zAO b a (by have:=HB36.out;omega) (by have:=HA36.out;omega)
  obtain⟨d,hd⟩:∃d,zAM b a=d:=⟨_,rfl⟩
  have HDW:Hid (∀i,d.testBit i=true→(zAG vs).testBit i=true):=fun i hi=>by
   rw[←hd,zAK,Bool.and_eq_true] at hi
   exact HBW.out i hi.1
  rw[hd] at hnt HE
  obtain⟨l,hl⟩:∃l,zA8 vs d=l:=⟨_,rfl⟩
  have HLD:Hid (zA8 vs d=l):=hl
  have hl36:l.length≤36:=by rw[←hl];exact zCh vs d
  rw[hl] at HE
  clear hd hl ha0
  have HB3:Hid (Below w.heap.size w (w1.alloc (.cells #[.int .u64 (g0:Int)] 152))):=HB1.out.alloc HB1.out.size _
  have HBG:Hid ((w1.alloc (.cells #[.int .u64 (g0:Int)] 152)).heap[w1.heap.size]? = some (.cells #[.int .u64 (g0:Int)] 152)):=heap_alloc_new w1 _
  have HBC2:Hid ((w1.alloc (.cells #[.int .u64 (g0:Int)] 152)).heap[w.heap.size]? = some (.cells #[.int .i64 (con:Int)] 3)):=((zAA w1 _).block w.heap.size (Array.getElem?_eq_some_iff.1 HBC.out).1).trans HBC.out
  obtain⟨G,hG⟩:∃G,w1.heap.size=G:=⟨_,rfl⟩
  obtain⟨V,hV⟩:∃V,w1.alloc (.cells #[.int .u64 (g0:Int)] 152)=V:=⟨_,rfl⟩
  go_upto_region 5 with (fail)
  rw[hG] at HBG
  rw[hV] at HB3 HBG HBC2
  have b1:V.cell? ⟨w0.heap.size,0,none⟩=some (.pointer (some ⟨r,0,none⟩)):=blk9 (HS.out.below HB3.out).blk0 0 _ rfl
  have r0:=(HRV.out _ HB3.out).c0
  clear hG hV
  go_wp2_with fail
  refine (zEg vs HVO.out d HDW.out _ _ (HRV.out _ HB3.out).hv (HRV.out _ HB3.out).tab).mono ?_
  rintro e w5 ⟨y,rfl,hy,hb5⟩
  rw[HLD.out] at hy
  have HY:Hid (LArg w5 y l):=hy.arg
  have HYO:Hid (LOwn V.heap.size w5 y l):=hy
  have HB5:Hid (Below V.heap.size V w5):=hb5
  obtain⟨ay,cy,rfl⟩:=zAC (show w5.ownsRow _ _ _ _ _ _ from hy)
  have HYB:Hid (∀g,(Value.slice ay l.length cy).ownBlock=some g→w0.heap.size+2≤g):=fun g hg=>by have h1:=((show w5.ownsRow _ _ _ _ _ _ from hy).lt g hg).1;have h2:=(Array.getElem?_eq_some_iff.1 (HS.out.below HB3.out).blk).1;omega
  clear hy hb5 b1 r0
  go_wp2_with fail
  go_loopw [33] (fun i wr=>∃(k:Nat),k≤l.length∧i=.int .i64 k∧Hid (∃(ov2:Value) (L2:List RV),Hid (L2.map (·.1)=RT.take k)∧Hid (ReaS w0 r wr ov2 (L++L2))∧Hid (LOwn (w0.heap.size+2) wr (.slice ay l.length cy) l)∧Hid (wr.heap[w.heap.size]? = some (.cells #[.int .i64 (con:Int)] 3))∧Hid (wr.heap[G]? = some (.cells #[.int .u64 (g0:Int)] 152)))) (fun i _=>l.length - (intOf i).toNat)
  case atStart =>
   refine⟨0,by omega,rfl,ov,[],rfl,?_,zA2 ?_ HYO.out,(HB5.out.block _ (Array.getElem?_eq_some_iff.1 HBC2.out).1).trans HBC2.out,(HB5.out.block _ (Array.getElem?_eq_some_iff.1 HBG.out).1).trans HBG.out⟩
   ·rw[List.append_nil];exact (HS.out.below HB3.out).below HB5.out
   ·have:=(Array.getElem?_eq_some_iff.1 (HS.out.below HB3.out).blk).1;omega
  case round =>
   obtain⟨k,hk,rfl,hrest⟩:=hrel
   obtain⟨ov2,L2,hmp,hS2,hown,hbc,hbg⟩:=hrest.out
   clear hrest
   have HLL2:Hid (L2.length=k):=by
    have h1:=congrArg List.length hmp.out
    rw[List.length_map,List.length_take,HE.out,List.length_map] at h1
    show _=_
    omega
   by_cases hlt:k<l.length
   ·obtain⟨t,ht⟩:∃t,l[k]? = some t:=⟨l[k],by simp[hlt]⟩
    obtain⟨q2,c2,he2,_,hr2⟩:=hown.out.arg
    injection he2 with he2 he3 he4
    clear he3 he4
    obtain⟨b2,o2,hq2,hlt2,t0,t1,t2⟩:=hr2 k t ht
    rw[hq2] at he2
    have HRTK:Hid (RT[k]? = some (zBh vs con (whyP vs pts [⟨t.var,4,t.n⟩] g0))):=by show _=_;rw[HE.out,List.getElem?_map,ht];rfl
    subst he2
    clear hr2 ht
    have HBA:Hid (Below wr.heap.size wr ((wr.alloc (.cells #[.int .i64 t.var,.int .i64 t.op,.int .i64 t.n] 117)).alloc (.cells #[.int .i64 t.var,.int .i64 4,.int .i64 t.n] 117))):=(zAA _ _).alloc (by simp) _
    have HLA:Hid (LArg ((wr.alloc (.cells #[.int .i64 t.var,.int .i64 t.op,.int .i64 t.n] 117)).alloc (.cells #[.int .i64 t.var,.int .i64 4,.int .i64 t.n] 117)) (.slice (some ⟨wr.heap.size+1,0,none⟩) 1 1) [⟨t.var,4,t.n⟩]):=by
     have h1:LOwn (wr.heap.size+1) ((wr.alloc (.cells #[.int .i64 t.var,.int .i64 t.op,.int .i64 t.n] 117)).alloc (.cells #[.int .i64 t.var,.int .i64 4,.int .i64 t.n] 117)) (.slice (some ⟨wr.heap.size+1,0,none⟩) 1 1) [⟨t.var,4,t.n⟩]:=by
      have h2:=World.ownsRow_lit (base:=wr.heap.size+1) (e:=117) (size:=3) (wr.alloc (.cells #[.int .i64 t.var,.int .i64 t.op,.int .i64 t.n] 117)) #[.int .i64 t.var,.int .i64 4,.int .i64 t.n] 1 (by simp) (by unfold maxLen;omega) rfl
      rw[World.size_alloc] at h2
      exact h2
     exact h1.arg
    go_wp2_with fail
    have HSA:=HBA.out.size
    refine (zHg vs HVO.out pt cs r _ pv cv w0 HRL.out con pts HP.out g0 HGW.out [⟨t.var,4,t.n⟩] (by simp) _ w.heap.size G ov2 (L++L2) (by rw[List.length_append,HLL2.out];omega) _ (hS2.out.below HBA.out) HLA.out ?_ ?_ ?_ ?_).mono ?_
    ·exact blk9 ((HBA.out.block _ (Array.getElem?_eq_some_iff.1 hbc.out).1).trans hbc.out) 0 _ rfl
    ·exact blk9 ((HBA.out.block _ (Array.getElem?_eq_some_iff.1 hbg.out).1).trans hbg.out) 0 _ rfl
    ·exact Nat.lt_of_lt_of_le (Array.getElem?_eq_some_iff.1 hbc.out).1 HBA.out.size
    ·exact Nat.lt_of_lt_of_le (Array.getElem?_eq_some_iff.1 hbg.out).1 HBA.out.size
    rintro e w6 ⟨rfl,ov6,x6,hx6,hS6,hf6⟩
    have HNX1:Hid (¬(fun k=>k=w0.heap.size+1∨ov2.ownBlock=some k) w.heap.size):=fun hq=>by
     rcases hq with hq | hq
     ·have h1:=hS2.out.blk;rw[←hq,hbc.out] at h1;injection h1 with h1;injection h1 with _ h2;exact absurd h2 (by decide)
     ·exact zBD hS2.out.own hbc.out (by decide) hq
    have HNX2:Hid (¬(fun k=>k=w0.heap.size+1∨ov2.ownBlock=some k) G):=fun hq=>by
     rcases hq with hq | hq
     ·have h1:=hS2.out.blk;rw[←hq,hbg.out] at h1;injection h1 with h1;injection h1 with _ h2;exact absurd h2 (by decide)
     ·exact zBD hS2.out.own hbg.out (by decide) hq
    have HF6:Hid (Fr (fun k=>k=w0.heap.size+1∨ov2.ownBlock=some k) wr w6):=(Fr.below HBA.out).trans hf6
    have HS6:Hid (ReaS w0 r w6 ov6 (L++(L2++[x6]))):=by rw[←List.append_assoc];exact hS6
    have HM6:Hid ((L2++[x6]).map (·.1)=RT.take (k+1)):=by show _=_;rw[List.map_append,hmp.out,List.take_add_one,HRTK.out,←hx6];rfl
    have HO6:Hid (LOwn (w0.heap.size+2) w6 (.slice (some ⟨b2,o2,none⟩) l.length cy) l):=zCI hown.out HF6.out fun g hg hX=>by
     rcases hX with hX | hX
     ·have:=((show wr.ownsRow _ _ _ _ _ _ from hown.out).lt g hg).1;omega
     ·rcases zBm (show wr.ownsRow _ _ _ _ _ _ from hown.out) hS2.out.own (by decide) with h1 | h1
      ·rw[h1] at hg;cases hg
      ·exact h1 (by rw[hg,hX])
    have HC6:Hid (w6.heap[w.heap.size]? = some (.cells #[.int .i64 (con:Int)] 3)):=zJY HF6.out hbc.out HNX1.out
    have HG6:Hid (w6.heap[G]? = some (.cells #[.int .u64 (g0:Int)] 152)):=zJY HF6.out hbg.out HNX2.out
    clear hS6 hf6 hx6
    go_wp2
    go_roundw
    case rel=>exact⟨k+1,by omega,by go_num,ov6,L2++[x6],HM6,HS6,HO6,HC6,HG6⟩
    case measure=>simp[intOf];omega
   ·have HFM:Hid (L2.map (·.1)=RT):=by
     have h1:=hmp.out
     rw[List.take_of_length_le (by rw[HE.out,List.length_map];omega)] at h1
     exact h1
    go_wp2
    go_end0
    exact⟨rfl,ov2,L2,HFM.out,hS2.out⟩
theorem zGN (vs:List MVar) (pt:List (List Nat)) (t:Nat×Nat×Nat):(zBA vs pt t).length≤36:=by
 unfold zBA
 split
 ·simp
 ·rw[List.length_map];exact zCh _ _
theorem zGO (args:Array Value) (w':World):Sem.run Tryz.prog (callFunc 227 args) w'=.ok (.enter 227 args) w':=by
 simp[callFunc,go_sem,Tryz.func227,Tryz.f227]
def ReaI (vs:List MVar) (pt:List (List Nat)) (w0:World) (r:Nat) (T:List (Nat×Nat×Nat)) (w:World):Prop :=
 ∃ov L,ReaS w0 r w ov L∧L.map (·.1)=T.flatMap (zBA vs pt)∧L.length≤36 * T.length∧T.length≤37
theorem zEw (vs:List MVar) (hva:zAH vs) (pt:List (List Nat)) (cs:List Nat) (r:Nat) (sv pv cv:Value) (w0:World) (hR:RulesAt w0 r sv pv cv vs pt cs) :
 Teller 227 #[.pointer (some ⟨w0.heap.size,0,none⟩),.pointer (some ⟨w0.heap.size+1,0,none⟩)] vs pt (ReaI vs pt w0 r):=by
 refine⟨zGO,fun T w w' h hb=>?_,fun T con b a w h hT hcon hbw hab=>?_⟩
 ·obtain⟨ov,L,h1,h2⟩:=h
  exact⟨ov,L,h1.below hb,h2⟩
 ·obtain⟨ov,L,h1,h2,h3,h4⟩:=h
  refine (zJZ vs hva pt cs r sv pv cv w0 hR con b a hcon hbw hab ov L (by omega) w h1).mono ?_
  rintro e w' ⟨rfl,ov',L',h5,h6⟩
  refine⟨rfl,ov',L++L',h6,?_,?_,?_⟩
  ·rw[List.map_append,h2,h5,List.flatMap_append];simp
  ·have h7:=congrArg List.length h5
   rw[List.length_map] at h7
   have h8:=zGN vs pt (con,b,a)
   rw[List.length_append,List.length_append,List.length_singleton]
   omega
  ·rw[List.length_append,List.length_singleton];omega
set_option maxHeartbeats 1600000 in
set_option maxRecDepth 100000 in
theorem zHB (vs:List MVar) (hva:zAH vs) (hn1:1≤vs.length) (pt:List (List Nat)) (cs:List Nat) (h:Nat) (hh:h<2 ^ 36) (r:Nat) (sv pv cv:Value) (w:World) (hR:RulesAt w r sv pv cv vs pt cs) :
 Calls Tryz.prog 183 #[.pointer (some ⟨r,0,none⟩),.int .u64 h] w fun e w'=>∃v L,e=.returned v∧L.map (·.1)=zBU vs cs pt h∧ROwn w.heap.size w' v L∧(∀x∈L,LOwn w.heap.size w' x.2 x.1.1.cla)∧L.length≤1400∧Below w.heap.size w w':=by
 have HR:Hid (RulesAt w r sv pv cv vs pt cs):=hR
 have HVO:Hid (zAH vs):=hva
 have H1:Hid (1≤vs.length):=hn1
 have HH:Hid (h<2 ^ 36):=hh
 have HI:Hid (ReaI vs pt w r [] ((w.alloc (.cells #[.pointer (some ⟨r,0,none⟩)] 90)).alloc (.cells #[.slice none 0 0] 204))):=by
  refine⟨.slice none 0 0,[],⟨?_,?_,World.ownsRow_nil _ _ _ _,(fun x hx=>by cases hx),?_⟩,rfl,by simp,by simp⟩
  ·exact ((zAA (w.alloc (.cells #[.pointer (some ⟨r,0,none⟩)] 90)) (.cells #[.slice none 0 0] 204)).block w.heap.size (by simp)).trans (heap_alloc_new w _)
  ·have h:=heap_alloc_new (w.alloc (.cells #[.pointer (some ⟨r,0,none⟩)] 90)) (.cells #[.slice none 0 0] 204)
   rw[World.size_alloc] at h
   exact h
  ·exact (zAA _ _).alloc (by simp) _
 clear hR hva hn1 hh
 go_enter Tryz.func183,Tryz.ntmps183
 go_wp2_with fail
 refine (zFL vs HVO.out H1.out cs pt h HH.out r sv pv cv _ _ (ReaI vs pt w r) (zEw vs HVO.out pt cs r sv pv cv w HR.out) (fun T Y hY=>by obtain⟨ov,L,h1,_⟩:=hY;exact RulesAt.below h1.fr HR.out) _ HI.out).mono ?_
 rintro e w2 ⟨rfl,ov,L,hS,hmp,hl1,hl2⟩
 have HS:Hid (ReaS w r w2 ov L):=hS
 have HMP:Hid (L.map (·.1)=zBU vs cs pt h):=hmp
 have HLL:Hid (L.length≤1400):=by show _≤_;omega
 have k0:w2.cell? ⟨w.heap.size+1,0,none⟩=some ov:=blk9 hS.blk 0 _ rfl
 obtain⟨ao,co,rfl⟩:=zAC (show w2.ownsRow _ _ _ _ _ _ from hS.own)
 clear hS hmp hl1 hl2
 go_wp2
 go_ret
 exact⟨_,L,rfl,HMP.out,zCC (by omega) HS.out.own,fun x hx=>zA2 (by omega) (HS.out.cl x hx),HLL.out,HS.out.fr⟩
set_option maxHeartbeats 800000 in
set_option maxRecDepth 100000 in
theorem zHC (l:List Nat) (hl:l.length≤200000) (u:Value) (w:World) (hu:PArg w u l) :
 Calls Tryz.prog 180 #[u] w fun e w'=>∃x,e=.returned x∧w'.ownsRow w.heap.size 152 1 x l.length (u64s l)∧Below w.heap.size w w':=by
 obtain⟨i0,hi0,hz0,hz1,hz2⟩:=info_parts Tryz.infoPart
 have HU:Hid (∀w',Below w.heap.size w w'→PArg w' u l):=fun w' h=>PArg.below h hu
 have q22:∀(w:World) (a:Option Addr) (n c n' c':Nat),(binOp .eql 193 (.slice a n c) (.slice none n' c')).run Tryz.prog w=.ok (.bool a.isNone) w:=fun w a n c n' c'=>Lib.run_eql_slice_nil w _ _ a n c n' c' Tryz.underPart
 obtain⟨a,c,rfl,hm,hr⟩:=hu
 cases a with
 | none =>
   have:l=[]:=by
    cases l with
    | nil=>rfl
    | cons z r=>obtain⟨_,b,off,hq,_⟩:=hr 0 z rfl;cases hq
   subst this
   clear HU
   go_enter Tryz.func180,Tryz.ntmps180
   go_wp2
   go_ret
   exact⟨_,rfl,World.ownsRow_nil _ _ _ _,Below.refl _ _⟩
 | some ad =>
   have HL:Hid (l.length≤200000):=hl
   have HC:Hid (∀(j:Nat) (u:Value),(u64s l)[j]? = some u→(w.alloc (.cells #[] 152)).cell? (ad.add j)=some u):=fun j y hy=>by
    unfold u64s at hy
    rw[List.getElem?_map] at hy
    cases hz:l[j]? with
    | none=>rw[hz] at hy;cases hy
    | some z =>
      rw[hz] at hy
      obtain⟨_,b,off,hq,hlt,hc⟩:=hr j z hz
      cases hq
      rw[zEJ]
      have:y=.int .u64 (z:Int):=by simpa using hy.symm
      rw[this]
      exact ((zAA w _).cell (p:=⟨b,off+j,none⟩) hlt).trans hc
   have H1:Hid (∀u∈u64s l,u.oneCell'=true):=fun u hu=>by
    obtain⟨z,_,rfl⟩:=List.mem_map.1 hu
    rfl
   have HFL:Hid ((u64s l).length=l.length * 1):=by show _=_;unfold u64s;simp
   have HM0:Hid ((w.alloc (.cells #[] 152)).ownsRow w.heap.size 152 1 (.slice (some ⟨w.heap.size,0,none⟩) 0 0) 0 []):=World.ownsRow_made w #[] 0 (Nat.le_refl _) (Nat.zero_le _) (by simp)
   clear hl hr hm
   go_enter Tryz.func180,Tryz.ntmps180
   go_wp2_with (at_builtin;refine wpList_append_own _ rfl _ _ 193 rfl w.heap.size 152 i0 (.int .u64 0) 1 8 Tryz.underPart hi0 hz0 hz1 hz2 rfl (by decide) _ _ _ rfl HM0.out ad l.length c (u64s l) rfl HFL.out HC.out H1.out ?c1 ?c2 ?c3 ?_)
   case c1=>have:=HL.out;unfold maxLen;omega
   case c2=>have:=HL.out;omega
   case c3=>simp
   intro v3 w3 hown3 hgrow _
   have HB3:Hid (Below w.heap.size w w3):=(zAA _ _).grown hgrow (by simp) (by intro k hk;simp[Value.ownBlock] at hk;omega)
   have HO3:Hid (w3.ownsRow w.heap.size 152 1 v3 l.length (u64s l)):=by show World.ownsRow _ _ _ _ _ _ _;simpa using hown3
   obtain⟨av,cv,rfl⟩:=zAC hown3
   clear hown3 hgrow
   go_wp2
   go_ret
   exact⟨_,by simp,HO3.out,HB3.out⟩
theorem zDt {w:World} {v:Value} {c:List RV} (h:zDf w v c) (k:Nat) (x:RV) (hx:c[k]? = some x):∃a n cc b off,v=.slice a n cc∧n=c.length∧n≤cc∧cc≤maxLen∧a=some ⟨b,off,none⟩∧b<w.heap.size ∧
 w.cell? ⟨b,off+k * 4,none⟩=some (.int .i64 x.1.1.kind)∧w.cell? ⟨b,off+k * 4+1,none⟩=some (.int .i64 x.1.1.con)∧w.cell? ⟨b,off+k * 4+2,none⟩=some x.2∧w.cell? ⟨b,off+k * 4+3,none⟩=some (.int .u64 (x.1.2:Int)):=by
 obtain⟨a,cc,hv,hm,hr⟩:=h
 have hk:k<c.length:=(List.getElem?_eq_some_iff.1 hx).1
 have hw:=zBy c
 have get:∀(j:Nat) (u:Value),j<4→(zAZ x)[j]? = some u→((c.map zAZ).flatten)[k * 4+j]? = some u:=by
  intro j u hj hu
  have h1:(((c.map zAZ).flatten).drop (k * 4))[j]? = some u:=by
   rw[zCc 4 k _ hw,←List.map_drop,List.drop_eq_getElem_cons hk]
   have e:c[k]=x:=by rw[List.getElem?_eq_getElem hk] at hx;exact Option.some.inj hx
   rw[List.map_cons,List.flatten_cons,e,List.getElem?_append_left (by show j<4;exact hj)]
   exact hu
  rw[List.getElem?_drop] at h1
  exact h1
 obtain⟨b,off,ha,hlt,c0⟩:=hr _ _ (get 0 _ (by omega) rfl)
 obtain⟨b1,o1,ha1,_,c1⟩:=hr _ _ (get 1 _ (by omega) rfl)
 obtain⟨b2,o2,ha2,_,c2⟩:=hr _ _ (get 2 _ (by omega) rfl)
 obtain⟨b3,o3,ha3,_,c3⟩:=hr _ _ (get 3 _ (by omega) rfl)
 rw[ha] at ha1 ha2 ha3
 cases ha1;cases ha2;cases ha3
 rw[List.length_map] at hv hm
 exact⟨a,_,cc,b,off,hv,rfl,hm.1,hm.2,ha,hlt,c0,by rw[Nat.add_assoc];exact c1,by rw[Nat.add_assoc];exact c2,by rw[Nat.add_assoc];exact c3⟩
end Go.Proofs.YtdjbejlbmaiocafGreatDoor
