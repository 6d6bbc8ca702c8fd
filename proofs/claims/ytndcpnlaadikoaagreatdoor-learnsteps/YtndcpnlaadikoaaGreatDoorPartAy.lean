/- What the proof leans on, part 25. -/
import Derived.Test.YtndcpnlaadikoaaGreatDoorPartAx
import Derived.Test.YtndcpnlaadikoaaGreatDoorPartAr
import Derived.Test.YtndcpnlaadikoaaGreatDoorPartAw
namespace Go.Proofs.YtndcpnlaadikoaaGreatDoor
open Go.RowKit
theorem zHs (vs:List MVar) (pt:List (List Nat)) (t:Nat×Nat×Nat):(zAi vs pt t).length≤36:=by
 unfold zAi
 split
 ·simp
 ·rw[List.length_map];exact zD9 _ _
theorem zHt (args:Array Value) (w':World):Sem.run Tryz.prog (callFunc 151 args) w'=.ok (.enter 151 args) w':=by
 simp[callFunc,go_sem,Tryz.func151,Tryz.f151]
def ReaI (vs:List MVar) (pt:List (List Nat)) (w0:World) (r:Nat) (T:List (Nat×Nat×Nat)) (w:World):Prop :=
 ∃ov L,ReaS w0 r w ov L∧L.map (·.1)=T.flatMap (zAi vs pt)∧L.length≤36 * T.length∧T.length≤37
theorem zFw (vs:List MVar) (hva:zAU vs) (pt:List (List Nat)) (cs:List Nat) (r:Nat) (sv pv cv:Value) (w0:World) (hR:RulesAt w0 r sv pv cv vs pt cs) :
 Teller 151 #[.pointer (some ⟨w0.heap.size,0,none⟩),.pointer (some ⟨w0.heap.size+1,0,none⟩)] vs pt (ReaI vs pt w0 r):=by
 refine⟨zHt,fun T w w' h hb=>?_,fun T con b a w h hT hcon hbw hab=>?_⟩
 ·obtain⟨ov,L,h1,h2⟩:=h
  exact⟨ov,L,h1.below hb,h2⟩
 ·obtain⟨ov,L,h1,h2,h3,h4⟩:=h
  refine (zLe vs hva pt cs r sv pv cv w0 hR con b a hcon hbw hab ov L (by omega) w h1).mono ?_
  rintro e w' ⟨rfl,ov',L',h5,h6⟩
  refine⟨rfl,ov',L++L',h6,?_,?_,?_⟩
  ·rw[List.map_append,h2,h5,List.flatMap_append];simp
  ·have h7:=congrArg List.length h5
   rw[List.length_map] at h7
   have h8:=zHs vs pt (con,b,a)
   rw[List.length_append,List.length_append,List.length_singleton]
   omega
  ·rw[List.length_append,List.length_singleton];omega
set_option maxHeartbeats 1600000 in
set_option maxRecDepth 100000 in
theorem zIu (vs:List MVar) (hva:zAU vs) (hn1:1≤vs.length) (pt:List (List Nat)) (cs:List Nat) (h:Nat) (hh:h<2 ^ 36) (r:Nat) (sv pv cv:Value) (w:World) (hR:RulesAt w r sv pv cv vs pt cs) :
 Calls Tryz.prog 90 #[.pointer (some ⟨r,0,none⟩),.int .u64 h] w fun e w'=>∃v L,e=.returned v∧L.map (·.1)=zAf vs cs pt h∧ROwn w.heap.size w' v L∧(∀x∈L,LOwn w.heap.size w' x.2 x.1.1.cla)∧L.length≤1400∧Below w.heap.size w w':=by
 have HR:Hid (RulesAt w r sv pv cv vs pt cs):=hR
 have HVO:Hid (zAU vs):=hva
 have H1:Hid (1≤vs.length):=hn1
 have HH:Hid (h<2 ^ 36):=hh
 have HI:Hid (ReaI vs pt w r [] ((w.alloc (.cells #[.pointer (some ⟨r,0,none⟩)] 71)).alloc (.cells #[.slice none 0 0] 142))):=by
  refine⟨.slice none 0 0,[],⟨?_,?_,World.ownsRow_nil _ _ _ _,(fun x hx=>by cases hx),?_⟩,rfl,by simp,by simp⟩
  ·exact ((zAA (w.alloc (.cells #[.pointer (some ⟨r,0,none⟩)] 71)) (.cells #[.slice none 0 0] 142)).block w.heap.size (by simp)).trans (heap_alloc_new w _)
  ·have h:=heap_alloc_new (w.alloc (.cells #[.pointer (some ⟨r,0,none⟩)] 71)) (.cells #[.slice none 0 0] 142)
   rw[World.size_alloc] at h
   exact h
  ·exact (zAA _ _).alloc (by simp) _
 clear hR hva hn1 hh
 go_enter Tryz.func90,Tryz.ntmps90
 go_wp2_with fail
 refine (zGH vs HVO.out H1.out cs pt h HH.out r sv pv cv _ _ (ReaI vs pt w r) (zFw vs HVO.out pt cs r sv pv cv w HR.out) (fun T Y hY=>by obtain⟨ov,L,h1,_⟩:=hY;exact RulesAt.below h1.fr HR.out) _ HI.out).mono ?_
 rintro e w2 ⟨rfl,ov,L,hS,hmp,hl1,hl2⟩
 have HS:Hid (ReaS w r w2 ov L):=hS
 have HMP:Hid (L.map (·.1)=zAf vs cs pt h):=hmp
 have HLL:Hid (L.length≤1400):=by show _≤_;omega
 have k0:w2.cell? ⟨w.heap.size+1,0,none⟩=some ov:=blk9 hS.blk 0 _ rfl
 obtain⟨ao,co,rfl⟩:=zAE (show w2.ownsRow _ _ _ _ _ _ from hS.own)
 clear hS hmp hl1 hl2
 go_wp2
 go_ret
 exact⟨_,L,rfl,HMP.out,zCq (by omega) HS.out.own,fun x hx=>zAw (by omega) (HS.out.cl x hx),HLL.out,HS.out.fr⟩
set_option maxHeartbeats 800000 in
set_option maxRecDepth 100000 in
theorem zIv (l:List Nat) (hl:l.length≤200000) (u:Value) (w:World) (hu:PArg w u l) :
 Calls Tryz.prog 87 #[u] w fun e w'=>∃x,e=.returned x∧w'.ownsRow w.heap.size 136 1 x l.length (u64s l)∧Below w.heap.size w w':=by
 obtain⟨i0,hi0,hz0,hz1,hz2⟩:=info_parts Tryz.infoPart
 have HU:Hid (∀w',Below w.heap.size w w'→PArg w' u l):=fun w' h=>PArg.below h hu
 have q22:∀(w:World) (a:Option Addr) (n c n' c':Nat),(binOp .eql 139 (.slice a n c) (.slice none n' c')).run Tryz.prog w=.ok (.bool a.isNone) w:=fun w a n c n' c'=>Lib.run_eql_slice_nil w _ _ a n c n' c' Tryz.underPart
 obtain⟨a,c,rfl,hm,hr⟩:=hu
 cases a with
 | none =>
   have:l=[]:=by
    cases l with
    | nil=>rfl
    | cons z r=>obtain⟨_,b,off,hq,_⟩:=hr 0 z rfl;cases hq
   subst this
   clear HU
   go_enter Tryz.func87,Tryz.ntmps87
   go_wp2
   go_ret
   exact⟨_,rfl,World.ownsRow_nil _ _ _ _,Below.refl _ _⟩
 | some ad =>
   have HL:Hid (l.length≤200000):=hl
   have HC:Hid (∀(j:Nat) (u:Value),(u64s l)[j]? = some u→(w.alloc (.cells #[] 136)).cell? (ad.add j)=some u):=fun j y hy=>by
    unfold u64s at hy
    rw[List.getElem?_map] at hy
    cases hz:l[j]? with
    | none=>rw[hz] at hy;cases hy
    | some z =>
      rw[hz] at hy
      obtain⟨_,b,off,hq,hlt,hc⟩:=hr j z hz
      cases hq
      rw[zDZ]
      have:y=.int .u64 (z:Int):=by simpa using hy.symm
      rw[this]
      exact ((zAA w _).cell (p:=⟨b,off+j,none⟩) hlt).trans hc
   have H1:Hid (∀u∈u64s l,u.oneCell'=true):=fun u hu=>by
    obtain⟨z,_,rfl⟩:=List.mem_map.1 hu
    rfl
   have HFL:Hid ((u64s l).length=l.length * 1):=by show _=_;unfold u64s;simp
   have HM0:Hid ((w.alloc (.cells #[] 136)).ownsRow w.heap.size 136 1 (.slice (some ⟨w.heap.size,0,none⟩) 0 0) 0 []):=World.ownsRow_made w #[] 0 (Nat.le_refl _) (Nat.zero_le _) (by simp)
   clear hl hr hm
   go_enter Tryz.func87,Tryz.ntmps87
   go_wp2_with (at_builtin;refine wpList_append_own _ rfl _ _ 139 rfl w.heap.size 136 i0 (.int .u64 0) 1 8 Tryz.underPart hi0 hz0 hz1 hz2 rfl (by decide) _ _ _ rfl HM0.out ad l.length c (u64s l) rfl HFL.out HC.out H1.out ?c1 ?c2 ?c3 ?_)
   case c1=>have:=HL.out;unfold maxLen;omega
   case c2=>have:=HL.out;omega
   case c3=>simp
   intro v3 w3 hown3 hgrow _
   have HB3:Hid (Below w.heap.size w w3):=(zAA _ _).grown hgrow (by simp) (by intro k hk;simp[Value.ownBlock] at hk;omega)
   have HO3:Hid (w3.ownsRow w.heap.size 136 1 v3 l.length (u64s l)):=by show World.ownsRow _ _ _ _ _ _ _;simpa using hown3
   obtain⟨av,cv,rfl⟩:=zAE hown3
   clear hown3 hgrow
   go_wp2
   go_ret
   exact⟨_,by simp,HO3.out,HB3.out⟩
theorem zEn {w:World} {v:Value} {c:List RV} (h:zEY w v c) (k:Nat) (x:RV) (hx:c[k]? = some x):∃a n cc b off,v=.slice a n cc∧n=c.length∧n≤cc∧cc≤maxLen∧a=some ⟨b,off,none⟩∧b<w.heap.size ∧
 w.cell? ⟨b,off+k * 4,none⟩=some (.int .i64 x.1.1.kind)∧w.cell? ⟨b,off+k * 4+1,none⟩=some (.int .i64 x.1.1.con)∧w.cell? ⟨b,off+k * 4+2,none⟩=some x.2∧w.cell? ⟨b,off+k * 4+3,none⟩=some (.int .u64 (x.1.2:Int)):=by
 obtain⟨a,cc,hv,hm,hr⟩:=h
 have hk:k<c.length:=(List.getElem?_eq_some_iff.1 hx).1
 have hw:=zCZ c
 have get:∀(j:Nat) (u:Value),j<4→(zAj x)[j]? = some u→((c.map zAj).flatten)[k * 4+j]? = some u:=by
  intro j u hj hu
  have h1:(((c.map zAj).flatten).drop (k * 4))[j]? = some u:=by
   rw[zDI 4 k _ hw,←List.map_drop,List.drop_eq_getElem_cons hk]
   have e:c[k]=x:=by rw[List.getElem?_eq_getElem hk] at hx;exact Option.some.inj hx
   rw[List.map_cons,List.flatten_cons,e,List.getElem?_append_left (by show j<4;exact hj)]
   exact hu
  rw[List.getElem?_drop] at h1
  exact h1
 obtain⟨b,off,ha,hlt,c0⟩:=hr _ _ (get 0 _ (by omega) rfl)
 obtain⟨b1,o1,ha1,_,c1⟩:=hr _ _ (get 1 _ (by omega) rfl)
 obtain⟨b2,o2,ha2,_,c2⟩:=hr _ _ (get 2 _ (by omega) rfl)
 obtain⟨b3,o3,ha3,_,c3⟩:=hr _ _ (get 3 _ (by omega) rfl)
 rw[ha] at ha1 ha2 ha3
 cases ha1;cases ha2;cases ha3
 rw[List.length_map] at hv hm
 exact⟨a,_,cc,b,off,hv,rfl,hm.1,hm.2,ha,hlt,c0,by rw[Nat.add_assoc];exact c1,by rw[Nat.add_assoc];exact c2,by rw[Nat.add_assoc];exact c3⟩
set_option maxHeartbeats 400000 in
theorem zHu (x y z:Value) (w:World):Calls Tryz.prog 198 #[x,y,z] w fun e w'=>e=.returned (.tuple #[])∧w'=w:=by
 go_enter Tryz.func198,Tryz.ntmps198
 go_wp2
 go_end0
 exact⟨rfl,rfl⟩
theorem zFY (args:Array Value) (w':World):Sem.run Tryz.prog (callFunc 198 args) w'=.ok (.enter 198 args) w':=by
 simp[callFunc,go_sem,Tryz.func198,Tryz.f198]
theorem zIw (vs:List MVar) (pt:List (List Nat)) (W:World):Teller 198 #[] vs pt (fun _ w=>Below W.heap.size W w) :=
 ⟨zFY,fun _ _ _ h hb=>h.trans (hb.mono h.size),fun _ _ _ _ w h _ _ _ _=>(zHu _ _ _ w).mono fun _ _ ⟨h1,h2⟩=>⟨h1,by rw[h2];exact h⟩⟩
set_option maxHeartbeats 800000 in
set_option maxRecDepth 100000 in
theorem zLf (vs:List MVar) (hva:zAU vs) (hn1:1≤vs.length) (cs:List Nat) (pt:List (List Nat)) (cl:Cla) (r:Nat) (sv pv cv u:Value) (w:World) (hR:RulesAt w r sv pv cv vs pt cs) (hu:LArg w u cl) :
 Calls Tryz.prog 123 #[.pointer (some ⟨r,0,none⟩),u] w fun e w'=>e=.returned (.int .u64 ((zCz vs cs pt (zAF vs cl):Nat):Int))∧Below w.heap.size w w':=by
 have HR:Hid (RulesAt w r sv pv cv vs pt cs):=hR
 have HU:Hid (LArg w u cl):=hu
 have HVO:Hid (zAU vs):=hva
 have H1:Hid (1≤vs.length):=hn1
 have g0:=hR.c0
 obtain⟨h,hh⟩:∃h,zAF vs cl=h:=⟨_,rfl⟩
 have HH:Hid (zAF vs cl=h):=hh
 have HH36:Hid (h<2 ^ 36):=by rw[←hh];exact zEV vs hva.1 _
 rw[hh]
 obtain⟨a,c,rfl,_,_⟩:=hR.hv
 obtain⟨a2,c2,rfl,_,_⟩:=hu
 clear hR hva hn1 hh
 go_enter Tryz.func123,Tryz.ntmps123
 go_wp2_with fail
 refine (zD8 vs HVO.out cl _ _ _ HR.out.hv HU.out).mono ?_
 rintro e w1 ⟨rfl,hb1⟩
 rw[HH.out]
 have HB1:Hid (Below w.heap.size w w1):=hb1
 clear hb1 g0
 go_wp2_with fail
 refine (zGH vs HVO.out H1.out cs pt h HH36.out r _ pv cv _ #[] _ (zIw vs pt w) (fun T Y hY=>RulesAt.below hY HR.out) _ HB1.out).mono ?_
 rintro e w2 ⟨rfl,hb2⟩
 have HB2:Hid (Below w.heap.size w w2):=hb2
 clear hb2
 go_wp2
 go_ret
 exact⟨rfl,HB2.out⟩
set_option maxHeartbeats 800000 in
set_option maxRecDepth 100000 in
theorem zFZ (vs:List MVar) (hva:zAU vs) (hn1:1≤vs.length) (cs:List Nat) (pt:List (List Nat)) (cl:Cla) (r bx:Nat) (sv pv cv u:Value) (w:World) (hR:RulesAt w r sv pv cv vs pt cs) (hu:LArg w u cl) (hx:w.cell? ⟨bx,0,none⟩=some (.pointer (some ⟨r,0,none⟩))) :
 Calls Tryz.prog 141 #[u,.pointer (some ⟨bx,0,none⟩)] w fun e w'=>e=.returned (.bool (zBL vs cs pt cl))∧Below w.heap.size w w':=by
 have HR:Hid (RulesAt w r sv pv cv vs pt cs):=hR
 have HU:Hid (LArg w u cl):=hu
 have HVO:Hid (zAU vs):=hva
 have H1:Hid (1≤vs.length):=hn1
 obtain⟨B,hB⟩:∃B,zBL vs cs pt cl=B:=⟨_,rfl⟩
 obtain⟨N,hN⟩:∃N:Nat,zCz vs cs pt (zAF vs cl)=N:=⟨_,rfl⟩
 have HN:Hid (zCz vs cs pt (zAF vs cl)=N):=hN
 have HB:Hid (B=((N:Int)==0)):=by
  show _=_
  rw[←hB];unfold zBL;rw[hN]
  by_cases h0:N=0
  ·rw[h0];rfl
  ·have h1:((N:Int)==0)=false:=by simpa using h0
   rw[h1];simpa using h0
 rw[hB]
 obtain⟨a2,c2,rfl,_,_⟩:=hu
 clear hR hva hn1 hB hN
 go_enter Tryz.func141,Tryz.ntmps141
 go_wp2_with fail
 refine (zLf vs HVO.out H1.out cs pt cl r sv pv cv _ _ HR.out HU.out).mono ?_
 rintro e w1 ⟨rfl,hb1⟩
 rw[HN.out]
 have HB1:Hid (Below w.heap.size w w1):=hb1
 clear hb1 hx
 go_wp2
 go_ret
 exact⟨zAB HB.out.symm,HB1.out⟩
theorem zFx (args:Array Value) (w':World):Sem.run Tryz.prog (callFunc 141 args) w'=.ok (.enter 141 args) w':=by
 simp[callFunc,go_sem,Tryz.func141,Tryz.f141]
def zCr (vs:List MVar) (cs:List Nat) (pt:List (List Nat)) (c:Cla):Cla×Bool:=if zBL vs cs pt c then (zGG vs cs pt c,true) else ([],false)
set_option maxHeartbeats 800000 in
set_option maxRecDepth 100000 in
theorem zKR (vs:List MVar) (hva:zAU vs) (hn1:1≤vs.length) (cs:List Nat) (pt:List (List Nat)) (cl:Cla) (hcl:cl.length≤900) (r:Nat) (sv pv cv u:Value) (w:World) (hR:RulesAt w r sv pv cv vs pt cs) (hu:LArg w u cl) :
 Calls Tryz.prog 84 #[.pointer (some ⟨r,0,none⟩),u] w fun e w'=>∃x,e=.returned (.tuple #[x,.bool (zCr vs cs pt cl).2])∧LOwn w.heap.size w' x (zCr vs cs pt cl).1∧Below w.heap.size w w':=by
 have HR:Hid (∀Y,Below w.heap.size w Y→RulesAt Y r sv pv cv vs pt cs):=fun Y hY=>RulesAt.below hY hR
 have HU:Hid (∀Y,Below w.heap.size w Y→LArg Y u cl):=fun Y hY=>LArg.below hY hu
 have HVO:Hid (zAU vs):=hva
 have H1:Hid (1≤vs.length):=hn1
 have HCL:Hid (cl.length≤900):=hcl
 obtain⟨R,hRR⟩:∃R,zCr vs cs pt cl=R:=⟨_,rfl⟩
 obtain⟨B,hB⟩:∃B,zBL vs cs pt cl=B:=⟨_,rfl⟩
 have HE:Hid (R=if B then (zGG vs cs pt cl,true) else ([],false)):=by show _=_;rw[←hRR,←hB];rfl
 have HBE:Hid (zBL vs cs pt cl=B):=hB
 rw[hRR]
 obtain⟨a2,c2,rfl,_,_⟩:=hu
 have HX:Hid (∀Y,Below (w.alloc (.cells #[.pointer (some ⟨r,0,none⟩)] 71)).heap.size (w.alloc (.cells #[.pointer (some ⟨r,0,none⟩)] 71)) Y→Y.cell? ⟨w.heap.size,0,none⟩=some (.pointer (some ⟨r,0,none⟩))):=fun Y hY=>(hY.cell (by simp)).trans (World.cell?_alloc_at _ _ _ 0 (by simp))
 clear hR hva hn1 hB hRR hcl
 go_enter Tryz.func84,Tryz.ntmps84
 go_wp2_with fail
 refine (zFZ vs HVO.out H1.out cs pt cl r w.heap.size sv pv cv _ _ (HR.out _ (zAA _ _)) (HU.out _ (zAA _ _)) (HX.out _ (Below.refl _ _))).mono ?_
 rintro e w1 ⟨rfl,hb1⟩
 rw[HBE.out]
 have HBA:Hid (Below (w.alloc (.cells #[.pointer (some ⟨r,0,none⟩)] 71)).heap.size (w.alloc (.cells #[.pointer (some ⟨r,0,none⟩)] 71)) w1):=hb1
 have HB1:Hid (Below w.heap.size w w1):=(zAA _ _).trans (hb1.mono (by simp))
 clear hb1
 cases B
 ·have HE2:Hid (R=([],false)):=HE.out
  go_wp2
  go_ret2
  exact⟨_,by rw[HE2.out];rfl,by rw[HE2.out];exact World.ownsRow_nil _ _ _ _,HB1.out⟩
 ·have HE2:Hid (R=(zGG vs cs pt cl,true)):=HE.out
  go_wp2_with fail
  refine (zKP 141 #[.pointer (some ⟨w.heap.size,0,none⟩)] (zBL vs cs pt) cl HCL.out _ _ (HU.out _ HB1.out) ⟨zFx,fun c v Y hc hY hv=>?_⟩).mono ?_
  ·have hYA:=HBA.out.trans (hY.mono HBA.out.size)
   have hYW:=HB1.out.trans (hY.mono HB1.out.size)
   exact zFZ vs HVO.out H1.out cs pt c r w.heap.size sv pv cv _ _ (HR.out _ hYW) hv (HX.out _ hYA)
  rintro e w2 ⟨x,rfl,hx,hb2⟩
  have HO:Hid (LOwn w.heap.size w2 x (zGG vs cs pt cl)):=zAw HB1.out.size hx
  have HB2:Hid (Below w.heap.size w w2):=HB1.out.trans (hb2.mono HB1.out.size)
  obtain⟨ax,cx,rfl⟩:=zAE (show w2.ownsRow _ _ _ _ _ _ from hx)
  clear hx hb2
  go_wp2
  go_ret2
  exact⟨_,by rw[HE2.out];rfl,by rw[HE2.out];exact HO.out,HB2.out⟩
theorem PArg.lt36 {w:World} {v:Value} {l:List Nat} (h:PArg w v l):∀z∈l,z<2 ^ 36:=by
 intro z hz
 obtain⟨a,c,_,_,hr⟩:=h
 obtain⟨i,hi⟩:=List.mem_iff_getElem?.1 hz
 exact (hr i z hi).1
set_option maxHeartbeats 3200000 in
set_option maxRecDepth 100000 in
theorem zIx (vs:List MVar) (hva:zAU vs) (hn1:1≤vs.length) (pt:List (List Nat)) (cs:List Nat) (hcs:cs.length≤100000) (h:Nat) (hh:h<2 ^ 36) (r:Nat) (sv pv cv:Value) (c:List RV) (hcl:c.length≤5000) (hc36:∀x∈c,x.1.2<2 ^ 36) (hsl:∀x∈c,IsSl x) (v:Value) (b1 bh:Nat) (w:World) (hR:RulesAt w r sv pv cv vs pt cs) (hv:zEY w v c)
 (h1:w.cell? ⟨b1,0,none⟩=some (.pointer (some ⟨r,0,none⟩))) (h2:w.cell? ⟨bh,0,none⟩=some (.int .u64 h)) (hl1:b1<w.heap.size) (hl2:bh<w.heap.size) :
 Calls Tryz.prog 86 #[v,.pointer (some ⟨b1,0,none⟩),.pointer (some ⟨bh,0,none⟩)] w fun e w'=>e=.returned (.bool (zB3 vs cs h (c.map (·.1))))∧Below w.heap.size w w':=by
 obtain⟨i0,hi0,hz0,hz1,hz2⟩:=info_parts Tryz.infoPart
 have HR:Hid (∀Y,Below w.heap.size w Y→RulesAt Y r sv pv cv vs pt cs):=fun Y hY=>RulesAt.below hY hR
 have HV:Hid (∀Y,Below w.heap.size w Y→zEY Y v c):=fun Y hY=>zEY.below hY hv
 have HVO:Hid (zAU vs):=hva
 have H1:Hid (1≤vs.length):=hn1
 have HH:Hid (h<2 ^ 36):=hh
 have HCS:Hid (cs.length≤100000):=hcs
 have HC36:Hid (∀x∈c,x.1.2<2 ^ 36):=hc36
 have HCS36:Hid (∀z∈cs,z<2 ^ 36):=PArg.lt36 hR.hc
 have HSL:Hid (∀x∈c,IsSl x):=hsl
 have r2:=hR.c2
 have rl:=hR.lt
 have r0':=hR.c0
 have HK1:Hid (∀Y,Below w.heap.size w Y→Y.cell? ⟨b1,0,none⟩=some (.pointer (some ⟨r,0,none⟩))∧Y.cell? ⟨bh,0,none⟩=some (.int .u64 h)∧Y.cell? ⟨r,0,none⟩=some sv∧b1<Y.heap.size∧bh<Y.heap.size∧r<Y.heap.size):=fun Y hY =>
  ⟨(hY.cell (p:=⟨b1,0,none⟩) hl1).trans h1,(hY.cell (p:=⟨bh,0,none⟩) hl2).trans h2,(hY.cell (p:=⟨r,0,none⟩) rl).trans r0',Nat.lt_of_lt_of_le hl1 hY.size,Nat.lt_of_lt_of_le hl2 hY.size,Nat.lt_of_lt_of_le rl hY.size⟩
 obtain⟨B,hB⟩:∃B,zB3 vs cs h (c.map (·.1))=B:=⟨_,rfl⟩
 have HB:Hid (B=zDF vs (cs++c.map (·.1.2)) h):=by show _=_;rw[←hB];unfold zB3;rw[List.map_map];rfl
 rw[hB]
 obtain⟨a1,c1,rfl,_,_⟩:=hR.hv
 obtain⟨a2,c2,rfl,_,_⟩:=hR.hc
 obtain⟨a3,c3,he3⟩:=zLc hv
 subst he3
 clear hR hv hva hn1 hh hB hc36 hsl r0'
 go_enter Tryz.func86,Tryz.ntmps86
 go_wp2_with fail
 refine (zIv cs (by have:=HCS.out;omega) _ _ (HR.out _ (Below.refl _ _)).hc).mono ?_
 rintro e w1 ⟨x,rfl,hx,hb1⟩
 have HX:Hid (w1.ownsRow w.heap.size 136 1 x cs.length (u64s cs)):=hx
 have HB1:Hid (Below w.heap.size w w1):=hb1
 obtain⟨ax,cx,rfl⟩:=zAE hx
 clear hx hb1 r2 rl h1 h2
 go_wp2_with fail
 go_loopw [5,15] (fun o i wr=>∃(k:Nat) (done:List Nat),k≤c.length∧i=.int .i64 k∧wr.ownsRow w.heap.size 136 1 o done.length (u64s done)∧Hid (done=cs++(c.take k).map (·.1.2))∧Below w.heap.size w wr) (fun _ i _=>c.length - (intOf i).toNat)
 case atStart=>exact⟨0,cs,by omega,rfl,HX.out,by show _=_;simp,HB1.out⟩
 case round =>
  obtain⟨k,done,hk,rfl,hown,hdn,hbw⟩:=hrel
  have HOW:Hid (wr.ownsRow w.heap.size 136 1 u5 done.length (u64s done)):=hown
  have HBW:Hid (Below w.heap.size w wr):=hbw
  obtain⟨ao,co,rfl⟩:=zAE hown
  have hdl:done.length≤105000:=by rw[hdn.out,List.length_append,List.length_map,List.length_take];have:=HCS.out;omega
  clear hown hbw
  by_cases hlt:k<c.length
  ·obtain⟨t,ht⟩:∃t,c[k]? = some t:=⟨c[k],by simp[hlt]⟩
   obtain⟨a4,n4,c4,b4,o4,he4,hn4,hc41,hc42,ha4,hb4,q0,q1,q2,q3⟩:=zEn (HV.out _ HBW.out) k t ht
   injection he4 with he4 he5 he6
   rw[ha4] at he4
   subst he4
   obtain⟨sa,ns,sc,hse⟩:=HSL.out t (List.mem_of_getElem? ht)
   rw[hse] at q2
   have HNX:Hid (done++[t.1.2]=cs++(c.take (k+1)).map (·.1.2)):=by
    show _=_
    rw[hdn.out,List.take_add_one,ht,List.map_append,←List.append_assoc];rfl
   have hcc:c.length≤c3:=by omega
   unfold maxLen at hc42
   have hcm:c3≤2 ^ 63 - 1:=by omega
   clear he5 he6 hc41 hc42 hn4 hse ha4 ht hdn
   obtain⟨z,hz⟩:∃z,t.1.2=z:=⟨_,rfl⟩
   rw[hz] at q3 HNX
   have hbs:=HBW.out.size
   have HBX:Hid (Below w.heap.size w (wr.alloc (.cells #[.int .i64 t.1.1.kind,.int .i64 t.1.1.con,.slice sa ns sc,.int .u64 (z:Int)] 145))):=HBW.out.alloc hbs _
   have HO1:Hid ((wr.alloc (.cells #[.int .i64 t.1.1.kind,.int .i64 t.1.1.con,.slice sa ns sc,.int .u64 (z:Int)] 145)).ownsRow w.heap.size 136 1 (.slice ao done.length co) done.length (u64s done)):=HOW.out.alloc _
   clear hz
   go_upto_region 5 with (fail)
   obtain⟨V,hV⟩:∃V,wr.alloc (.cells #[.int .i64 t.1.1.kind,.int .i64 t.1.1.con,.slice sa ns sc,.int .u64 (z:Int)] 145)=V:=⟨_,rfl⟩
   have k3:(wr.alloc (.cells #[.int .i64 t.1.1.kind,.int .i64 t.1.1.con,.slice sa ns sc,.int .u64 (z:Int)] 145)).cell? ⟨wr.heap.size,3,none⟩=some (.int .u64 (z:Int)):=World.cell?_alloc_at _ _ _ 3 (by simp)
   rw[hV] at HBX HO1 k3 ⊢
   clear hV q0 q1 q2 q3
   have hvs:=HBX.out.size
   go_wp2_with (at_builtin;refine wpList_append_own _ rfl _ _ 139 rfl w.heap.size 136 i0 (.int .u64 0) 1 8 Tryz.underPart hi0 hz0 hz1 hz2 rfl (by decide) _ _ _ rfl (HO1.out.alloc _) ⟨V.heap.size,0,none⟩ 1 1 [.int .u64 (z:Int)] rfl rfl (zGJ V z) (by intro u hu;simp at hu;subst hu;rfl) ?c1 ?c2 ?c3 ?_)
   case c1=>unfold maxLen;omega
   case c2=>omega
   case c3=>simp;omega
   intro v6 w6 hown6 hg6 _
   have HO6:Hid (w6.ownsRow w.heap.size 136 1 v6 (done++[z]).length (u64s (done++[z]))):=by
    show World.ownsRow _ _ _ _ _ _ _
    unfold u64s at *
    rw[List.length_append,List.map_append];exact hown6
   have HB6:Hid (Below w.heap.size w w6):=(HBX.out.alloc hvs _).grown hg6 (by simp;omega) (fun g hg=>(HO1.out.lt g hg).1)
   clear hown6 hg6 k3
   go_wp2
   go_roundw
   case rel=>exact⟨k+1,done++[z],by omega,by go_num,HO6.out,HNX,HB6.out⟩
   case measure=>simp[intOf];omega
  ·have HFD:Hid (done=cs++c.map (·.1.2)):=by have h1:=hdn.out;rw[List.take_of_length_le (by omega)] at h1;exact h1
   have HPA:Hid (PArg wr (.slice ao done.length co) done):=zEE HOW.out (by
    rw[HFD.out]
    intro z hz
    rcases List.mem_append.1 hz with h | h
    ·exact HCS36.out z h
    ·obtain⟨x,hx,rfl⟩:=List.mem_map.1 h
     exact HC36.out x hx)
   obtain⟨k1,k2,k3,m1,m2,m3⟩:=HK1.out _ HBW.out
   have HBF:Hid (B=zDF vs done h):=by show _=_;rw[HB.out,HFD.out]
   have HFA:Hid (∀Y,Below wr.heap.size wr Y→Calls Tryz.prog 88 #[.slice a1 (List.length vs) c1,.slice ao done.length co,.int .u64 (h:Int)] Y fun e w'=>e=.returned (.bool B)∧Below Y.heap.size Y w'):=fun Y hY=>by
    rw[HBF.out]
    have hRY:=HR.out Y (HBW.out.trans (hY.mono HBW.out.size))
    exact zLQ vs HVO.out H1.out done h HH.out _ _ Y hRY.hv (PArg.below hY HPA.out) hRY.tab
   clear hdn
   go_upto_region 7 with (fail)
   go_region_held3 (fun w'=>Below wr.heap.size wr w'∧w'.cell? ⟨b1,0,none⟩=some (.pointer (some ⟨r,0,none⟩))∧w'.cell? ⟨bh,0,none⟩=some (.int .u64 h)∧w'.cell? ⟨r,0,none⟩=some (.slice a1 (List.length vs) c1))
    ((refine (fun (hB:Below wr.heap.size wr _)=>⟨hB,(hB.cell (p:=⟨b1,0,none⟩) m1).trans k1,(hB.cell (p:=⟨bh,0,none⟩) m2).trans k2,(hB.cell (p:=⟨r,0,none⟩) m3).trans k3⟩:Below wr.heap.size wr _→_) ?_;first | exact (Below.refl _ _).drew | exact zBv (by assumption) hbq))
    (first
      | (go_at_call 88;refine (HFA.out _ (show Below wr.heap.size wr _∧_ by assumption).1).mono ?_;rintro e w3 ⟨rfl,hbq⟩;have hB3:=zBv (by assumption) hbq))
   have HB3:Hid (Below w.heap.size w w3):=HBW.out.trans (hB3.mono HBW.out.size)
   clear hbq hB3 k1 k2 k3
   go_wp2
   go_ret
   exact⟨rfl,HB3.out⟩
theorem zG2 (args:Array Value) (w':World):Sem.run Tryz.prog (callFunc 86 args) w'=.ok (.enter 86 args) w':=by
 simp[callFunc,go_sem,Tryz.func86,Tryz.f86]
end Go.Proofs.YtndcpnlaadikoaaGreatDoor
