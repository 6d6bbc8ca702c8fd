/- What the proof leans on, part 46. -/
import Derived.Test.YtdjbejlbmaiocafGreatDoorPartAc
import Derived.Deep.QuietTactic
import Derived.BigQuiet
import Derived.Deep.RegionHeld3
import Derived.Test.YtdjbejlbmaiocafGreatDoorPartBr
import Derived.Test.YtdjbejlbmaiocafGreatDoorPartBs
import Derived.Test.YtdjbejlbmaiocafGreatDoorPartAn
import Derived.Test.YtdjbejlbmaiocafGreatDoorPartAo
import Derived.Test.YtdjbejlbmaiocafGreatDoorPartAk
import Derived.Test.YtdjbejlbmaiocafGreatDoorPartAi
import Derived.KernelRfl
import Derived.Test.YtdjbejlbmaiocafGreatDoorPartAr
namespace Go.Proofs.YtdjbejlbmaiocafGreatDoor
open Go.RowKit
theorem zJn {α:Type} (a b:List α) (m:Nat) (x:α) (h:a.take m=b.take m) (ha:a[m]? = some x) (hb:b[m]? = some x):a.take (m+1)=b.take (m+1):=by
 rw[List.take_add_one,List.take_add_one,h,ha,hb]
theorem zKu {α:Type} (a b:List α) (m:Nat) (h:a.take m=b.take m) (ha:¬m<a.length) (hl:a.length=b.length):a=b:=by
 rwa [List.take_of_length_le (by omega),List.take_of_length_le (by omega)] at h
theorem zKv {α:Type} (a b:List α) (m:Nat) (x y:α) (ha:a[m]? = some x) (hb:b[m]? = some y) (h:x≠y):a≠b:=by
 intro e;subst e;rw[ha] at hb;cases hb;exact h rfl
set_option maxHeartbeats 800000 in
set_option maxRecDepth 100000 in
theorem zCd (l k:List Int) (v u:Value) (w:World) (hv:IArg w v l) (hu:IArg w u k) :
 Calls Tryz.prog 18 #[v,u] w fun e w'=>e=.returned (.bool (decide (l=k)))∧∃n,w'=w.drewN n:=by
 obtain⟨a,c,rfl,hm,hr⟩:=hv
 obtain⟨a',c',rfl,hm',hr'⟩:=hu
 have HV:Hid (∀(i:Nat) (z:Int),l[i]? = some z→∃b off,a=some ⟨b,off,none⟩∧b<w.heap.size∧w.cell? ⟨b,off+i,none⟩=some (.int .i64 z)):=hr
 have HV':Hid (∀(i:Nat) (z:Int),k[i]? = some z→∃b off,a'=some ⟨b,off,none⟩∧b<w.heap.size∧w.cell? ⟨b,off+i,none⟩=some (.int .i64 z)):=hr'
 obtain⟨R,hR⟩:∃R,decide (l=k)=R:=⟨_,rfl⟩
 rw[hR]
 have HR:Hid (decide (l=k)=R):=hR
 unfold maxLen at hm hm'
 obtain⟨hm1,hm⟩:=hm
 obtain⟨hm1',hm'⟩:=hm'
 clear hr hr' hR
 by_cases hl:l.length=k.length
 ·have HL:Hid (l.length=k.length):=hl
  have g0:((l.length:Int) != (k.length:Int))=false:=by simp[hl]
  clear hl
  go_enter Tryz.func18,Tryz.ntmps18
  go_wp2_with fail
  go_loopw [5] (fun i wr=>∃m:Nat,m≤l.length∧i=.int .i64 m∧Hid (l.take m=k.take m)∧∃n,wr=w.drewN n) (fun i _=>l.length - (intOf i).toNat)
  case atStart=>exact⟨0,by omega,rfl,rfl,0,rfl⟩
  case round =>
   obtain⟨m,hml,rfl,hall,nq,rfl⟩:=hrel
   by_cases hlt:m<l.length
   ·have hlt':m<k.length:=by rw[←HL.out];exact hlt
    obtain⟨x,hx⟩:∃x,l[m]? = some x:=⟨l[m],by simp[hlt]⟩
    obtain⟨y,hy⟩:∃y,k[m]? = some y:=⟨k[m],by simp[hlt']⟩
    obtain⟨b,off,ha,hb,hc⟩:=HV.out m x hx
    obtain⟨b',off',ha',hb',hd⟩:=HV'.out m y hy
    have HX:Hid (l[m]? = some x):=hx
    have HY:Hid (k[m]? = some y):=hy
    subst ha;subst ha'
    clear hx hy
    by_cases hq:x=y
    ·subst hq
     have HN:Hid (l.take (m+1)=k.take (m+1)):=zJn l k m x hall.out HX.out HY.out
     go_wp2
     go_quiet (fail)
     go_wp2
     go_roundw
     case rel=>exact⟨m+1,by omega,by go_num,HN,_,rfl⟩
     case measure=>simp[intOf];omega
    ·have HN:Hid (R=false):=by rw[←HR.out];exact decide_eq_false (zKv l k m x y HX.out HY.out hq)
     have hq2:(x != y)=true:=by simpa using hq
     clear hq
     go_wp2
     go_quiet (fail)
     go_wp2
     go_ret
     exact⟨zAB HN.out.symm,_,zBj _ _ _⟩
   ·have HN:Hid (R=true):=by rw[←HR.out];exact decide_eq_true (zKu l k m hall.out hlt HL.out)
    go_wp2
    go_ret
    exact⟨zAB HN.out.symm,_,rfl⟩
 ·have HN:Hid (R=false):=by rw[←HR.out];exact decide_eq_false (fun h=>hl (by rw[h]))
  have g0:((l.length:Int) != (k.length:Int))=true:=by simp;omega
  clear hl
  go_enter Tryz.func18,Tryz.ntmps18
  go_wp2
  go_ret
  exact⟨zAB HN.out.symm,0,rfl⟩
theorem RArg.at {w:World} {a:Option Addr} {n c:Nat} {l:List (List Int)} (h:RArg w (.slice a n c) l) (i:Nat) (r:List Int) (hr:l[i]? = some r):∃b off x,a=some ⟨b,off,none⟩∧b<w.heap.size∧w.cell? ⟨b,off+i,none⟩=some x∧IArg w x r:=by
 obtain⟨a',c',hv,_,hh⟩:=h
 cases hv
 exact hh i r hr
set_option maxHeartbeats 1600000 in
set_option maxRecDepth 100000 in
theorem zGX (s:List (List Int)) (v u:Value) (w:World) (hv:RArg w v s) (hu:RArg w u s) :
 Calls Tryz.prog 22 #[v,u] w fun e w'=>e=.returned (.bool true)∧∃n,w'=w.drewN n:=by
 have HA:Hid (RArg w v s):=hv
 have HA':Hid (RArg w u s):=hu
 obtain⟨a,c,rfl,hm,_⟩:=hv
 obtain⟨a',c',rfl,hm',_⟩:=hu
 unfold maxLen at hm hm'
 obtain⟨hm1,hm⟩:=hm
 obtain⟨hm1',hm'⟩:=hm'
 have g0:((s.length:Int) != (s.length:Int))=false:=by simp
 go_enter Tryz.func22,Tryz.ntmps22
 go_wp2_with fail
 go_loopw [5] (fun i wr=>∃m:Nat,m≤s.length∧i=.int .i64 m∧∃n,wr=w.drewN n) (fun i _=>s.length - (intOf i).toNat)
 case atStart=>exact⟨0,by omega,rfl,0,rfl⟩
 case round =>
  obtain⟨m,hml,rfl,nq,rfl⟩:=hrel
  by_cases hlt:m<s.length
  ·obtain⟨x,hx⟩:∃x,s[m]? = some x:=⟨s[m],by simp[hlt]⟩
   obtain⟨b,off,vx,rfl,hb,hc,hix⟩:=RArg.at HA.out m x hx
   obtain⟨b',off',vy,rfl,hb',hd,hiy⟩:=RArg.at HA'.out m x hx
   have HIX:Hid (IArg w vx x):=hix
   have HIY:Hid (IArg w vy x):=hiy
   obtain⟨a5,c5,rfl,_,_⟩:=hix
   obtain⟨a6,c6,rfl,_,_⟩:=hiy
   clear hx
   have HS:Hid (∀p q,Calls Tryz.prog 18 #[.slice a5 x.length c5,.slice a6 x.length c6] (w.drewN (p+q)) fun e w'=>e=.returned (.bool true)∧∃n,w'=w.drewN (p+n)):=by
    intro p q
    refine (zCd x x _ _ (w.drewN (p+q)) HIX.out HIY.out).mono ?_
    rintro e w' ⟨rfl,n,rfl⟩
    exact⟨by simp,q+n,by rw[zBj,Nat.add_assoc]⟩
   go_wp2
   go_quiet ((go_at_call 18;exact HS.out _ _))
   go_wp2
   go_roundw
   case rel=>exact⟨m+1,by omega,by go_num,_,rfl⟩
   case measure=>simp[intOf];omega
  ·go_wp2
   go_ret
   exact⟨rfl,_,rfl⟩
theorem LArg.nth {w:World} {a:Option Addr} {n c:Nat} {l:List MLit} (h:LArg w (.slice a n c) l) (i:Nat) (t:MLit) (hr:l[i]? = some t):∃b off,a=some ⟨b,off,none⟩∧b<w.heap.size ∧
 w.cell? ⟨b,off+i * 3,none⟩=some (.int .i64 t.var)∧w.cell? ⟨b,off+i * 3+1,none⟩=some (.int .i64 t.op)∧w.cell? ⟨b,off+i * 3+2,none⟩=some (.int .i64 t.n):=by
 obtain⟨a',c',hv,_,hh⟩:=h
 cases hv
 exact hh i t hr
set_option maxHeartbeats 1600000 in
set_option maxRecDepth 100000 in
theorem zFp (s:List MLit) (v u:Value) (w:World) (hv:LArg w v s) (hu:LArg w u s) :
 Calls Tryz.prog 47 #[v,u] w fun e w'=>e=.returned (.bool true)∧∃n,w'=w.drewN n:=by
 have HA:Hid (LArg w v s):=hv
 have HA':Hid (LArg w u s):=hu
 obtain⟨a,c,rfl,hm,_⟩:=hv
 obtain⟨a',c',rfl,hm',_⟩:=hu
 unfold maxLen at hm hm'
 obtain⟨hm1,hm⟩:=hm
 obtain⟨hm1',hm'⟩:=hm'
 have g0:((s.length:Int) != (s.length:Int))=false:=by simp
 go_enter Tryz.func47,Tryz.ntmps47
 go_wp2_with fail
 go_loopw [5] (fun i wr=>∃m:Nat,m≤s.length∧i=.int .i64 m∧∃n,wr=w.drewN n) (fun i _=>s.length - (intOf i).toNat)
 case atStart=>exact⟨0,by omega,rfl,0,rfl⟩
 case round =>
  obtain⟨m,hml,rfl,nq,rfl⟩:=hrel
  by_cases hlt:m<s.length
  ·obtain⟨x,hx⟩:∃x,s[m]? = some x:=⟨s[m],by simp[hlt]⟩
   obtain⟨b,off,rfl,hb,h0,h1,h2⟩:=LArg.nth HA.out m x hx
   obtain⟨b',off',rfl,hb',h0',h1',h2'⟩:=LArg.nth HA'.out m x hx
   clear hx
   go_wp2
   go_quiet (fail)
   go_wp2
   go_roundw
   case rel=>exact⟨m+1,by omega,by go_num,_,rfl⟩
   case measure=>simp[intOf];omega
  ·go_wp2
   go_ret
   exact⟨rfl,_,rfl⟩
set_option maxHeartbeats 3200000 in
set_option maxRecDepth 100000 in
theorem zGY (s:List MStep) (L L':List SV) (B B':Nat) (v u:Value) (w:World) (hv:zAt B w v L) (hu:zAt B' w u L') (h1:L.map (·.1)=s) (h2:L'.map (·.1)=s) :
 Calls Tryz.prog 19 #[v,u] w fun e w'=>e=.returned (.bool true)∧∃n,w'=w.drewN n:=by
 obtain⟨a,c,rfl⟩:=zAC hv.1
 obtain⟨a',c',rfl⟩:=zAC hu.1
 have HA:Hid (zAt B w (.slice a L.length c) L):=hv
 have HA':Hid (zAt B' w (.slice a' L'.length c') L'):=hu
 have hll:L'.length=L.length:=by have:=congrArg List.length (h2.trans h1.symm);simpa using this
 have HS:Hid (∀(i:Nat) (x:SV),L[i]? = some x→∃y,L'[i]? = some y∧y.1=x.1):=fun i x hx=>by
  have h:=congrArg (fun l=>l[i]?) (h2.trans h1.symm)
  simp only[List.getElem?_map,hx,Option.map_some] at h
  obtain⟨y,hy,hyx⟩:=Option.map_eq_some_iff.1 h
  exact⟨y,hy,hyx⟩
 have hm:L.length≤9223372036854775807:=by
  rcases hv.1.2 with ⟨_,h0⟩ | ⟨g,cap,cur,he,_,_,hc1,hc2,_⟩
  ·omega
  ·unfold maxLen at hc2;omega
 rw[hll] at HA' ⊢
 have g0:((L.length:Int) != (L.length:Int))=false:=by simp
 clear hv hu h1 h2
 go_enter Tryz.func19,Tryz.ntmps19
 go_wp2_with fail
 go_loopw [5] (fun i wr=>∃m:Nat,m≤L.length∧i=.int .i64 m∧∃n,wr=w.drewN n) (fun i _=>L.length - (intOf i).toNat)
 case atStart=>exact⟨0,by omega,rfl,0,rfl⟩
 case round =>
  obtain⟨m,hml,rfl,nq,rfl⟩:=hrel
  by_cases hlt:m<L.length
  ·obtain⟨x,hx⟩:∃x,L[m]? = some x:=⟨L[m],by simp[hlt]⟩
   obtain⟨y,hy,hyx⟩:=HS.out m x hx
   obtain⟨b,off,rfl,hb,d0,d1,d2⟩:=zHF HA.out m x hx
   have hA2:=HA'.out
   rw[←hll] at hA2
   obtain⟨b',off',rfl,hb',e0,e1,e2⟩:=zHF hA2 m y hy
   have hix:=(HA.out.2 x (List.mem_of_getElem? hx)).arg
   have hiy:=(hA2.2 y (List.mem_of_getElem? hy)).arg
   rw[hyx] at e0 e1 hiy
   obtain⟨⟨kd,cn,cla⟩,xv⟩:=x
   obtain⟨y1,yv⟩:=y
   dsimp only at d0 d1 d2 e0 e1 e2 hix hiy
   have HIX:Hid (LArg w xv cla):=hix
   have HIY:Hid (LArg w yv cla):=hiy
   obtain⟨a5,c5,rfl,_,_⟩:=hix
   obtain⟨a6,c6,rfl,_,_⟩:=hiy
   have g1:(kd != kd)=false:=by simp
   have g2:(cn != cn)=false:=by simp
   clear hx hy hyx hA2
   have HSC:Hid (∀p q,Calls Tryz.prog 47 #[.slice a5 cla.length c5,.slice a6 cla.length c6] (w.drewN (p+q)) fun e w'=>e=.returned (.bool true)∧∃n,w'=w.drewN (p+n)):=by
    intro p q
    refine (zFp cla _ _ (w.drewN (p+q)) HIX.out HIY.out).mono ?_
    rintro e w' ⟨rfl,n,rfl⟩
    exact⟨rfl,q+n,by rw[zBj,Nat.add_assoc]⟩
   go_wp2
   go_quiet ((go_at_call 47;exact HSC.out _ _))
   go_wp2
   go_roundw
   case rel=>exact⟨m+1,by omega,by go_num,_,rfl⟩
   case measure=>simp[intOf];omega
  ·go_wp2
   go_ret
   exact⟨rfl,_,rfl⟩
def twoC:MCon:=⟨1,[0,1],[1,-1],-1,[],[]⟩
theorem zLW:zCS [0,1]=[0,1]:=by
 unfold zCS
 exact List.mergeSort_of_pairwise (by decide)
theorem zFR:zAQ twoC=[0,1]:=by
 have h1:zA6 twoC=[0,1]:=by rfl
 unfold zAQ
 rw[h1,zLW]
 decide
def twoP:List Nat:=[129,257,258]
theorem zIa:zAj twoM.vars twoC=twoP:=by
 unfold zAj
 rw[zFR]
 decide +kernel
def zLX (vs:List MVar) (ok:Nat→List Int→Bool):Nat→List Int→List (List Int)
 | 0,pre=>[pre]
 | k+1,pre=>(zCB (zAE vs pre.length).lo (zAE vs pre.length).hi).flatMap fun x=>if ok pre.length (pre++[x]) then zLX vs ok k (pre++[x]) else []
theorem zK5 (vs:List MVar) (cons:List MCon) (ok:Nat→List Int→Bool) (h:∀v u,okD cons v u=ok v u):∀(k:Nat) (pre:List Int),zBp vs cons k pre=zLX vs ok k pre
 | 0,pre=>rfl
 | k+1,pre=>by
   unfold zBp zLX
   congr 1
   funext x
   rw[h,zK5 vs cons ok h k]
def zLY (v:Nat) (u:List Int):Bool:=if v=1 then zAN twoC u else true
theorem zLn (v:Nat) (u:List Int):okD twoM.cons v u=zLY v u:=by
 have hl:zA5 twoC=1:=by unfold zA5;rw[zFR];rfl
 have hc:twoM.cons=[twoC]:=rfl
 unfold okD zLY dueP
 rw[hc,List.filter_cons,hl]
 by_cases h:v=1
 ·subst h
  simp
 ·have:((1:Nat)==v)=false:=by simp;omega
  rw[this,if_neg h]
  rfl
theorem zLZ:allL twoM=[[0,1],[0,2],[1,2]]:=by
 unfold allL
 rw[zK5 _ _ zLY zLn]
 kernel_rfl
theorem zKw:zDx twoM=([[0,1],[0,2],[1,2]],true,0):=by
 unfold zDx
 rw[if_pos zE4,zLZ]
 rfl
theorem zJo:ptsM twoM=[twoP]:=by
 show [zAj twoM.vars twoC]=_
 rw[zIa]
theorem zKx:zA4 twoM.vars [twoP] (zBT 9)=(1,[0,1],⟨[],9,[],[⟨0,4,0⟩,⟨1,4,1⟩]⟩):=by kernel_rfl
theorem zJp:zAa twoM 9=(⟨1,[0,1],[]⟩,0):=by
 unfold zAa
 rw[if_pos zE4,if_neg (by decide)]
 unfold zBz
 rw[zJo,zKx]
 rfl
theorem LLr.arg {B:Nat} {w:World} {v:Value} {acc:List (List Int)} (h:LLr B w v acc):RArg w v acc:=by
 obtain⟨cells,h1,h2⟩:=h
 obtain⟨a,c,rfl⟩:=zAC h1
 rcases h1.2 with ⟨he,h0⟩ | ⟨g,cap,cur,he,hg,hh,hc1,hc2,hc3,hc4⟩
 ·injection he with e1 e2 e3
  have:acc=[]:=List.eq_nil_of_length_eq_zero (by omega)
  subst this e1 e3
  exact⟨Option.none,0,rfl,⟨Nat.le_refl _,by unfold maxLen;omega⟩,fun i t h=>by simp at h⟩
 ·cases he
  refine⟨_,_,rfl,⟨hc1,hc2⟩,fun i r hr=>?_⟩
  obtain⟨x,hx,ho⟩:=h2 i r hr
  have hi:i<acc.length:=(List.getElem?_eq_some_iff.1 hr).1
  have hcl:=h1.1
  refine⟨g,0,x,rfl,(h1.lt g rfl).2,?_,zCf ho⟩
  rw[Nat.zero_add,h1.cellAt i (by omega)]
  exact hx
theorem zDh (w:World) (a b:Int) (B:Nat) (hB:B=w.heap.size):IArg (w.alloc (.cells #[.int .i64 a,.int .i64 b] 3)) (.slice (some ⟨B,0,none⟩) 2 2) [a,b]:=by
 subst hB
 refine⟨_,2,rfl,⟨by simp,by unfold maxLen;omega⟩,fun i z hz=>?_⟩
 match i,hz with
 | 0,hz=>cases hz;exact⟨_,0,rfl,by simp,World.cell?_alloc_at _ _ _ 0 (by simp)⟩
 | 1,hz=>cases hz;exact⟨_,0,rfl,by simp,World.cell?_alloc_at _ _ _ 1 (by simp)⟩
def zJq (w:World):World:=(((w.alloc (.cells #[.int .i64 0,.int .i64 1] 3)).alloc (.cells #[.int .i64 0,.int .i64 2] 3)).alloc (.cells #[.int .i64 1,.int .i64 2] 3)).alloc (.cells #[.slice (some ⟨w.heap.size,0,none⟩) 2 2,.slice (some ⟨w.heap.size+1,0,none⟩) 2 2,.slice (some ⟨w.heap.size+1+1,0,none⟩) 2 2] 26)
theorem zHG (w:World):RArg (zJq w) (.slice (some ⟨w.heap.size+1+1+1,0,none⟩) 3 3) [[0,1],[0,2],[1,2]]:=by
 have e:(((w.alloc (.cells #[.int .i64 0,.int .i64 1] 3)).alloc (.cells #[.int .i64 0,.int .i64 2] 3)).alloc (.cells #[.int .i64 1,.int .i64 2] 3)).heap.size=w.heap.size+1+1+1:=by simp
 have hz:=heap_alloc_new (((w.alloc (.cells #[.int .i64 0,.int .i64 1] 3)).alloc (.cells #[.int .i64 0,.int .i64 2] 3)).alloc (.cells #[.int .i64 1,.int .i64 2] 3)) (.cells #[.slice (some ⟨w.heap.size,0,none⟩) 2 2,.slice (some ⟨w.heap.size+1,0,none⟩) 2 2,.slice (some ⟨w.heap.size+1+1,0,none⟩) 2 2] 26)
 rw[e] at hz
 have hl:=(Array.getElem?_eq_some_iff.1 hz).1
 refine⟨_,3,rfl,⟨by simp,by unfold maxLen;omega⟩,fun i r hr=>?_⟩
 match i,hr with
 | 0,hr=>cases hr;exact⟨_,0,_,rfl,hl,blk9 hz 0 _ rfl,IArg.below (zAA _ _) (IArg.below (zAA _ _) (IArg.below (zAA _ _) (zDh w 0 1 _ rfl)))⟩
 | 1,hr=>cases hr;exact⟨_,0,_,rfl,hl,blk9 hz 1 _ rfl,IArg.below (zAA _ _) (IArg.below (zAA _ _) (zDh _ 0 2 _ (by simp)))⟩
 | 2,hr=>cases hr;exact⟨_,0,_,rfl,hl,blk9 hz 2 _ rfl,IArg.below (zAA _ _) (zDh _ 1 2 _ (by simp))⟩
set_option maxHeartbeats 3200000 in
set_option maxRecDepth 100000 in
theorem zDv (w:World) (hT:TabT w) :
 Calls Tryz.prog 11 #[] w fun e w'=>e=.returned (.bool true)∧Below w.heap.size w w':=by
 have HT:Hid (∀w',Below w.heap.size w w'→TabT w'):=fun w' h=>hT.below h
 clear hT
 go_enter Tryz.func11,Tryz.ntmps11
 go_wp2_with fail
 refine (zIk _).mono ?_
 rintro e w1 ⟨vs,cs,rfl,hm,hb1⟩
 have HM:Hid (MArg w1 vs cs twoM):=hm
 have HA1:Hid (Below w.heap.size w w1):=hb1
 clear hm hb1
 go_wp2_with fail
 refine (zDS twoM 9 vs cs _ HM.out (HT.out _ HA1.out)).mono ?_
 rintro e w2 ⟨vv,pp,rfl,hq,hb2⟩
 rw[zJp] at hq ⊢
 dsimp only at hq ⊢
 have HA2:Hid (Below w.heap.size w w2):=HA1.out.trans (hb2.mono HA1.out.size)
 obtain⟨av,cv,rfl⟩:=zAC hq.val
 obtain⟨L,hst,hLe⟩:=hq.prf
 have hL0:L=[]:=by simpa using hLe
 subst hL0
 obtain⟨ap,cp,rfl⟩:=zAC hst.1
 clear hq hb2 HM hst hLe
 go_wp2_with fail
 refine (zIk _).mono ?_
 rintro e w3 ⟨vs,cs,rfl,hm,hb3⟩
 have HM:Hid (MArg w3 vs cs twoM):=hm
 have hA2:w3.heap[w2.heap.size]? = some (.cells #[.int .i64 1,.slice av 2 cv,.slice ap 0 cp] 29):=(hb3.block _ (by simp)).trans (heap_alloc_new _ _)
 have HA3:Hid (Below w.heap.size w w3):=(HA2.out.alloc HA2.out.size _).trans (hb3.mono (by have:=HA2.out.size;simp;omega))
 clear hm hb3
 go_wp2_with fail
 refine (zGW twoM vs cs _ HM.out).mono ?_
 rintro e w4 ⟨hb4,x,rfl,hx⟩
 rw[zKw] at hx ⊢
 dsimp only at hx ⊢
 have HX:Hid (RArg w4 x [[0,1],[0,2],[1,2]]):=hx.arg
 obtain⟨ax,cx,rfl⟩:=hx.form
 have hA4:=(hb4.block _ (Array.getElem?_eq_some_iff.1 hA2).1).trans hA2
 have k0:=blk9 hA4 0 _ rfl
 have k1:=blk9 hA4 1 _ rfl
 have kl:=(Array.getElem?_eq_some_iff.1 hA4).1
 have HA4:Hid (Below w.heap.size w w4):=HA3.out.trans (hb4.mono HA3.out.size)
 clear hx hb4 hA2 hA4 HM
 have HB5:Hid (Below w4.heap.size w4 (zJq w4)):=(((zAA _ _).alloc (by simp) _).alloc (by simp;omega) _).alloc (by simp;omega) _
 have HY:=hid0 (zHG w4)
 unfold zJq at HB5 HY
 go_wp2_with fail
 refine (zGX [[0,1],[0,2],[1,2]] _ _ _ (RArg.below HB5.out HX.out) HY.out).mono ?_
 rintro e w6 ⟨rfl,n6,rfl⟩
 have HB6:Hid (Below w.heap.size w _):=HA4.out.trans (HB5.out.mono HA4.out.size)
 go_wp2
 go_ret
 exact⟨rfl,below_drewN HB6.out _⟩
def zEo (s:Sk) (d:Nat):Sk:=⟨s.cs,s.fuel+d,s.proof,s.path⟩
theorem zGZ (vs:List MVar) (pt:List (List Nat)) (s:Sk) (d:Nat) (h:(zAk vs pt s).1≠3):zAk vs pt (zEo s d)=((zAk vs pt s).1,zEo (zAk vs pt s).2 d):=by
 unfold zAk at h ⊢
 by_cases h0:s.fuel=0
 ·rw[if_pos h0] at h;exact absurd rfl h
 ·have e0:¬(zEo s d).fuel=0:=by show ¬s.fuel+d=0;omega
  have e1:(zEo s d).fuel - 1=s.fuel - 1+d:=by show s.fuel+d - 1=_;omega
  rw[if_neg h0] at h ⊢
  rw[if_neg e0,e1]
  show (if 6000<(zAh vs (zDI vs s.cs pt (zBF vs s.cs pt s.path)) s.proof).length then _ else _)=_
  split
  ·rename_i h1;rw[if_pos h1] at h;exact absurd rfl h
  ·show (if (zBF vs s.cs pt s.path).length=0 then _ else _)=_
   split
   ·rfl
   ·rfl
theorem zEp (vs:List MVar) (hv:zAW vs) (pt:List (List Nat)) (d:Nat):∀(N:Nat) (s:Sk),zBZ vs s<N→(zA4 vs pt s).1≠3 →
 zA4 vs pt (zEo s d)=((zA4 vs pt s).1,(zA4 vs pt s).2.1,zEo (zA4 vs pt s).2.2 d)
 | 0,s,h,_=>by omega
 | N+1,s,h,h3=>by
   rw[zDM vs hv pt s] at h3 ⊢
   rw[zDM vs hv pt (zEo s d)]
   have el:zAT vs pt (zEo s d)=zAT vs pt s:=rfl
   rw[el]
   by_cases hz:zAT vs pt s=0
   ·rw[if_pos hz] at h3 ⊢
    rw[if_pos hz]
    by_cases h0:(zAk vs pt s).1=0
    ·rw[if_pos h0] at h3 ⊢
     have ht:=zGZ vs pt s d (by rw[h0];decide)
     rw[ht]
     simp only
     rw[if_pos h0]
     exact zEp vs hv pt d N _ (by have:=zCZ vs pt s h0;omega) h3
    ·rw[if_neg h0] at h3 ⊢
     have ht:=zGZ vs pt s d h3
     rw[ht]
     simp only
     rw[if_neg h0]
   ·rw[if_neg hz] at h3 ⊢
    rw[if_neg hz]
    by_cases hf:zAp (zAP vs (zAT vs pt s))<0
    ·rw[if_pos hf] at h3 ⊢
     rw[if_pos hf]
    ·rw[if_neg hf] at h3 ⊢
     rw[if_neg hf]
     exact zEp vs hv pt d N (zCY (zAP vs (zAT vs pt s)) s) (by have:=zDK vs hv pt s hf;omega) h3
theorem zIb (m:Mod) (fuel more:Int) (h1:(zAa m fuel).2=0) (h2:(zAa m more).2=0) (hle:fuel≤more) (h3:(zAa m fuel).1.verdict≠3):(zAa m more).1=(zAa m fuel).1:=by
 unfold zAa at h1 h2 h3 ⊢
 by_cases hm:zAI m=0
 ·rw[if_pos hm] at h1 h2 h3 ⊢
  rw[if_pos hm]
  by_cases hf:fuel<0∨300<fuel
  ·rw[if_pos hf] at h1;cases h1
  ·rw[if_neg hf] at h1 h3 ⊢
   by_cases hg:more<0∨300<more
   ·rw[if_pos hg] at h2;cases h2
   ·rw[if_neg hg] at h2 ⊢
    have hs:zBT more=zEo (zBT fuel) (more.toNat - fuel.toNat):=by
     unfold zBT zEo
     simp only
     congr 1
     omega
    have h4:(zBz m fuel).1≠3:=by
     intro h
     rw[if_neg (by rw[h];decide)] at h3
     exact h3 h
    have hn:=zEp m.vars (zBw m hm) (ptsM m) (more.toNat - fuel.toNat) _ (zBT fuel) (Nat.lt_succ_self _) h4
    rw[←hs] at hn
    have e:zBz m more=((zBz m fuel).1,(zBz m fuel).2.1,zEo (zBz m fuel).2.2 (more.toNat - fuel.toNat)):=hn
    rw[e]
    simp only
    by_cases h5:(zBz m fuel).1=2
    ·rw[if_pos h5,if_pos h5];rfl
    ·rw[if_neg h5,if_neg h5]
 ·rw[if_neg hm] at h1
  exact absurd h1 hm
end Go.Proofs.YtdjbejlbmaiocafGreatDoor
