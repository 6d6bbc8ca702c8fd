/- What the proof leans on, part 39. -/
import Derived.Test.YtndcpnlaadikoaaGreatDoorPartBl
import Derived.Test.YtndcpnlaadikoaaGreatDoorPartBk
set_option maxRecDepth 100000
set_option maxHeartbeats 4000000
namespace Go.Proofs.YtndcpnlaadikoaaGreatDoor
open Go.RowKit
def zAq (vars:List MVar) (i:Int):ByteArray:=(vars.getD i.toNat ⟨ByteArray.empty,0,0⟩).name
theorem zF3 (b:Nat) (vsl:Value) (vars:List MVar) (i:Int) (w:World) (hc:w.cell? ⟨b,2,none⟩=some vsl) (hv:VArg w vsl vars) (hi:0≤i∧i<vars.length) :
 Calls Tryz.prog 191 #[.pointer (some ⟨b,0,none⟩),.int .i64 i] w fun e w'=>e=.returned (.string (zAq vars i))∧w'=w:=by
 obtain⟨a,c,rfl,hm,hr⟩:=hv;obtain⟨k,rfl⟩:∃k:Nat,i=(k:Int):=⟨i.toNat,by omega⟩
 have hk:k<vars.length:=by omega
 obtain⟨_,bb,off,rfl,_,h0,_,_⟩:=hr k vars[k] (by simp[hk])
 have HN:Hid (zAq vars (k:Int)=vars[k].name):=by show _=_;unfold zAq;simp[hk]
 rw[HN.out];unfold maxLen at hm;obtain⟨hm1,hm⟩:=hm;clear hr;go_enter Tryz.func191,Tryz.ntmps191
 go_wp2
 go_ret
 exact⟨rfl,rfl⟩
theorem zIS (args:Array Value) (w':World):Sem.run Tryz.prog (callFunc 188 args) w'=.ok (.enter 188 args) w':=by
 simp[callFunc,go_sem,Tryz.func188,Tryz.f188]
theorem zK4 (args:Array Value) (w':World):Sem.run Tryz.prog (callFunc 191 args) w'=.ok (.enter 191 args) w':=by
 simp[callFunc,go_sem,Tryz.func191,Tryz.f191]
theorem zH6 (args:Array Value) (w':World):Sem.run Tryz.prog (callFunc 247 args) w'=.ok (.enter 247 args) w':=by
 simp[callFunc,go_sem,Tryz.func247,Tryz.f247]
theorem zMH (args:Array Value) (w':World):Sem.run Tryz.prog (callFunc 250 args) w'=.ok (.enter 250 args) w':=by
 simp[callFunc,go_sem,Tryz.func250,Tryz.f250]
def zEO (l:List Int):ByteArray:=zBQ (l.map numB)
theorem zGr (N:Nat) (l:List Int) (v:Value) (w:World) (ht:TabN N w) (hv:IArg w v l) (hl:l.length≤1000) (hlen:(zBW (l.map numB) [44,32]).length≤1000000) (hok:∀x∈l,okI x) :
 Calls Tryz.prog 247 #[v] w fun e w'=>e=.returned (.string (zEO l))∧Below w.heap.size w w':=by
 have HC:=zMF 188 numB l v w hv hl hlen zIS (fun x hx w' hb=>zDQ N x (hok x hx) w' (ht.below hb))
 obtain⟨av,cv,rfl,_,_⟩:=hv;have HCC:Hid (Calls Tryz.prog 246 #[.slice av l.length cv,.func (.func 188) #[] #[]] w fun e w'=>e=.returned (.string (zBQ (l.map numB)))∧Below w.heap.size w w'):=HC
 clear HC hl hlen hok;go_enter Tryz.func247,Tryz.ntmps247
 go_wp2_with fail
 refine HCC.out.mono ?_;rintro e w1 ⟨rfl,hb⟩;go_wp2
 go_ret
 exact⟨rfl,hb⟩
def opWB (op:Int):ByteArray:=opWL.getD op.toNat ByteArray.empty
def zFS (vars:List MVar) (t:MLit):ByteArray:=zAq vars t.var++⟨#[32]⟩++opWB t.op++⟨#[32]⟩++numB t.n
theorem zF4 {P:Program} {md:Region.Mode} {ops:Array Oper} {Q:Exit→Act→World→Prop} {S S':World→Prop} (hS:∀w,S' w→S w):∀(fuel:Nat) (listed:Array Bool) (a:Act) (w:World),wpAnyH P md ops Q S' fuel listed a w→wpAnyH P md ops Q S fuel listed a w
 | 0,_,_,_,h=>h
 | f+1,_,_,_,h=>⟨h.1,fun i hi=>wpOp_mono (fun _ _ hh=>⟨hS _ hh.1,zF4 hS f _ _ _ hh.2⟩) (h.2 i hi)⟩
theorem zRo (N b:Nat) (vsl:Value) (vars:List MVar) (t:MLit) (w:World) (ht:TabN N w) (hc:w.cell? ⟨b,2,none⟩=some vsl) (hv:VArg w vsl vars) (hi:0≤t.var∧t.var<vars.length) (ho:1≤t.op∧t.op≤4) (hn:okI t.n)
 (hs:(zAq vars t.var).size≤1000) (hs2:(numB t.n).size≤1000) :
 Calls Tryz.prog 250 #[.pointer (some ⟨b,0,none⟩),litA t] w fun e w'=>e=.returned (.string (zFS vars t))∧Below w.heap.size w w':=by
 have HT:Hid (TabN N w):=ht;have HVA:Hid (VArg w vsl vars):=hv;have HCV:Hid (w.cell? ⟨b,2,none⟩=some vsl):=hc;have hbw:b<w.heap.size:=World.block_lt_of_cell? w ⟨b,2,none⟩ hc;have HIX:Hid (0≤t.var∧t.var<vars.length):=hi;have HOK:Hid (okI t.n):=hn;obtain⟨k,hk⟩:∃k:Nat,t.op=(k:Int):=⟨t.op.toNat,by omega⟩
 obtain⟨nm,hnm⟩:∃nm,zAq vars t.var=nm:=⟨_,rfl⟩;obtain⟨nb,hnb⟩:∃nb,numB t.n=nb:=⟨_,rfl⟩;have hk1:1≤k∧k≤4:=by omega
 obtain⟨z,hz⟩:∃z,opWL[k]? = some z:=by
  have:k<opWL.length:=by show k<5;omega
  exact⟨opWL[k],by simp[this]⟩
 have hzs:z.size≤2:=by
  have:k=1∨k=2∨k=3∨k=4:=by omega
  rcases this with rfl | rfl | rfl | rfl <;> (cases hz;decide)
 have HZ:Hid (opWL[k]? = some z):=hz;have HRS:Hid (zFS vars t=nm++⟨#[32]⟩++z++⟨#[32]⟩++nb):=by
  show _=_;unfold zFS opWB;rw[hnm,hnb,hk];simp[hz]
 have HNM:Hid (zAq vars t.var=nm):=hnm;have HNB:Hid (numB t.n=nb):=hnb;rw[HRS.out];rw[hnm] at hs;rw[hnb] at hs2;unfold litA;rw[hk];have HK:Hid (t.op=(k:Int)):=hk;clear hz hnm hnb hk ht hv hc hi ho hn;go_enter Tryz.func250,Tryz.ntmps250
 go_wp2_with fail
 obtain⟨W,hW⟩:∃W,W=w.alloc (.cells #[.int .i64 t.var,.int .i64 (k:Int),.int .i64 t.n] 76):=⟨_,rfl⟩;have HBW:Hid (Below w.heap.size w W):=by show Below _ _ _;rw[hW];exact zAA _ _
 have HQ:W.heap[w.heap.size]? = some (.cells #[.int .i64 t.var,.int .i64 (k:Int),.int .i64 t.n] 76):=by rw[hW];exact heap_alloc_new _ _
 have hlt:w.heap.size<W.heap.size:=(Array.getElem?_eq_some_iff.1 HQ).1;rw[←hW];clear hW;have HS:Hid (∀Y,Below W.heap.size W Y→Below W.heap.size W Y∧Y.cell? ⟨w.heap.size,0,none⟩=some (.int .i64 t.var)∧Y.cell? ⟨w.heap.size,1,none⟩=some (.int .i64 (k:Int))∧Y.cell? ⟨w.heap.size,2,none⟩=some (.int .i64 t.n)):=fun Y hY =>
  ⟨hY,(hY.cell (p:=⟨w.heap.size,0,none⟩) hlt).trans (blk9 HQ 0 _ rfl),(hY.cell (p:=⟨w.heap.size,1,none⟩) hlt).trans (blk9 HQ 1 _ rfl),(hY.cell (p:=⟨w.heap.size,2,none⟩) hlt).trans (blk9 HQ 2 _ rfl)⟩
 clear HQ;have hHeld:=HS.out W.drew (Below.refl _ _).drew;refine wp_region_held_drew (S:=fun Y=>Below W.heap.size W Y∧Y.cell? ⟨w.heap.size,0,none⟩=some (.int .i64 t.var)∧Y.cell? ⟨w.heap.size,1,none⟩=some (.int .i64 (k:Int))∧Y.cell? ⟨w.heap.size,2,none⟩=some (.int .i64 t.n)) (by kernel_rfl) hHeld (fun _=>?_)
 refine wpAnyH_take (i:=0) (v:=?v0x1) rfl (by kernel_rfl) (by kernel_rfl) (by kernel_rfl) (fun _ _ _ h=>h) (Or.inl ⟨by rfl,?y0x1⟩) hHeld ?r0x1
 case y0x1=>intro wq hSw;obtain⟨q0,q1,q2,q3⟩:=hSw;go_simp;with_reducible rfl
 refine wpAnyH_take (i:=1) (v:=?v1x2) rfl (by kernel_rfl) (by kernel_rfl) (by kernel_rfl) (fun _ _ _ h=>h) (Or.inl ⟨by rfl,?y1x2⟩) hHeld ?r1x2
 case y1x2=>intro wq hSw;obtain⟨q0,q1,q2,q3⟩:=hSw;go_simp;with_reducible rfl
 refine wpAnyH_take (i:=2) (v:=?v2x3) rfl (by kernel_rfl) (by kernel_rfl) (by kernel_rfl) (fun _ _ _ h=>h) (Or.inl ⟨by rfl,?y2x3⟩) hHeld ?r2x3
 case y2x3=>intro wq hSw;obtain⟨q0,q1,q2,q3⟩:=hSw;go_simp;with_reducible rfl
 refine wpAnyH_take (i:=6) (v:=?v6x4) rfl (by kernel_rfl) (by kernel_rfl) (by kernel_rfl) (fun _ _ _ h=>h) (Or.inl ⟨by rfl,?y6x4⟩) hHeld ?r6x4
 case y6x4=>intro wq hSw;obtain⟨q0,q1,q2,q3⟩:=hSw;go_simp;with_reducible rfl
 refine wpAnyH_take (i:=7) (v:=?v7x5) rfl (by kernel_rfl) (by kernel_rfl) (by kernel_rfl) (fun _ _ _ h=>h) (Or.inl ⟨by rfl,?y7x5⟩) hHeld ?r7x5
 case y7x5=>intro wq hSw;obtain⟨q0,q1,q2,q3⟩:=hSw;go_simp;with_reducible rfl
 refine wpAnyH_take (i:=12) (v:=?v12x6) rfl (by kernel_rfl) (by kernel_rfl) (by kernel_rfl) (fun _ _ _ h=>h) (Or.inl ⟨by rfl,?y12x6⟩) hHeld ?r12x6
 case y12x6=>intro wq hSw;obtain⟨q0,q1,q2,q3⟩:=hSw;go_simp;with_reducible rfl
 refine wpAnyH_take (i:=13) (v:=?v13x7) rfl (by kernel_rfl) (by kernel_rfl) (by kernel_rfl) (fun _ _ _ h=>h) (Or.inl ⟨by rfl,?y13x7⟩) hHeld ?r13x7
 case y13x7=>intro wq hSw;obtain⟨q0,q1,q2,q3⟩:=hSw;go_simp;with_reducible rfl
 have g1:¬(9223372036854775807<nm.size+1):=by omega
 have g2:¬(9223372036854775807<nm.size+1+z.size):=by omega
 have g3:¬(9223372036854775807<nm.size+1+z.size+1):=by omega
 have g4:¬(9223372036854775807<nm.size+1+z.size+1+nb.size):=by omega
 have hk5:((k:Int)<(opWL.length:Int)):=by show (k:Int)<5;omega
 have hk0:((0:Int)≤(k:Int)):=by omega
 refine wpAnyH_ready (rs:=[3]) (by kernel_rfl) (by simp) ?_
 refine AllReadyH.cons rfl (fun K hK=>?_) AllReadyH.nil
 go_simp
 refine (zF3 b vsl vars t.var W.drew ((HBW.out.cell (p:=⟨b,2,none⟩) hbw).trans HCV.out) (VArg.below (HBW.out.trans ((Below.refl _ _).drew)) HVA.out) HIX.out).mono ?_;rw[HNM.out];rintro e w1 ⟨rfl,rfl⟩
 dsimp only
 refine hK.out _ _ hHeld (fun _=>?_)
 clear hK;refine wpAnyH_take (i:=4) (v:=?v4x101) rfl (by kernel_rfl) (by kernel_rfl) (by kernel_rfl) (fun _ _ _ h=>h) (Or.inl ⟨by rfl,?y4x101⟩) hHeld ?r4x101
 case y4x101=>intro wq hSw;obtain⟨q0,q1,q2,q3⟩:=hSw;go_simp;with_reducible rfl
 refine wpAnyH_ready (rs:=[5]) (by kernel_rfl) (by simp) ?_
 refine AllReadyH.cons rfl (fun K hK=>?_) AllReadyH.nil
 go_simp
 refine (zKE W.drew).mono ?_;rintro e w2 ⟨sv,rfl,⟨as_,cs_,rfl,hm_,hsv⟩,hb2⟩;obtain⟨bk,off,rfl,hbk,hcell⟩:=hsv k z HZ.out;have hB2:Below W.heap.size W w2:=(Below.refl _ _).drew.trans hb2
 dsimp only
 have hHeld2:=HS.out w2 hB2;refine hK.out _ _ hHeld2 (fun _=>?_)
 clear hK hsv;refine zF4 (S':=fun Y=>(Below W.heap.size W Y∧Y.cell? ⟨w.heap.size,0,none⟩=some (.int .i64 t.var)∧Y.cell? ⟨w.heap.size,1,none⟩=some (.int .i64 (k:Int))∧Y.cell? ⟨w.heap.size,2,none⟩=some (.int .i64 t.n))∧Y.cell? ⟨bk,off+k,none⟩=some (.string z)) (fun _ h=>h.1) _ _ _ _ ?_
 have hHeld3:=And.intro hHeld2 hcell;refine wpAnyH_take (i:=8) (v:=?v8x102) rfl (by kernel_rfl) (by kernel_rfl) (by kernel_rfl) (fun _ _ _ h=>h) (Or.inl ⟨by rfl,?y8x102⟩) hHeld3 ?r8x102
 case y8x102=>intro wq hSw;obtain⟨⟨q0,q1,q2,q3⟩,q4⟩:=hSw;go_simp;with_reducible rfl
 refine wpAnyH_take (i:=9) (v:=?v9x103) rfl (by kernel_rfl) (by kernel_rfl) (by kernel_rfl) (fun _ _ _ h=>h) (Or.inl ⟨by rfl,?y9x103⟩) hHeld3 ?r9x103
 case y9x103=>intro wq hSw;obtain⟨⟨q0,q1,q2,q3⟩,q4⟩:=hSw;go_simp;with_reducible rfl
 refine wpAnyH_take (i:=10) (v:=?v10x104) rfl (by kernel_rfl) (by kernel_rfl) (by kernel_rfl) (fun _ _ _ h=>h) (Or.inl ⟨by rfl,?y10x104⟩) hHeld3 ?r10x104
 case y10x104=>intro wq hSw;obtain⟨⟨q0,q1,q2,q3⟩,q4⟩:=hSw;go_simp;with_reducible rfl
 refine wpAnyH_take (i:=11) (v:=?v11x105) rfl (by kernel_rfl) (by kernel_rfl) (by kernel_rfl) (fun _ _ _ h=>h) (Or.inl ⟨by rfl,?y11x105⟩) hHeld3 ?r11x105
 case y11x105=>intro wq hSw;obtain⟨⟨q0,q1,q2,q3⟩,q4⟩:=hSw;go_simp;with_reducible rfl
 refine wpAnyH_ready (rs:=[14]) (by kernel_rfl) (by simp) ?_
 refine AllReadyH.cons rfl (fun K hK=>?_) AllReadyH.nil
 go_simp
 refine (zDQ N t.n HOK.out w2 ((HT.out.below HBW.out).below hB2)).mono ?_;rw[HNB.out];rintro e w3 ⟨rfl,hb3⟩
 dsimp only
 have hHeld4:=And.intro (HS.out w3 (hB2.trans (hb3.mono hB2.size))) ((hb3.cell (p:=⟨bk,off+k,none⟩) hbk).trans hcell);refine hK.out _ _ hHeld4 (fun _=>?_)
 clear hK;refine wpAnyH_take (i:=15) (v:=?v15x106) rfl (by kernel_rfl) (by kernel_rfl) (by kernel_rfl) (fun _ _ _ h=>h) (Or.inl ⟨by rfl,?y15x106⟩) hHeld4 ?r15x106
 case y15x106=>intro wq hSw;obtain⟨⟨q0,q1,q2,q3⟩,q4⟩:=hSw;go_simp;with_reducible rfl
 refine wpAnyH_ready (rs:=[16]) (by kernel_rfl) (by simp) ?_
 refine AllReadyH.cons rfl (fun K hK=>?_) AllReadyH.nil
 go_simp
 refine hK.out _ _ hHeld4 (fun _=>?_)
 clear hK;refine wpAnyH_done (by kernel_rfl) ?_ _
 have HE:Hid (Below w.heap.size w w3):=HBW.out.trans ((hB2.trans (hb3.mono hB2.size)).mono HBW.out.size);clear hHeld hHeld2 hHeld3 hHeld4 hb2 hB2 hb3 hcell hm_;go_wp2
 go_ret
 exact⟨rfl,HE.out⟩
open Go
structure KT where
 kind:Int
 text:ByteArray
def ktOf (t:Tok):KT:=⟨t.kind,t.text⟩
def NW (l:List UInt8):Prop:=l=[]∨∃c r,l=c :: r∧isW c=false
inductive Spells:List UInt8→List KT→Prop
 | nil:Spells [] []
 | blank {c:UInt8} {l:List UInt8} {ts:List KT} (hc:isB c=true) (h:Spells l ts):Spells (c :: l) ts
 | tok {l:List UInt8} {ts:List KT} (t:KT) (ht:zJQ t.kind t.text=true) (hn:t.kind=3∨NW l) (h:Spells l ts):Spells (t.text.data.toList++l) (t :: ts)
def Pc0 (b:List UInt8) (ks:List KT):Prop:=∀l ts,Spells l ts→Spells (b++l) (ks++ts)
def Pc1 (b:List UInt8) (ks:List KT):Prop:=∀l ts,Spells l ts→NW l→Spells (b++l) (ks++ts)
theorem Pc0.one {b:List UInt8} {ks:List KT} (h:Pc0 b ks):Pc1 b ks:=fun l ts hl _=>h l ts hl
theorem zCi (ys:List ByteArray):(zBQ ys).data.toList=91 :: (zBW ys [44,32]++[93]):=by
 unfold zBQ;rw[ByteArray.data_append,ByteArray.data_append];simp
theorem zMI (s:ByteArray):s.toList=s.data.toList:=ByteArray.toList_eq s
theorem zQB (k:Nat):∀u,u<10 ^ (k+1)→(Lib.decDigits u).length≤k+1:=by
 induction k with
 | zero=>intro u hu;rw[Lib.decDigits,dif_pos (by simpa using hu)];simp
 | succ k ih =>
   intro u hu;rw[Lib.decDigits]
   split
   ·simp
   ·rw[List.length_append,List.length_singleton]
    have:=ih (u / 10) (by rw[Nat.pow_succ] at hu;omega)
    omega
def zRp {α:Type} (item:List Tok→PR α) (ks:List KT) (x:α):Prop:=∀us r,us.map ktOf=ks→item (us++r)=.ok x r
theorem zOO {us:List Tok} {a b:List KT} (h:us.map ktOf=a++b):∃x y,us=x++y∧x.map ktOf=a∧y.map ktOf=b:=by
 refine⟨us.take a.length,us.drop a.length,(List.take_append_drop _ _).symm,?_,?_⟩
 ·rw[List.map_take,h,List.take_left]
 ·rw[List.map_drop,h,List.drop_left]
theorem zRp.bind {α β:Type} {item:List Tok→PR α} {f:α→List Tok→PR β} {ka kb:List KT} {x:α} {y:β} (h:zRp item ka x) (h2:zRp (f x) kb y):zRp (fun l=>(item l).bind f) (ka++kb) y:=by
 intro us r hu;obtain⟨a,b,rfl,h3,h4⟩:=zOO hu;show (item ((a++b)++r)).bind f=_;rw[List.append_assoc,h a (b++r) h3];exact h2 b r h4
def zMJ (vars:List MVar):Prop:=(∀v∈vars,zBk v.name=true)∧∀(i j:Nat) (u v:MVar),i<j→vars[i]? = some u→vars[j]? = some v→u.name.data.toList≠v.name.data.toList
theorem zNK (m:Mod) (h:zAG m=0):zMJ m.vars:=by
 have h1:=(zAe m h).2.2.2.1;have hv:∀(i:Nat) (v:MVar),m.vars[i]? = some v→varE (m.vars.take i) v=0:=fun i v hv=>zDn _ h1 (varE (m.vars.take i) v) (by
  have hi:i<m.vars.length:=(List.getElem?_eq_some_iff.1 hv).1;refine List.mem_map.2 ⟨i,List.mem_range.2 hi,?_⟩;rw[List.getD_eq_getElem?_getD,hv];rfl)
 refine⟨fun v hm=>?_,fun i j u v hij hu hv2=>?_⟩
 ·obtain⟨i,hi⟩:=List.mem_iff_getElem?.1 hm
  have:=hv i v hi;unfold varE at this
  split at this
  ·assumption
  ·cases this
 ·have:=hv j v hv2
  unfold varE at this
  split at this
  ·split at this
   ·cases this
   ·rename_i h2
    intro he;apply h2;rw[List.any_eq_true];refine⟨u,List.mem_of_getElem? (i:=i) (by rw[List.getElem?_take,if_pos hij];exact hu),?_⟩
    rw[zMI,zMI,he];simp
  ·cases this
def zJx (k:Int):ByteArray:=zGx.getD k.toNat ByteArray.empty
def zF5 (k:Int):ByteArray:=zDX.getD k.toNat ByteArray.empty
def zSs (vars:List MVar) (t:MLit):Prop:=(0≤t.var∧t.var<vars.length)∧(1≤t.op∧t.op≤4)∧(-1000≤t.n∧t.n≤1000)
theorem zQC (vars:List MVar) (t:MLit):(zFS vars t).data.toList=(zAq vars t.var).data.toList++(32 :: ((opWB t.op).data.toList++(32 :: (numB t.n).data.toList))):=by
 unfold zFS;rw[ByteArray.data_append,ByteArray.data_append,ByteArray.data_append,ByteArray.data_append];simp
def zAz (vars:List MVar) (c:MCon):List ByteArray :=
 if c.kind=1∨c.kind=2∨c.kind=3 then [zEO c.consts,zBQ (c.vars.map (zAq vars)),numB c.n]
 else if c.kind=4 then [zBQ (c.vars.map (zAq vars))]
 else if c.kind=5 then [zEO c.consts,zAq vars (c.vars.getD 0 0),zAq vars (c.vars.getD 1 0)]
 else if c.kind=6 then [zBQ (c.vars.map (zAq vars)),zBQ (c.rows.map zEO)]
 else if c.kind=7 then [zAq vars (c.vars.getD 0 0),zAq vars (c.vars.getD 1 0),zAq vars (c.vars.getD 2 0)]
 else if c.kind=8 then [zAq vars (c.vars.getD 0 0),zBQ ((c.vars.drop 1).map (zAq vars))]
 else if c.kind=9 then [zBQ (c.lits.map (zFS vars))]
 else if c.kind=10 then [zAq vars (c.vars.getD 0 0),zFS vars (c.lits.getD 0 ⟨0,0,0⟩)]
 else []
structure ConOk (n:Nat) (c:MCon):Prop where
 kind:1≤c.kind∧c.kind≤10
 many:zFa c=false
 form:zCJ c=true
 vars:∀v∈c.vars,0≤v∧v<n
 consts:∀x∈c.consts,-1000≤x∧x≤1000
 num:-1000≤c.n∧c.n≤1000
 rows:∀r∈c.rows,∀x∈r,-1000≤x∧x≤1000
 lits:∀l∈c.lits,(0≤l.var∧l.var<n)∧(1≤l.op∧l.op≤4)∧(-1000≤l.n∧l.n≤1000)
theorem zH7 (x:Int):zAT x=true↔-1000≤x∧x≤1000:=by simp[zAT,inB]
theorem zK5 (v n:Int):zBd v n=true↔0≤v∧v<n:=by simp[zBd]
theorem zSt (n:Nat) (c:MCon) (h:conE n c=0):ConOk n c:=by
 unfold conE at h
 split at h
 ·rename_i hk
  split at h
  ·cases h
  ·rename_i hm
   split at h
   ·rename_i hf
    split at h
    ·rename_i hv
     split at h
     ·rename_i hc
      unfold zHF at hv;unfold zDE at hc;unfold zNW at h;simp only[Bool.and_eq_true,List.all_eq_true,zK5,zH7] at hv hc
      split at h
      ·rename_i ho
       split at h
       ·rename_i hn
        simp only[List.all_eq_true,Bool.and_eq_true,decide_eq_true_eq,zH7] at ho hn;exact⟨hk,by simpa using hm,hf,hv.1,hc.1,hc.2.1,hc.2.2,fun l hl=>⟨hv.2 l hl,ho l hl,hn l hl⟩⟩
       ·cases h
      ·cases h
     ·cases h
    ·cases h
   ·cases h
 ·cases h
theorem zEz (c:MCon) (h:zCJ c=true):(c.kind=5→c.vars.length=2)∧(c.kind=7→c.vars.length=3)∧(c.kind=8→2≤c.vars.length)∧(c.kind=10→c.vars.length=1∧c.lits.length=1):=by
 unfold zCJ at h;refine⟨fun e=>?_,fun e=>?_,fun e=>?_,fun e=>?_⟩ <;> (rw[e] at h;simp at h)
 ·exact h.2.1
 ·exact h.2.1
 ·exact h.2.1
 ·exact⟨h.2.1,h.2.2.1⟩
def zSu (v:MVar):Prop:=zBk v.name=true∧-50≤v.lo∧v.lo≤50∧-50≤v.hi∧v.hi≤50
def zAs (v:MVar):List UInt8:=zE4 [varW,v.name++colW,numB v.lo++zEJ++numB v.hi]
def zA6 (vars:List MVar) (c:MCon):List UInt8:=zE4 ([conW,zJx c.kind]++zAz vars c)
def zB2 (m:Mod):List UInt8:=if m.goal=0 then zE4 [zBy,zF5 m.goal] else zE4 [zBy,zF5 m.goal,zAq m.vars m.var]
def zGs (m:Mod):Prop:=(m.goal=0∧m.var=0)∨((m.goal=1∨m.goal=2)∧0≤m.var∧m.var<m.vars.length)
def modB (m:Mod):List UInt8:=m.vars.flatMap zAs++(m.cons.flatMap (zA6 m.vars)++zB2 m)
structure ModOk (m:Mod):Prop where
 vars:∀v∈m.vars,zSu v
 names:zMJ m.vars
 cons:∀c∈m.cons,ConOk m.vars.length c
 goal:zGs m
theorem zTL (m:Mod) (h:zAG m=0):ModOk m:=by
 refine⟨fun v hv=>?_,zNK m h,fun c hc=>?_,?_⟩
 ·obtain⟨i,hi⟩:=List.mem_iff_getElem?.1 hv
  have h1:=zHG m h i v hi;have h2:=(zNK m h).1 v hv;exact⟨h2,by omega⟩
 ·obtain⟨i,hi⟩:=List.mem_iff_getElem?.1 hc
  exact zSt _ _ (zGa m h i c hi)
 ·have h1:=(zAe m h).2.2.2.2.2
  unfold zJT at h1;unfold zGs
  split at h1
  ·split at h1
   ·exact Or.inl ⟨by assumption,by assumption⟩
   ·cases h1
  ·split at h1
   ·split at h1
    ·rename_i h2 h3
     rw[zK5] at h3;exact Or.inr ⟨h2,h3⟩
    ·cases h1
   ·cases h1
theorem zRq (xs:List ByteArray) (sep:List UInt8) (s:Nat) (h:∀x∈xs,x.size≤s):(Lib.joinTail sep (xs.map (·.data.toList))).length≤xs.length * (s+sep.length):=by
 induction xs with
 | nil=>simp[Lib.joinTail]
 | cons x r ih =>
   have h1:=ih fun y hy=>h y (List.mem_cons_of_mem _ hy)
   have h2:=h x (List.mem_cons_self ..);have e:Lib.joinTail sep ((x :: r).map (·.data.toList))=sep++x.data.toList++Lib.joinTail sep (r.map (·.data.toList)):=by simp[Lib.joinTail]
   rw[e,List.length_append,List.length_append,zA0,List.length_cons,Nat.succ_mul];omega
theorem zF6 (xs:List ByteArray) (sep:List UInt8) (s:Nat) (h:∀x∈xs,x.size≤s):(zBW xs sep).length≤xs.length * (s+sep.length):=by
 unfold zBW;cases xs with
 | nil=>simp[Lib.join_nil]
 | cons x r =>
   have h1:=zRq r sep s fun y hy=>h y (List.mem_cons_of_mem _ hy)
   have h2:=h x (List.mem_cons_self ..);rw[List.map_cons,Lib.join_cons,List.length_append,zA0,List.length_cons,Nat.succ_mul];omega
theorem zE0 (xs:List ByteArray) (s k:Nat) (h:∀x∈xs,x.size≤s) (hk:xs.length≤k):(zBQ xs).size≤k * (s+2)+2:=by
 rw[←zA0,zCi];have h1:(zBW xs [44,32]).length≤xs.length * (s+2):=zF6 xs [44,32] s h;have h2:xs.length * (s+2)≤k * (s+2):=Nat.mul_le_mul_right _ hk;simp only[List.length_cons,List.length_append,List.length_nil];omega
theorem zE1 (n:Int) (h:-9999≤n∧n≤9999):(numB n).size≤5:=by
 have e:(numB n).data.toList=Lib.itoa n:=by simp[numB]
 rw[←zA0,e];unfold Lib.itoa
 split
 ·have:=zQB 3 n.natAbs (by omega)
  simp;omega
 ·have:=zQB 3 n.toNat (by omega)
  omega
theorem zSv (op:Int) (h:1≤op∧op≤4):(opWB op).size≤2:=by
 have:op=1∨op=2∨op=3∨op=4:=by omega
 rcases this with rfl | rfl | rfl | rfl <;> decide
theorem zRr (k:Int) (h:1≤k∧k≤10):(zJx k).size≤12:=by
 have:k=1∨k=2∨k=3∨k=4∨k=5∨k=6∨k=7∨k=8∨k=9∨k=10:=by omega
 rcases this with rfl | rfl | rfl | rfl | rfl | rfl | rfl | rfl | rfl | rfl <;> decide
def zIT (vars:List MVar):Prop:=∀x∈vars,x.name.size≤12
theorem zDx {vars:List MVar} (h:zIT vars) (i:Int):(zAq vars i).size≤12:=by
 unfold zAq;rw[List.getD_eq_getElem?_getD];cases hv:vars[i.toNat]? with
 | none=>decide
 | some v=>exact h v (List.mem_of_getElem? hv)
theorem zK6 {s:ByteArray} (h:zJQ 1 s=true):s.size≤12:=by
 have:=((zHD _ _).1 h).2.2.2.2.2;unfold zC3 at this;rw[if_pos rfl] at this
 split at this
 ·cases this
 ·omega
theorem zEF {vars:List MVar} (h:zMJ vars):zIT vars:=by
 intro v hv;have:=h.1 v hv;unfold zBk at this;rw[Bool.and_eq_true] at this;exact zK6 this.1
theorem zNL {vars:List MVar} (h:zIT vars) {t:MLit} (ht:zSs vars t):(zFS vars t).size≤21:=by
 rw[←zA0,zQC];have h1:=zDx h t.var;have h2:=zSv t.op ht.2.1;have h3:=zE1 t.n (by have:=ht.2.2;omega)
 simp only[List.length_append,List.length_cons,zA0];omega
theorem zF7 (l:List Int) (k:Nat) (hk:l.length≤k) (h:∀x∈l,-1000≤x∧x≤1000):(zEO l).size≤k * 7+2:=zE0 _ 5 k (fun x hx=>by
 obtain⟨n,hn,rfl⟩:=List.mem_map.1 hx;exact zE1 n (by have:=h n hn;omega)) (by simpa using hk)
theorem zGW {vars:List MVar} (h:zIT vars) (l:List Int) (k:Nat) (hk:l.length≤k):(zBQ (l.map (zAq vars))).size≤k * 14+2:=zE0 _ 12 k (fun x hx=>by
 obtain⟨n,hn,rfl⟩:=List.mem_map.1 hx;exact zDx h n) (by simpa using hk)
theorem zH8 {c:MCon} (h:zFa c=false):c.vars.length≤4∧c.lits.length≤4∧c.consts.length≤8∧c.rows.length≤20:=by
 simp only[zFa,Bool.or_eq_false_iff,decide_eq_false_iff_not] at h;omega
theorem zMK {n:Nat} {c:MCon} (hc:ConOk n c) (hk:c.kind=6):∀r∈c.rows,r.length≤4:=by
 have hf:=hc.form;unfold zCJ at hf;rw[hk] at hf;simp at hf;intro r hr;have:=hf.2.2.2 r hr;have:=zH8 hc.many;omega
theorem zK7 {n:Nat} {c:MCon} (hc:ConOk n c) (hk:c.kind=6):(zBQ (c.rows.map zEO)).size≤700:=by
 have:=zE0 (c.rows.map zEO) 30 20 (fun x hx=>by
  obtain⟨r,hr,rfl⟩:=List.mem_map.1 hx;exact zF7 r 4 (zMK hc hk r hr) (hc.rows r hr)) (by simpa using (zH8 hc.many).2.2.2)
 omega
theorem zK8 {vars:List MVar} (h:zIT vars) {c:MCon} (hc:ConOk vars.length c):(zBQ (c.lits.map (zFS vars))).size≤100:=by
 have:=zE0 (c.lits.map (zFS vars)) 21 4 (fun x hx=>by
  obtain⟨t,ht,rfl⟩:=List.mem_map.1 hx;exact zNL h (hc.lits t ht)) (by simpa using (zH8 hc.many).2.1)
 omega
theorem zJF {vars:List MVar} (h:zIT vars) {c:MCon} (hc:ConOk vars.length c):(zAz vars c).length≤3∧∀x∈zAz vars c,x.size≤1000:=by
 have hm:=zH8 hc.many;have h1:=zF7 c.consts 8 hm.2.2.1 hc.consts;have h2:=zGW h c.vars 4 hm.1;have h3:=zE1 c.n (by have:=hc.num;omega)
 have h4:=zK8 h hc;have hn:=zDx h;obtain⟨f5,f7,f8,f10⟩:=zEz c hc.form;unfold zAz
 split
 ·simp only[List.forall_mem_cons,List.not_mem_nil,false_imp_iff,implies_true,and_true,List.length_cons,List.length_nil]
  omega
 split
 ·simp only[List.forall_mem_cons,List.not_mem_nil,false_imp_iff,implies_true,and_true,List.length_cons,List.length_nil]
  omega
 split
 ·simp only[List.forall_mem_cons,List.not_mem_nil,false_imp_iff,implies_true,and_true,List.length_cons,List.length_nil]
  have a1:=hn (c.vars.getD 0 0);have a2:=hn (c.vars.getD 1 0);omega
 split
 ·rename_i hk
  have:=zK7 hc hk;simp only[List.forall_mem_cons,List.not_mem_nil,false_imp_iff,implies_true,and_true,List.length_cons,List.length_nil];omega
 split
 ·simp only[List.forall_mem_cons,List.not_mem_nil,false_imp_iff,implies_true,and_true,List.length_cons,List.length_nil]
  have a1:=hn (c.vars.getD 0 0);have a2:=hn (c.vars.getD 1 0);have a3:=hn (c.vars.getD 2 0);omega
 split
 ·simp only[List.forall_mem_cons,List.not_mem_nil,false_imp_iff,implies_true,and_true,List.length_cons,List.length_nil]
  have a1:=hn (c.vars.getD 0 0);have a2:=zGW h (c.vars.drop 1) 4 (by simp;omega)
  omega
 split
 ·simp only[List.forall_mem_cons,List.not_mem_nil,false_imp_iff,implies_true,and_true,List.length_cons,List.length_nil]
  omega
 split
 ·rename_i hk
  have:=f10 hk;simp only[List.forall_mem_cons,List.not_mem_nil,false_imp_iff,implies_true,and_true,List.length_cons,List.length_nil];have a1:=hn (c.vars.getD 0 0);have a2:=zNL h (hc.lits (c.lits.getD 0 ⟨0,0,0⟩) (by rw[List.getD_eq_getElem?_getD,List.getElem?_eq_getElem (show 0<c.lits.length by omega)];exact List.getElem_mem _))
  omega
 ·exact⟨by decide,fun x hx=>by cases hx⟩
theorem zFT {vars:List MVar} (h:zIT vars) {c:MCon} (hc:ConOk vars.length c):(zBW ([conW,zJx c.kind]++zAz vars c) [32]).length≤10000∧(zA6 vars c).length≤10002:=by
 have h1:=zJF h hc;have h2:=zF6 ([conW,zJx c.kind]++zAz vars c) [32] 1000 (by
  simp only[List.cons_append,List.nil_append,List.forall_mem_cons];exact⟨by decide,by have:=zRr c.kind hc.kind;omega,h1.2⟩)
 have h3:([conW,zJx c.kind]++zAz vars c).length≤5:=by simp;omega
 have h4:([conW,zJx c.kind]++zAz vars c).length * (1000+1)≤5 * (1000+1):=Nat.mul_le_mul_right _ h3;have h5:(zBW ([conW,zJx c.kind]++zAz vars c) [32]).length≤10000:=by
  simp only[List.length_singleton] at h2;omega
 refine⟨h5,?_⟩;unfold zA6 zE4;rw[List.length_append];simp only[List.length_cons,List.length_nil];omega
theorem zEG {v:MVar} (h:zSu v):(zBW [varW,v.name++colW,numB v.lo++zEJ++numB v.hi] [32]).length≤10000∧(zAs v).length≤10002∧(numB v.lo).size≤5∧(numB v.hi).size≤5∧v.name.size≤12:=by
 have h1:v.name.size≤12:=by have:=h.1;unfold zBk at this;rw[Bool.and_eq_true] at this;exact zK6 this.1
 have h2:=zE1 v.lo (by have:=h.2;omega)
 have h3:=zE1 v.hi (by have:=h.2;omega)
 have h4:=zF6 [varW,v.name++colW,numB v.lo++zEJ++numB v.hi] [32] 100 (by
  simp only[List.forall_mem_cons,List.not_mem_nil,false_imp_iff,implies_true,and_true,ByteArray.size_append];have e1:colW.size=1:=rfl;have e2:zEJ.size=2:=rfl;have e3:varW.size=3:=rfl;omega)
 simp only[List.length_cons,List.length_nil] at h4;refine⟨by omega,?_,h2,h3,h1⟩
 unfold zAs zE4;rw[List.length_append];simp only[List.length_cons,List.length_nil];omega
theorem zK9 {m:Mod} (h:zIT m.vars) (hg:zGs m):(zBW [zBy,zF5 m.goal] [32]).length≤10000∧(zBW [zBy,zF5 m.goal,zAq m.vars m.var] [32]).length≤10000∧(zB2 m).length≤10002:=by
 have h1:=zDx h m.var;have hw:(zF5 m.goal).size≤12:=by
  have:m.goal=0∨m.goal=1∨m.goal=2:=by unfold zGs at hg;omega
  rcases this with h | h | h <;> rw[h] <;> decide
 have hs:zBy.size=5:=rfl;have h4:=zF6 [zBy,zF5 m.goal] [32] 100 (by
  simp only[List.forall_mem_cons,List.not_mem_nil,false_imp_iff,implies_true,and_true];omega)
 have h5:=zF6 [zBy,zF5 m.goal,zAq m.vars m.var] [32] 100 (by
  simp only[List.forall_mem_cons,List.not_mem_nil,false_imp_iff,implies_true,and_true];omega)
 simp only[List.length_cons,List.length_nil] at h4 h5;refine⟨by omega,by omega,?_⟩
 unfold zB2 zE4
 split
 ·rw[List.length_append];simp only[List.length_cons,List.length_nil];omega
 ·rw[List.length_append];simp only[List.length_cons,List.length_nil];omega
end Go.Proofs.YtndcpnlaadikoaaGreatDoor
