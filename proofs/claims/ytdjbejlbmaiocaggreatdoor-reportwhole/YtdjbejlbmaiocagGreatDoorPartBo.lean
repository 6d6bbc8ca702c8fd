/- What the proof leans on, part 41. -/
import Derived.Test.YtdjbejlbmaiocagGreatDoorPartBn
namespace Go.Proofs.YtdjbejlbmaiocagGreatDoor
open Go.RowKit
def zAQ (vars:List MVar) (i:Int):ByteArray:=(vars.getD i.toNat ⟨ByteArray.empty,0,0⟩).name
set_option maxHeartbeats 400000 in
set_option maxRecDepth 100000 in
theorem zGV (b:Nat) (vsl:Value) (vars:List MVar) (i:Int) (w:World) (hc:w.cell? ⟨b,2,none⟩=some vsl) (hv:VArg w vsl vars) (hi:0≤i∧i<vars.length) :
 Calls Tryz.prog 168 #[.pointer (some ⟨b,0,none⟩),.int .i64 i] w fun e w'=>e=.returned (.string (zAQ vars i))∧w'=w:=by
 obtain⟨a,c,rfl,hm,hr⟩:=hv
 obtain⟨k,rfl⟩:∃k:Nat,i=(k:Int):=⟨i.toNat,by omega⟩
 have hk:k<vars.length:=by omega
 obtain⟨_,bb,off,rfl,_,h0,_,_⟩:=hr k vars[k] (by simp[hk])
 have HN:Hid (zAQ vars (k:Int)=vars[k].name):=by show _=_;unfold zAQ;simp[hk]
 rw[HN.out]
 unfold maxLen at hm
 obtain⟨hm1,hm⟩:=hm
 clear hr
 go_enter Tryz.func168,Tryz.ntmps168
 go_wp2
 go_ret
 exact⟨rfl,rfl⟩
theorem zIg (args:Array Value) (w':World):Sem.run Tryz.prog (callFunc 165 args) w'=.ok (.enter 165 args) w':=by
 simp[callFunc,go_sem,Tryz.func165,Tryz.f165]
theorem zLd (args:Array Value) (w':World):Sem.run Tryz.prog (callFunc 168 args) w'=.ok (.enter 168 args) w':=by
 simp[callFunc,go_sem,Tryz.func168,Tryz.f168]
theorem zIP (args:Array Value) (w':World):Sem.run Tryz.prog (callFunc 231 args) w'=.ok (.enter 231 args) w':=by
 simp[callFunc,go_sem,Tryz.func231,Tryz.f231]
theorem zMv (args:Array Value) (w':World):Sem.run Tryz.prog (callFunc 234 args) w'=.ok (.enter 234 args) w':=by
 simp[callFunc,go_sem,Tryz.func234,Tryz.f234]
def zDf (l:List Int):ByteArray:=zA1 (l.map numB)
set_option maxHeartbeats 400000 in
set_option maxRecDepth 100000 in
theorem zHF (N:Nat) (l:List Int) (v:Value) (w:World) (ht:TabN N w) (hv:IArg w v l) (hl:l.length≤1000) (hlen:(zBM (l.map numB) [44,32]).length≤1000000) (hok:∀x∈l,okI x) :
 Calls Tryz.prog 231 #[v] w fun e w'=>e=.returned (.string (zDf l))∧Below w.heap.size w w':=by
 have HC:=zMt 165 numB l v w hv hl hlen zIg (fun x hx w' hb=>zDe N x (hok x hx) w' (ht.below hb))
 obtain⟨av,cv,rfl,_,_⟩:=hv
 have HCC:Hid (Calls Tryz.prog 230 #[.slice av l.length cv,.func (.func 165) #[] #[]] w fun e w'=>e=.returned (.string (zA1 (l.map numB)))∧Below w.heap.size w w'):=HC
 clear HC hl hlen hok
 go_enter Tryz.func231,Tryz.ntmps231
 go_wp2_with fail
 refine HCC.out.mono ?_
 rintro e w1 ⟨rfl,hb⟩
 go_wp2
 go_ret
 exact⟨rfl,hb⟩
def opWB (op:Int):ByteArray:=opWL.getD op.toNat ByteArray.empty
def zEb (vars:List MVar) (t:MLit):ByteArray:=zAQ vars t.var++⟨#[32]⟩++opWB t.op++⟨#[32]⟩++numB t.n
theorem zGW {P:Program} {md:Region.Mode} {ops:Array Oper} {Q:Exit→Act→World→Prop} {S S':World→Prop} (hS:∀w,S' w→S w):∀(fuel:Nat) (listed:Array Bool) (a:Act) (w:World),wpAnyH P md ops Q S' fuel listed a w→wpAnyH P md ops Q S fuel listed a w
 | 0,_,_,_,h=>h
 | f+1,_,_,_,h=>⟨h.1,fun i hi=>wpOp_mono (fun _ _ hh=>⟨hS _ hh.1,zGW hS f _ _ _ hh.2⟩) (h.2 i hi)⟩
set_option maxHeartbeats 4000000 in
set_option maxRecDepth 100000 in
theorem zSR (N b:Nat) (vsl:Value) (vars:List MVar) (t:MLit) (w:World) (ht:TabN N w) (hc:w.cell? ⟨b,2,none⟩=some vsl) (hv:VArg w vsl vars) (hi:0≤t.var∧t.var<vars.length) (ho:1≤t.op∧t.op≤4) (hn:okI t.n)
 (hs:(zAQ vars t.var).size≤1000) (hs2:(numB t.n).size≤1000) :
 Calls Tryz.prog 234 #[.pointer (some ⟨b,0,none⟩),litA t] w fun e w'=>e=.returned (.string (zEb vars t))∧Below w.heap.size w w':=by
 have HT:Hid (TabN N w):=ht
 have HVA:Hid (VArg w vsl vars):=hv
 have HCV:Hid (w.cell? ⟨b,2,none⟩=some vsl):=hc
 have hbw:b<w.heap.size:=World.block_lt_of_cell? w ⟨b,2,none⟩ hc
 have HIX:Hid (0≤t.var∧t.var<vars.length):=hi
 have HOK:Hid (okI t.n):=hn
 obtain⟨k,hk⟩:∃k:Nat,t.op=(k:Int):=⟨t.op.toNat,by omega⟩
 obtain⟨nm,hnm⟩:∃nm,zAQ vars t.var=nm:=⟨_,rfl⟩
 obtain⟨nb,hnb⟩:∃nb,numB t.n=nb:=⟨_,rfl⟩
 have hk1:1≤k∧k≤4:=by omega
 obtain⟨z,hz⟩:∃z,opWL[k]? = some z:=by
  have:k<opWL.length:=by show k<5;omega
  exact⟨opWL[k],by simp[this]⟩
 have hzs:z.size≤2:=by
  have:k=1∨k=2∨k=3∨k=4:=by omega
  rcases this with rfl | rfl | rfl | rfl <;> (cases hz;decide)
 have HZ:Hid (opWL[k]? = some z):=hz
 have HRS:Hid (zEb vars t=nm++⟨#[32]⟩++z++⟨#[32]⟩++nb):=by
  show _=_;unfold zEb opWB;rw[hnm,hnb,hk];simp[hz]
 have HNM:Hid (zAQ vars t.var=nm):=hnm
 have HNB:Hid (numB t.n=nb):=hnb
 rw[HRS.out]
 rw[hnm] at hs
 rw[hnb] at hs2
 unfold litA
 rw[hk]
 have HK:Hid (t.op=(k:Int)):=hk
 clear hz hnm hnb hk ht hv hc hi ho hn
 go_enter Tryz.func234,Tryz.ntmps234
 go_wp2_with fail
 obtain⟨W,hW⟩:∃W,W=w.alloc (.cells #[.int .i64 t.var,.int .i64 (k:Int),.int .i64 t.n] 88):=⟨_,rfl⟩
 have HBW:Hid (Below w.heap.size w W):=by show Below _ _ _;rw[hW];exact zAA _ _
 have HQ:W.heap[w.heap.size]? = some (.cells #[.int .i64 t.var,.int .i64 (k:Int),.int .i64 t.n] 88):=by rw[hW];exact heap_alloc_new _ _
 have hlt:w.heap.size<W.heap.size:=(Array.getElem?_eq_some_iff.1 HQ).1
 rw[←hW]
 clear hW
 have HS:Hid (∀Y,Below W.heap.size W Y→Below W.heap.size W Y∧Y.cell? ⟨w.heap.size,0,none⟩=some (.int .i64 t.var)∧Y.cell? ⟨w.heap.size,1,none⟩=some (.int .i64 (k:Int))∧Y.cell? ⟨w.heap.size,2,none⟩=some (.int .i64 t.n)):=fun Y hY =>
  ⟨hY,(hY.cell (p:=⟨w.heap.size,0,none⟩) hlt).trans (blk9 HQ 0 _ rfl),(hY.cell (p:=⟨w.heap.size,1,none⟩) hlt).trans (blk9 HQ 1 _ rfl),(hY.cell (p:=⟨w.heap.size,2,none⟩) hlt).trans (blk9 HQ 2 _ rfl)⟩
 clear HQ
 have hHeld:=HS.out W.drew (Below.refl _ _).drew
 refine wp_region_held_drew (S:=fun Y=>Below W.heap.size W Y∧Y.cell? ⟨w.heap.size,0,none⟩=some (.int .i64 t.var)∧Y.cell? ⟨w.heap.size,1,none⟩=some (.int .i64 (k:Int))∧Y.cell? ⟨w.heap.size,2,none⟩=some (.int .i64 t.n)) (by kernel_rfl) hHeld (fun _=>?_)
 refine wpAnyH_take (i:=0) (v:=?v0x1) rfl (by kernel_rfl) (by kernel_rfl) (by kernel_rfl) (fun _ _ _ h=>h) (Or.inl ⟨by rfl,?y0x1⟩) hHeld ?r0x1
 case y0x1=>intro wq hSw;obtain⟨q0,q1,q2,q3⟩:=hSw;go_simp;with_reducible rfl
 refine wpAnyH_take (i:=1) (v:=?v1x2) rfl (by kernel_rfl) (by kernel_rfl) (by kernel_rfl) (fun _ _ _ h=>h) (Or.inl ⟨by rfl,?y1x2⟩) hHeld ?r1x2
 case y1x2=>intro wq hSw;obtain⟨q0,q1,q2,q3⟩:=hSw;go_simp;with_reducible rfl
 refine wpAnyH_take (i:=2) (v:=?v2x3) rfl (by kernel_rfl) (by kernel_rfl) (by kernel_rfl) (fun _ _ _ h=>h) (Or.inl ⟨by rfl,?y2x3⟩) hHeld ?r2x3
 case y2x3=>intro wq hSw;obtain⟨q0,q1,q2,q3⟩:=hSw;go_simp;with_reducible rfl
 refine wpAnyH_take (i:=6) (v:=?v6x4) rfl (by kernel_rfl) (by kernel_rfl) (by kernel_rfl) (fun _ _ _ h=>h) (Or.inl ⟨by rfl,?y6x4⟩) hHeld ?r6x4
 case y6x4=>intro wq hSw;obtain⟨q0,q1,q2,q3⟩:=hSw;go_simp;with_reducible rfl
 refine wpAnyH_take (i:=7) (v:=?v7x5) rfl (by kernel_rfl) (by kernel_rfl) (by kernel_rfl) (fun _ _ _ h=>h) (Or.inl ⟨by rfl,?y7x5⟩) hHeld ?r7x5
 case y7x5=>intro wq hSw;obtain⟨q0,q1,q2,q3⟩:=hSw;go_simp;with_reducible rfl
 refine wpAnyH_take (i:=12) (v:=?v12x6) rfl (by kernel_rfl) (by kernel_rfl) (by kernel_rfl) (fun _ _ _ h=>h) (Or.inl ⟨by rfl,?y12x6⟩) hHeld ?r12x6
 case y12x6=>intro wq hSw;obtain⟨q0,q1,q2,q3⟩:=hSw;go_simp;with_reducible rfl
 refine wpAnyH_take (i:=13) (v:=?v13x7) rfl (by kernel_rfl) (by kernel_rfl) (by kernel_rfl) (fun _ _ _ h=>h) (Or.inl ⟨by rfl,?y13x7⟩) hHeld ?r13x7
 case y13x7=>intro wq hSw;obtain⟨q0,q1,q2,q3⟩:=hSw;go_simp;with_reducible rfl
 have g1:¬(9223372036854775807<nm.size+1):=by omega
 have g2:¬(9223372036854775807<nm.size+1+z.size):=by omega
 have g3:¬(9223372036854775807<nm.size+1+z.size+1):=by omega
 have g4:¬(9223372036854775807<nm.size+1+z.size+1+nb.size):=by omega
 have hk5:((k:Int)<(opWL.length:Int)):=by show (k:Int)<5;omega
 have hk0:((0:Int)≤(k:Int)):=by omega
 refine wpAnyH_ready (rs:=[3]) (by kernel_rfl) (by simp) ?_
 refine AllReadyH.cons rfl (fun K hK=>?_) AllReadyH.nil
 go_simp
 refine (zGV b vsl vars t.var W.drew ((HBW.out.cell (p:=⟨b,2,none⟩) hbw).trans HCV.out) (VArg.below (HBW.out.trans ((Below.refl _ _).drew)) HVA.out) HIX.out).mono ?_
 rw[HNM.out]
 rintro e w1 ⟨rfl,rfl⟩
 dsimp only
 refine hK.out _ _ hHeld (fun _=>?_)
 clear hK
 refine wpAnyH_take (i:=4) (v:=?v4x101) rfl (by kernel_rfl) (by kernel_rfl) (by kernel_rfl) (fun _ _ _ h=>h) (Or.inl ⟨by rfl,?y4x101⟩) hHeld ?r4x101
 case y4x101=>intro wq hSw;obtain⟨q0,q1,q2,q3⟩:=hSw;go_simp;with_reducible rfl
 refine wpAnyH_ready (rs:=[5]) (by kernel_rfl) (by simp) ?_
 refine AllReadyH.cons rfl (fun K hK=>?_) AllReadyH.nil
 go_simp
 refine (zLP W.drew).mono ?_
 rintro e w2 ⟨sv,rfl,⟨as_,cs_,rfl,hm_,hsv⟩,hb2⟩
 obtain⟨bk,off,rfl,hbk,hcell⟩:=hsv k z HZ.out
 have hB2:Below W.heap.size W w2:=(Below.refl _ _).drew.trans hb2
 dsimp only
 have hHeld2:=HS.out w2 hB2
 refine hK.out _ _ hHeld2 (fun _=>?_)
 clear hK hsv
 refine zGW (S':=fun Y=>(Below W.heap.size W Y∧Y.cell? ⟨w.heap.size,0,none⟩=some (.int .i64 t.var)∧Y.cell? ⟨w.heap.size,1,none⟩=some (.int .i64 (k:Int))∧Y.cell? ⟨w.heap.size,2,none⟩=some (.int .i64 t.n))∧Y.cell? ⟨bk,off+k,none⟩=some (.string z)) (fun _ h=>h.1) _ _ _ _ ?_
 have hHeld3:=And.intro hHeld2 hcell
 refine wpAnyH_take (i:=8) (v:=?v8x102) rfl (by kernel_rfl) (by kernel_rfl) (by kernel_rfl) (fun _ _ _ h=>h) (Or.inl ⟨by rfl,?y8x102⟩) hHeld3 ?r8x102
 case y8x102=>intro wq hSw;obtain⟨⟨q0,q1,q2,q3⟩,q4⟩:=hSw;go_simp;with_reducible rfl
 refine wpAnyH_take (i:=9) (v:=?v9x103) rfl (by kernel_rfl) (by kernel_rfl) (by kernel_rfl) (fun _ _ _ h=>h) (Or.inl ⟨by rfl,?y9x103⟩) hHeld3 ?r9x103
 case y9x103=>intro wq hSw;obtain⟨⟨q0,q1,q2,q3⟩,q4⟩:=hSw;go_simp;with_reducible rfl
 refine wpAnyH_take (i:=10) (v:=?v10x104) rfl (by kernel_rfl) (by kernel_rfl) (by kernel_rfl) (fun _ _ _ h=>h) (Or.inl ⟨by rfl,?y10x104⟩) hHeld3 ?r10x104
 case y10x104=>intro wq hSw;obtain⟨⟨q0,q1,q2,q3⟩,q4⟩:=hSw;go_simp;with_reducible rfl
 refine wpAnyH_take (i:=11) (v:=?v11x105) rfl (by kernel_rfl) (by kernel_rfl) (by kernel_rfl) (fun _ _ _ h=>h) (Or.inl ⟨by rfl,?y11x105⟩) hHeld3 ?r11x105
 case y11x105=>intro wq hSw;obtain⟨⟨q0,q1,q2,q3⟩,q4⟩:=hSw;go_simp;with_reducible rfl
 refine wpAnyH_ready (rs:=[14]) (by kernel_rfl) (by simp) ?_
 refine AllReadyH.cons rfl (fun K hK=>?_) AllReadyH.nil
 go_simp
 refine (zDe N t.n HOK.out w2 ((HT.out.below HBW.out).below hB2)).mono ?_
 rw[HNB.out]
 rintro e w3 ⟨rfl,hb3⟩
 dsimp only
 have hHeld4:=And.intro (HS.out w3 (hB2.trans (hb3.mono hB2.size))) ((hb3.cell (p:=⟨bk,off+k,none⟩) hbk).trans hcell)
 refine hK.out _ _ hHeld4 (fun _=>?_)
 clear hK
 refine wpAnyH_take (i:=15) (v:=?v15x106) rfl (by kernel_rfl) (by kernel_rfl) (by kernel_rfl) (fun _ _ _ h=>h) (Or.inl ⟨by rfl,?y15x106⟩) hHeld4 ?r15x106
 case y15x106=>intro wq hSw;obtain⟨⟨q0,q1,q2,q3⟩,q4⟩:=hSw;go_simp;with_reducible rfl
 refine wpAnyH_ready (rs:=[16]) (by kernel_rfl) (by simp) ?_
 refine AllReadyH.cons rfl (fun K hK=>?_) AllReadyH.nil
 go_simp
 refine hK.out _ _ hHeld4 (fun _=>?_)
 clear hK
 refine wpAnyH_done (by kernel_rfl) ?_ _
 have HE:Hid (Below w.heap.size w w3):=HBW.out.trans ((hB2.trans (hb3.mono hB2.size)).mono HBW.out.size)
 clear hHeld hHeld2 hHeld3 hHeld4 hb2 hB2 hb3 hcell hm_
 go_wp2
 go_ret
 exact⟨rfl,HE.out⟩
end Go.Proofs.YtdjbejlbmaiocagGreatDoor
