/- What the proof leans on, part 9. -/
import Derived.Test.YtdjbejlbmaiocafGreatDoorPartAh
import Derived.Test.YtdjbejlbmaiocafGreatDoorPartAc
import Derived.Laws.OwnMore
namespace Go.Proofs.YtdjbejlbmaiocafGreatDoor
open Go.RowKit
def twoM:Mod:=⟨[⟨⟨#[120]⟩,0,2⟩,⟨⟨#[121]⟩,0,2⟩],[⟨1,[0,1],[1,-1],-1,[],[]⟩],1,1⟩
theorem zE4:zAI twoM=0:=by kernel_rfl
theorem zEC (w:World) (o1 o2 o3 o4 o5:Obj) :
 (((((w.alloc o1).alloc o2).alloc o3).alloc o4).alloc o5).heap[w.heap.size+1]? = some o2∧(((((w.alloc o1).alloc o2).alloc o3).alloc o4).alloc o5).heap[w.heap.size+1+1]? = some o3 ∧
 (((((w.alloc o1).alloc o2).alloc o3).alloc o4).alloc o5).heap[w.heap.size+1+1+1]? = some o4∧(((((w.alloc o1).alloc o2).alloc o3).alloc o4).alloc o5).heap[w.heap.size+1+1+1+1]? = some o5:=by
 refine⟨?_,?_,?_,?_⟩
 all_goals
  show (((((w.heap.push _).push _).push _).push _).push _)[_]? = _
  simp only[Array.getElem?_push,Array.size_push]
  repeat first | rw[if_pos (by omega)] | rw[if_neg (by omega)]
 all_goals rfl
set_option maxHeartbeats 400000 in
set_option maxRecDepth 100000 in
theorem zIk (w:World) :
 Calls Tryz.prog 62 #[] w fun e w'=>∃vs cs,e=.returned (modV vs cs twoM)∧MArg w' vs cs twoM∧Below w.heap.size w w':=by
 go_enter Tryz.func62,Tryz.ntmps62
 go_wp2
 refine bodyPost_ret (v:=modV (.slice (some ⟨w.heap.size+1,0,none⟩) 2 2) (.slice (some ⟨w.heap.size+1+1+1+1,0,none⟩) 1 1) twoM) (by simp[results,Tryz.results62,go_sem,modV,twoM]) rfl ⟨_,_,rfl,⟨?_,?_⟩,?_⟩
 ·refine⟨_,_,rfl,⟨by decide,by unfold maxLen;decide⟩,fun i t ht=>?_⟩
  have hb:=(zEC w (.cells #[.slice (some ⟨w.heap.size+1,0,none⟩) 2 2,.slice (some ⟨w.heap.size+1+1+1+1,0,none⟩) 1 1,.int .i64 1,.int .i64 1] 25) (.cells #[.string ⟨#[120]⟩,.int .i64 0,.int .i64 2,.string ⟨#[121]⟩,.int .i64 0,.int .i64 2] 95) (.cells #[.int .i64 0,.int .i64 1] 3) (.cells #[.int .i64 1,.int .i64 (-1)] 3) (.cells #[.int .i64 1,.slice (some ⟨w.heap.size+1+1,0,none⟩) 2 2,.slice (some ⟨w.heap.size+1+1+1,0,none⟩) 2 2,.int .i64 (-1),.slice none 0 0,.slice none 0 0] 100)).1
  match i,ht with
  | 0,ht=>cases ht;exact⟨by unfold maxLen;decide,_,_,rfl,by simp,by rw[Lib.cell_of_heap hb];rfl,by rw[Lib.cell_of_heap hb];rfl,by rw[Lib.cell_of_heap hb];rfl⟩
  | 1,ht=>cases ht;exact⟨by unfold maxLen;decide,_,_,rfl,by simp,by rw[Lib.cell_of_heap hb];rfl,by rw[Lib.cell_of_heap hb];rfl,by rw[Lib.cell_of_heap hb];rfl⟩
 ·refine⟨_,_,rfl,⟨by decide,by unfold maxLen;decide⟩,fun i t ht=>?_⟩
  obtain⟨_,hb2,hb3,hb4⟩:=zEC w (.cells #[.slice (some ⟨w.heap.size+1,0,none⟩) 2 2,.slice (some ⟨w.heap.size+1+1+1+1,0,none⟩) 1 1,.int .i64 1,.int .i64 1] 25) (.cells #[.string ⟨#[120]⟩,.int .i64 0,.int .i64 2,.string ⟨#[121]⟩,.int .i64 0,.int .i64 2] 95) (.cells #[.int .i64 0,.int .i64 1] 3) (.cells #[.int .i64 1,.int .i64 (-1)] 3) (.cells #[.int .i64 1,.slice (some ⟨w.heap.size+1+1,0,none⟩) 2 2,.slice (some ⟨w.heap.size+1+1+1,0,none⟩) 2 2,.int .i64 (-1),.slice none 0 0,.slice none 0 0] 100)
  match i,ht with
  | 0,ht =>
    cases ht
    refine⟨_,_,.slice (some ⟨w.heap.size+1+1,0,none⟩) 2 2,.slice (some ⟨w.heap.size+1+1+1,0,none⟩) 2 2,.slice none 0 0,.slice none 0 0,rfl,by simp,by rw[Lib.cell_of_heap hb4];rfl,by rw[Lib.cell_of_heap hb4];rfl,by rw[Lib.cell_of_heap hb4];rfl,by rw[Lib.cell_of_heap hb4];rfl,by rw[Lib.cell_of_heap hb4];rfl,by rw[Lib.cell_of_heap hb4];rfl,?_⟩
    refine⟨⟨_,_,rfl,⟨by decide,by unfold maxLen;decide⟩,fun i z hz=>?_⟩,⟨_,_,rfl,⟨by decide,by unfold maxLen;decide⟩,fun i z hz=>?_⟩,⟨_,_,rfl,⟨by decide,by unfold maxLen;decide⟩,fun i z hz=>by simp at hz⟩,⟨_,_,rfl,⟨by decide,by unfold maxLen;decide⟩,fun i z hz=>by simp at hz⟩⟩
    ·match i,hz with
     | 0,hz=>cases hz;exact⟨_,_,rfl,by simp,by rw[Lib.cell_of_heap hb2];rfl⟩
     | 1,hz=>cases hz;exact⟨_,_,rfl,by simp,by rw[Lib.cell_of_heap hb2];rfl⟩
    ·match i,hz with
     | 0,hz=>cases hz;exact⟨_,_,rfl,by simp,by rw[Lib.cell_of_heap hb3];rfl⟩
     | 1,hz=>cases hz;exact⟨_,_,rfl,by simp,by rw[Lib.cell_of_heap hb3];rfl⟩
 ·exact (((((Below.refl _ _).alloc (Nat.le_refl _) _).alloc (by simp) _).alloc (by simp;omega) _).alloc (by simp;omega) _).alloc (by simp;omega) _
abbrev Sto:=List (List Int)
def zEt (lo hi:Int):List Int:=(List.range (hi+1 - lo).toNat).map fun (k:Nat)=>lo+(k:Int)
def zLx:MLit:=⟨0,0,0⟩
abbrev Cla:=List MLit
def oneB (c:Cla) (k:Nat) (z:Int):Bool:=c.any fun l=>decide (l.var=(k:Int))&&litV z l
def SubS (t s:Sto):Prop:=t.length=s.length∧∀(k:Nat) r q,t[k]? = some r→s[k]? = some q→∀x∈r,x∈q
theorem SubS.refl (s:Sto):SubS s s:=⟨rfl,fun k r q hr hq x hx=>by rw[hr] at hq;cases hq;exact hx⟩
theorem SubS.trans {a b c:Sto} (h:SubS a b) (k:SubS b c):SubS a c:=by
 refine⟨h.1.trans k.1,fun i r q hr hq x hx=>?_⟩
 have hi:i<b.length:=by rw[←h.1];exact (List.getElem?_eq_some_iff.1 hr).1
 have e:b[i]? = some b[i]:=by simp[hi]
 exact k.2 i _ q e hq x (h.2 i r _ hr e x hx)
def zE5 (t s:Sto):Prop:=t.length=s.length∧∀(k:Nat) r q,t[k]? = some r→s[k]? = some q→r.Sublist q
theorem zE5.refl (s:Sto):zE5 s s:=⟨rfl,fun k r q hr hq=>by rw[hr] at hq;cases hq;exact List.Sublist.refl _⟩
theorem zE5.trans {a b c:Sto} (h:zE5 a b) (k:zE5 b c):zE5 a c:=by
 refine⟨h.1.trans k.1,fun i r q hr hq=>?_⟩
 have hi:i<b.length:=by rw[←h.1];exact (List.getElem?_eq_some_iff.1 hr).1
 have e:b[i]? = some b[i]:=by simp[hi]
 exact (h.2 i r _ hr e).trans (k.2 i _ q e hq)
set_option maxHeartbeats 800000 in
set_option maxRecDepth 100000 in
theorem zD2 (l:MLit) (x:Int) (w:World) :
 Calls Tryz.prog 153 #[.agg #[.int .i64 l.var,.int .i64 l.op,.int .i64 l.n],.int .i64 x] w fun e w'=>e=.returned (.bool (litV x l))∧Below w.heap.size w w':=by
 obtain⟨R,hR⟩:∃R,litV x l=R:=⟨_,rfl⟩
 rw[hR]
 have hE:R=if l.op=1 then decide (x≤l.n) else if l.op=2 then decide (l.n≤x) else if l.op=3 then x==l.n else if l.op=4 then x != l.n else false:=by
  rw[←hR];rfl
 clear hR
 by_cases q1:l.op=1
 ·have HE:Hid (R=decide (x≤l.n)):=by rw[hE,if_pos q1];rfl
  rw[q1];clear hE q1
  go_enter Tryz.func153,Tryz.ntmps153
  go_wp2
  go_ret
  exact⟨zAB HE.out.symm,zAA _ _⟩
 ·by_cases q2:l.op=2
  ·have HE:Hid (R=decide (l.n≤x)):=by rw[hE,if_neg q1,if_pos q2];rfl
   rw[q2];clear hE q1 q2
   go_enter Tryz.func153,Tryz.ntmps153
   go_wp2
   go_ret
   exact⟨zAB HE.out.symm,zAA _ _⟩
  ·by_cases q3:l.op=3
   ·have HE:Hid (R=(x==l.n)):=by rw[hE,if_neg q1,if_neg q2,if_pos q3];rfl
    rw[q3];clear hE q1 q2 q3
    go_enter Tryz.func153,Tryz.ntmps153
    go_wp2
    go_ret
    exact⟨zAB HE.out.symm,zAA _ _⟩
   ·by_cases q4:l.op=4
    ·have HE:Hid (R=(x != l.n)):=by rw[hE,if_neg q1,if_neg q2,if_neg q3,if_pos q4];rfl
     rw[q4];clear hE q1 q2 q3 q4
     go_enter Tryz.func153,Tryz.ntmps153
     go_wp2
     go_ret
     exact⟨zAB HE.out.symm,zAA _ _⟩
    ·have HE:Hid (R=false):=by rw[hE,if_neg q1,if_neg q2,if_neg q3,if_neg q4];rfl
     have g1:(l.op==1)=false:=by simpa using q1
     have g2:(l.op==2)=false:=by simpa using q2
     have g3:(l.op==3)=false:=by simpa using q3
     have g4:(l.op==4)=false:=by simpa using q4
     clear hE q1 q2 q3 q4
     go_enter Tryz.func153,Tryz.ntmps153
     go_wp2
     go_ret
     exact⟨zAB HE.out.symm,zAA _ _⟩
def zAY (vals:List Int) (v:Int):Int:=vals.getD v.toNat 0
def ownV (vars vals:List Int):List Int:=vars.map (zAY vals)
def sumV (consts own:List Int):Int:=(List.zipWith (· * ·) consts own).sum
def litB (vals:List Int) (l:MLit):Bool:=litV (zAY vals l.var) l
def maxV:List Int→Int
 | []=>0
 | a :: r=>r.foldl max a
def zAN (c:MCon) (vals:List Int):Bool :=
 if c.kind=1 then decide (sumV c.consts (ownV c.vars vals)≤c.n)
 else if c.kind=2 then sumV c.consts (ownV c.vars vals)==c.n
 else if c.kind=3 then sumV c.consts (ownV c.vars vals) != c.n
 else if c.kind=4 then decide (ownV c.vars vals).Nodup
 else if c.kind=5 then decide (0≤(ownV c.vars vals).getD 0 0)&&(decide ((ownV c.vars vals).getD 0 0<c.consts.length)&&(c.consts.getD ((ownV c.vars vals).getD 0 0).toNat 0==(ownV c.vars vals).getD 1 0))
 else if c.kind=6 then c.rows.any fun r=>decide (r=ownV c.vars vals)
 else if c.kind=7 then (ownV c.vars vals).getD 0 0 * (ownV c.vars vals).getD 1 0==(ownV c.vars vals).getD 2 0
 else if c.kind=8 then (ownV c.vars vals).getD 0 0==maxV ((ownV c.vars vals).drop 1)
 else if c.kind=9 then c.lits.any (litB vals)
 else if c.kind=10 then (ownV c.vars vals).getD 0 0==(if litB vals (c.lits.getD 0 ⟨0,0,0⟩) then 1 else 0)
 else false
theorem zDB (vals:List Int) (k:Nat) (x:Int) (h:vals[k]? = some x):zAY vals (k:Int)=x:=by
 unfold zAY;rw[Int.toNat_natCast,List.getD_eq_getElem?_getD,h];rfl
set_option maxHeartbeats 400000 in
theorem zFy (b:Bool) (w:World):Calls Tryz.prog 152 #[.bool b] w fun e w'=>e=.returned (.int .i64 (if b then 1 else 0))∧w'=w:=by
 cases b
 ·go_enter Tryz.func152,Tryz.ntmps152
  go_wp2
  go_ret
  exact⟨rfl,rfl⟩
 ·go_enter Tryz.func152,Tryz.ntmps152
  go_wp2
  go_ret
  exact⟨rfl,rfl⟩
theorem Tryz.infoInt0:(Tryz.prog.info? 3).map (fun i=>(i.zero,i.size,i.bytes))=some (some (.int .i64 0),1,8):=by kernel_rfl
theorem Tryz.underInts0:Tryz.prog.underlying 26=some (.slice 3):=by kernel_rfl
theorem zIl (n:Nat) (hn:n≤1000) (w:World):∃w',Sem.run Tryz.prog (Instr.makeSlice 26 (.int .i64 (n:Int)) (.int .i64 (n:Int))) w=.ok (.slice (some ⟨w.heap.size,0,none⟩) n n) w' ∧
 w'.ownsRow w.heap.size 3 1 (.slice (some ⟨w.heap.size,0,none⟩) n n) n (List.replicate n (.int .i64 0))∧Below w.heap.size w w':=by
 obtain⟨i0,hi,hz0,hz1,hz2⟩:=info_parts Tryz.infoInt0
 obtain⟨w',hrun,hown,hg⟩:=run_makeSlice_full w w.heap.size 26 3 i0 (.int .i64 0) 1 Tryz.underInts0 hi hz0 hz1 .i64 .i64 n (by omega) (by rw[hz2];omega) (by unfold maxLen;omega) (Nat.le_refl _)
 refine⟨w',hrun,?_,(Below.refl _ _).grown hg (Nat.le_refl _) (fun k h=>by cases h)⟩
 have:(Value.int .i64 0).cells=#[.int .i64 0]:=rfl
 rw[this,Nat.mul_one,toList_madeCells_one] at hown
 exact hown
theorem zCf {w:World} {base:Nat} {v:Value} {r:List Int} (h:w.ownsRow base 3 1 v r.length (r.map (Value.int .i64))):IArg w v r:=by
 rcases h.2 with ⟨rfl,hn⟩ | ⟨g,cap,cur,rfl,hg,hh,hc1,hc2,_,_⟩
 ·have:r=[]:=List.eq_nil_of_length_eq_zero hn
  subst this
  exact⟨none,0,rfl,⟨Nat.le_refl _,Nat.zero_le _⟩,fun i z hz=>by simp at hz⟩
 ·refine⟨_,cap,rfl,⟨hc1,hc2⟩,fun i z hz=>⟨g,0,rfl,(Array.getElem?_eq_some_iff.1 hh).1,?_⟩⟩
  have hi:i<r.length:=(List.getElem?_eq_some_iff.1 hz).1
  rw[Nat.zero_add,h.cellAt i (by omega),List.getElem?_map,hz];rfl
set_option maxHeartbeats 800000 in
set_option maxRecDepth 100000 in
theorem zFz (vars vals:List Int) (u v:Value) (w:World) (hu:IArg w u vars) (hv:IArg w v vals) (hn:vars.length≤4) (hr:∀x∈vars,0≤x∧x<vals.length) :
 Calls Tryz.prog 145 #[u,v] w fun e w'=>∃x,e=.returned x∧IArg w' x (ownV vars vals)∧Below w.heap.size w w':=by
 obtain⟨a,c,rfl,hm,h1⟩:=hu
 obtain⟨a',c',rfl,hm',h2⟩:=hv
 have HU:Hid (∀(i:Nat) (z:Int),vars[i]? = some z→∃b off,a=some ⟨b,off,none⟩∧b<w.heap.size∧w.cell? ⟨b,off+i,none⟩=some (.int .i64 z)):=h1
 have HV:Hid (∀(i:Nat) (z:Int),vals[i]? = some z→∃b off,a'=some ⟨b,off,none⟩∧b<w.heap.size∧w.cell? ⟨b,off+i,none⟩=some (.int .i64 z)):=h2
 have HR:Hid (∀x∈vars,0≤x∧x<vals.length):=hr
 unfold maxLen at hm hm'
 obtain⟨hm1,hm⟩:=hm
 obtain⟨hm1',hm'⟩:=hm'
 obtain⟨wm,hrun,hown,hbm⟩:=zIl vars.length (by omega) w
 have HOWN:Hid (wm.ownsRow w.heap.size 3 1 (.slice (some ⟨w.heap.size,0,none⟩) vars.length vars.length) vars.length (List.replicate vars.length (.int .i64 0))):=hown
 have HBM:Hid (Below w.heap.size w wm):=hbm
 clear h1 h2 hr hown hbm
 go_enter Tryz.func145,Tryz.ntmps145
 go_wp2_with fail
 clear hrun
 go_loopw [13] (fun i wr=>∃(k:Nat) (cells:List Value),k≤vars.length∧i=.int .i64 k∧wr.ownsRow w.heap.size 3 1 (.slice (some ⟨w.heap.size,0,none⟩) vars.length vars.length) vars.length cells∧Hid (cells.take k=((ownV vars vals).take k).map (Value.int .i64))∧Below w.heap.size w wr) (fun i _=>vars.length - (intOf i).toNat)
 case atStart=>exact⟨0,_,by omega,rfl,HOWN.out,rfl,HBM.out⟩
 case round =>
  obtain⟨k,cells,hk,rfl,hown,htk,hbw⟩:=hrel
  by_cases hlt:k<vars.length
  ·obtain⟨z,hz⟩:∃z,vars[k]? = some z:=⟨vars[k],by simp[hlt]⟩
   obtain⟨hz0,hz1⟩:=HR.out z (List.mem_of_getElem? hz)
   obtain⟨j,rfl⟩:∃j:Nat,z=(j:Int):=⟨z.toNat,by omega⟩
   have hjl:j<vals.length:=by omega
   obtain⟨x,hx⟩:∃x,vals[j]? = some x:=⟨vals[j],by simp[hjl]⟩
   have HO:Hid ((ownV vars vals)[k]? = some x):=by show _=_;unfold ownV;rw[List.getElem?_map,hz];show some _=_;rw[zDB vals j x hx]
   obtain⟨b,off,rfl,hb,hc⟩:=HU.out k _ hz
   obtain⟨b',off',rfl,hb',hd⟩:=HV.out j x hx
   have e1:=(hbw.cell (p:=⟨b,off+k,none⟩) hb).trans hc
   have e2:=(hbw.cell (p:=⟨b',off'+j,none⟩) hb').trans hd
   have hlen:cells.length=vars.length:=by have:=hown.1;omega
   obtain⟨y,hy⟩:∃y,cells[k]? = some y:=⟨cells[k]'(by omega),by simp⟩
   have e3:wr.cell? ⟨w.heap.size,k,none⟩=some y:=by rw[hown.cellAt k (by omega)];exact hy
   have e4:=hown.frozenAt k
   have HST:Hid ((wr.setCell ⟨w.heap.size,k,none⟩ (.int .i64 x)).ownsRow w.heap.size 3 1 (.slice (some ⟨w.heap.size,0,none⟩) vars.length vars.length) vars.length (cells.set k (.int .i64 x))):=(hown.stored k _).1
   have HTK:Hid ((cells.set k (.int .i64 x)).take (k+1)=((ownV vars vals).take (k+1)).map (Value.int .i64)):=by
    show _=_
    rw[List.take_add_one,List.take_add_one,HO.out,List.map_append,List.getElem?_set_self (by omega),List.take_set_of_le (Nat.le_refl _),htk.out];rfl
   have HBW:Hid (Below w.heap.size w (wr.setCell ⟨w.heap.size,k,none⟩ (.int .i64 x))):=hbw.setCell (Nat.le_refl _) _
   clear hz hx hc hd hb hb' hown htk hbw hz0 hz1 hlen hy
   go_wp2
   go_roundw
   case rel=>exact⟨k+1,_,by omega,by go_num,HST.out,HTK,HBW.out⟩
   case measure=>simp[intOf];omega
  ·have hks:k=vars.length:=by omega
   have hlen:cells.length=vars.length:=by have:=hown.1;omega
   have HC:Hid (cells=(ownV vars vals).map (Value.int .i64)):=by
    have h:=htk.out
    rwa [List.take_of_length_le (by omega),List.take_of_length_le (by unfold ownV;simp;omega)] at h
   have HF:Hid (IArg wr (.slice (some ⟨w.heap.size,0,none⟩) vars.length vars.length) (ownV vars vals)):=by
    rw[HC.out] at hown
    have:vars.length=(ownV vars vals).length:=by simp[ownV]
    rw[this] at hown ⊢
    exact zCf hown
   clear hks hlen hown htk
   go_wp2
   go_ret
   exact⟨_,rfl,HF.out,hbw⟩
end Go.Proofs.YtdjbejlbmaiocafGreatDoor
