/- What the proof leans on, part 12. -/
import Derived.Test.YtndcpnlaadikoaaGreatDoorProg
import Derived.Test.YtndcpnlaadikoaaGreatDoorPartAk
import Derived.Shelf.Sort.Plain
import Derived.Ground.Names2Prog
import Derived.Shelf.Slices.CompactI
namespace Go.Proofs
open Go.Shelf
def Tryz.lays189_ren:Go.Shelf.Ren:=⟨fun | 189=>72 | 125=>133 | 257=>132 | 128=>212 | 129=>213 | 294=>203 | 295=>204 | 296=>205 | 297=>206 | 298=>207 | 299=>208 | 216=>209 | 300=>210 | 301=>211 | 328=>253 | 329=>254 | 330=>255 | 331=>256 | 332=>257 | 215=>258 | 343=>277 | n=>n,fun | 28=>42 | 3=>3 | 46=>199 | 0=>0 | 51=>266 | 53=>135 | 4=>4 | 183=>259 | 182=>258 | 131=>263 | 5=>5 | 9=>9 | 218=>295 | 222=>299 | 228=>312 | 229=>158 | n=>n,fun | n=>n⟩
theorem Tryz.lays189:Go.Proofs.Lays.n189 Tryz.prog Tryz.lays189_ren:={
 mixed:=by kernel_rfl
 f125:=Tryz.func133.trans (congrArg some (by kernel_rfl))
 f128:=Tryz.func212.trans (congrArg some (by kernel_rfl))
 f129:=Tryz.func213.trans (congrArg some (by kernel_rfl))
 f189:=Tryz.func72.trans (congrArg some (by kernel_rfl))
 f215:=Tryz.func258.trans (congrArg some (by kernel_rfl))
 f216:=Tryz.func209.trans (congrArg some (by kernel_rfl))
 f257:=Tryz.func132.trans (congrArg some (by kernel_rfl))
 f294:=Tryz.func203.trans (congrArg some (by kernel_rfl))
 f295:=Tryz.func204.trans (congrArg some (by kernel_rfl))
 f296:=Tryz.func205.trans (congrArg some (by kernel_rfl))
 f297:=Tryz.func206.trans (congrArg some (by kernel_rfl))
 f298:=Tryz.func207.trans (congrArg some (by kernel_rfl))
 f299:=Tryz.func208.trans (congrArg some (by kernel_rfl))
 f300:=Tryz.func210.trans (congrArg some (by kernel_rfl))
 f301:=Tryz.func211.trans (congrArg some (by kernel_rfl))
 f328:=Tryz.func253.trans (congrArg some (by kernel_rfl))
 f329:=Tryz.func254.trans (congrArg some (by kernel_rfl))
 f330:=Tryz.func255.trans (congrArg some (by kernel_rfl))
 f331:=Tryz.func256.trans (congrArg some (by kernel_rfl))
 f332:=Tryz.func257.trans (congrArg some (by kernel_rfl))
 f343:=Tryz.func277.trans (congrArg some (by kernel_rfl))
 t0:=Tryz.underlying0
 a0:=Tryz.isAgg0
 z0:=Tryz.sizeOf0
 v0:=Tryz.zeroValue0
 t3:=Tryz.underlying3
 a3:=Tryz.isAgg3
 z3:=Tryz.sizeOf3
 v3:=Tryz.zeroValue3
 t4:=Tryz.underlying4
 a4:=Tryz.isAgg4
 z4:=Tryz.sizeOf4
 v4:=Tryz.zeroValue4
 t5:=Tryz.underlying5
 a5:=Tryz.isAgg5
 z5:=Tryz.sizeOf5
 v5:=Tryz.zeroValue5
 t9:=Tryz.underlying9
 a9:=Tryz.isAgg9
 z9:=Tryz.sizeOf9
 v9:=Tryz.zeroValue9
 t28:=Tryz.underlying42
 a28:=Tryz.isAgg42
 z28:=Tryz.sizeOf42
 v28:=Tryz.zeroValue42
 t46:=Tryz.underlying199
 a46:=Tryz.isAgg199
 z46:=Tryz.sizeOf199
 v46:=Tryz.zeroValue199
 t51:=Tryz.underlying266
 a51:=Tryz.isAgg266
 z51:=Tryz.sizeOf266
 v51:=Tryz.zeroValue266
 t53:=Tryz.underlying135
 a53:=Tryz.isAgg135
 z53:=Tryz.sizeOf135
 v53:=Tryz.zeroValue135
 t131:=Tryz.underlying263
 a131:=Tryz.isAgg263
 z131:=Tryz.sizeOf263
 v131:=Tryz.zeroValue263
 t182:=Tryz.underlying258
 a182:=Tryz.isAgg258
 z182:=Tryz.sizeOf258
 v182:=Tryz.zeroValue258
 t183:=Tryz.underlying259
 a183:=Tryz.isAgg259
 z183:=Tryz.sizeOf259
 v183:=Tryz.zeroValue259
 t218:=Tryz.underlying295
 a218:=Tryz.isAgg295
 z218:=Tryz.sizeOf295
 v218:=Tryz.zeroValue295
 t222:=Tryz.underlying299
 a222:=Tryz.isAgg299
 z222:=Tryz.sizeOf299
 v222:=Tryz.zeroValue299
 t228:=Tryz.underlying312
 a228:=Tryz.isAgg312
 z228:=Tryz.sizeOf312
 v228:=Tryz.zeroValue312
 t229:=Tryz.underlying158
 a229:=Tryz.isAgg158
 z229:=Tryz.sizeOf158
 v229:=Tryz.zeroValue158 }
open Go.Sort Go.RowKit in
theorem Tryz.slices_Sort_int (blk off cap:Nat) (zs:List Int) (w:World) (hH:Holds (Value.int .i64) w blk off zs.toArray) (hblk:blk<w.heap.size) (hsz:zs.length<4611686018427387904) :
 Calls Tryz.prog 72 #[.slice (some ⟨blk,off,none⟩) zs.length cap] w fun e w' =>
  e=.returned (.tuple #[])∧∃n os,w'=grow (putRow (Value.int .i64) (Sort.ahead w n) blk off (zs.mergeSort fun x y=>decide (x≤y)).toArray) os:=Any.slices_Sort_int Tryz.lays189 blk off cap zs w hH hblk hsz
def Tryz.laysNm220_ren:Go.Shelf.Ren:=⟨fun | 20=>73 | n=>n,fun | 22=>42 | 3=>3 | 4=>4 | 0=>0 | n=>n,fun | n=>n⟩
theorem Tryz.laysNm220:Go.Proofs.Lays2.n20 Tryz.prog Tryz.laysNm220_ren:={
 mixed:=by kernel_rfl
 f20:=Tryz.func73.trans (congrArg some (by kernel_rfl))
 t0:=Tryz.underlying0
 a0:=Tryz.isAgg0
 z0:=Tryz.sizeOf0
 v0:=Tryz.zeroValue0
 t3:=Tryz.underlying3
 a3:=Tryz.isAgg3
 z3:=Tryz.sizeOf3
 v3:=Tryz.zeroValue3
 t4:=Tryz.underlying4
 a4:=Tryz.isAgg4
 z4:=Tryz.sizeOf4
 v4:=Tryz.zeroValue4
 t22:=Tryz.underlying42
 a22:=Tryz.isAgg42
 z22:=Tryz.sizeOf42
 v22:=Tryz.zeroValue42
 i3:=by kernel_rfl }
open Go.RowKit Go.Lib Go.Sort in
theorem Tryz.slices_Compact_int (blk off cap:Nat) (zs:List Int) (w:World) (hH:Holds (Value.int .i64) w blk off zs.toArray) (hsz:zs.length≤9223372036854775807) (hcap:zs.length≤cap) :
 Calls Tryz.prog 73 #[.slice (some ⟨blk,off,none⟩) zs.length cap] w fun e w'=>e=.returned (.slice (some ⟨blk,off,none⟩) (Lib.compact zs).length cap)∧∃q,w'=putRow (Value.int .i64) (Sort.ahead w q) blk off (Lib.compact zs++List.replicate (zs.length - (Lib.compact zs).length) 0).toArray:=Any.slices_Compact_int Tryz.laysNm220 blk off cap zs w hH hsz hcap
end Go.Proofs
namespace Go.Proofs.YtndcpnlaadikoaaGreatDoor
open Go.RowKit Go.Sort
theorem zHX (w:World) (n g B:Nat) (d:Array Int) (hB:B≤g):Below B w (putRow (Value.int .i64) (Sort.ahead w n) g 0 d):=by
 refine⟨rfl,rfl,rfl,by simp[putRow,mapBlock,Sort.ahead],fun k hk=>?_⟩
 show (Array.modify _ _ _)[k]? = _
 rw[Array.getElem?_modify,if_neg (by omega)];rfl
theorem zKE (w:World) (os:Array Obj) (B:Nat) (hB:B≤w.heap.size):Below B w (grow w os) :=
 ⟨rfl,rfl,rfl,by simp,fun k hk=>heap_grow_old w os (by omega)⟩
def IRow (w:World) (g:Nat) (zs:List Int):Prop:=Holds (Value.int .i64) w g 0 zs.toArray∧g<w.heap.size
theorem zMM {w:World} {base g cap:Nat} {zs:List Int} (h:w.ownsRow base 3 1 (.slice (some ⟨g,0,none⟩) zs.length cap) zs.length (zs.map (Value.int .i64))):IRow w g zs:=by
 refine⟨fun j hj=>?_,(h.lt g rfl).2⟩
 have hj':j<zs.length:=by simpa using hj
 rw[Nat.zero_add]
 refine⟨?_,h.frozenAt j⟩
 rw[h.cellAt j (by omega),List.getElem?_map]
 simp[hj']
theorem zMN {w:World} {g cap n:Nat} {zs:List Int} (h:IRow w g zs) (hn:n=zs.length) (hc:n≤cap) (hm:cap≤maxLen):IArg w (.slice (some ⟨g,0,none⟩) n cap) zs:=by
 subst hn
 refine⟨_,cap,rfl,⟨hc,hm⟩,fun i z hz=>⟨g,0,rfl,h.2,?_⟩⟩
 have hi:i<zs.length:=(List.getElem?_eq_some_iff.1 hz).1
 have hz':zs[i]=z:=by simpa[hi] using hz
 have:=(h.1 i (by simpa using hi)).1
 rw[this]
 simp[hi,hz']
def zDi (zs:List Int):List Int:=zs.mergeSort fun x y=>decide (x≤y)
theorem zDC (zs:List Int):(zDi zs).length=zs.length:=by simp[zDi]
theorem zMO (zs:List Int) (g cap B:Nat) (w:World) (h:IRow w g zs) (hB:B≤g) (hn:zs.length≤1000) :
 Calls Tryz.prog 72 #[.slice (some ⟨g,0,none⟩) zs.length cap] w fun e w'=>e=.returned (.tuple #[])∧IRow w' g (zDi zs)∧Below B w w':=by
 refine (Tryz.slices_Sort_int g 0 cap zs w h.1 h.2 (by omega)).mono ?_
 rintro e w' ⟨rfl,n,os,rfl⟩
 have hp:Holds (Value.int .i64) (Sort.ahead w n) g 0 zs.toArray:=h.1
 have hs:g<(putRow (Value.int .i64) (Sort.ahead w n) g 0 (zDi zs).toArray).heap.size:=by
  have:(putRow (Value.int .i64) (Sort.ahead w n) g 0 (zDi zs).toArray).heap.size=w.heap.size:=by simp[putRow,mapBlock,Sort.ahead]
  rw[this];exact h.2
 have h2:=h.2
 refine⟨rfl,⟨holds_grow _ _ _ _ _ _ hs (holds_putRow _ _ _ _ _ _ hp (by simp)),by simp;omega⟩,(zHX w n g B _ hB).trans (zKE _ _ _ (Nat.le_trans hB (Nat.le_of_lt hs)))⟩
def zEt (zs:List Int):List Int:=Lib.compact zs
theorem zKF {w:World} {g:Nat} (a b:List Int) (h:Holds (Value.int .i64) w g 0 (a++b).toArray):Holds (Value.int .i64) w g 0 a.toArray:=by
 intro j hj
 have hj':j<a.length:=by simpa using hj
 have:=h j (by simp;omega)
 have e1:(a++b).toArray[j]! = a.toArray[j]! := by
  simp[List.getElem?_append_left hj']
 rw[e1] at this
 exact this
theorem zFG (zs:List Int):(zEt zs).length≤zs.length:=by
 unfold zEt Lib.compact Lib.compactUpTo
 rw[List.length_map]
 exact Nat.le_trans (List.length_filter_le _ _) (by simp)
theorem zIg (zs:List Int) (g cap B:Nat) (w:World) (h:IRow w g zs) (hB:B≤g) (hn:zs.length≤1000) (hc:zs.length≤cap) :
 Calls Tryz.prog 73 #[.slice (some ⟨g,0,none⟩) zs.length cap] w fun e w'=>e=.returned (.slice (some ⟨g,0,none⟩) (zEt zs).length cap)∧IRow w' g (zEt zs)∧Below B w w':=by
 refine (Tryz.slices_Compact_int g 0 cap zs w h.1 (by omega) hc).mono ?_
 rintro e w' ⟨rfl,q,rfl⟩
 have hp:Holds (Value.int .i64) (Sort.ahead w q) g 0 zs.toArray:=h.1
 refine⟨rfl,⟨?_,?_⟩,zHX w q g B _ hB⟩
 ·refine zKF (zEt zs) (List.replicate (zs.length - (zEt zs).length) 0) ?_
  have hl:=zFG zs
  exact holds_putRow _ _ _ _ _ _ hp (by simp;unfold zEt at *;omega)
 ·have:(putRow (Value.int .i64) (Sort.ahead w q) g 0 (Lib.compact zs++List.replicate (zs.length - (Lib.compact zs).length) 0).toArray).heap.size=w.heap.size:=by simp[putRow,mapBlock,Sort.ahead]
  rw[this];exact h.2
def zBH (c:MCon):List Int:=c.vars++c.lits.map (·.var)
def zAO (c:MCon):List Int:=zEt (zDi (zBH c))
def zHY (m:Mod) (con:Int):List Int×Int:=if zBs m con=0 then (zAO (m.cons.getD con.toNat zNV),0) else ([],zBs m con)
theorem zLC (n:Nat) (hn:n≤1000) (w:World):∃w',Sem.run Tryz.prog (Instr.makeSlice 42 (.int .i64 0) (.int .i64 (n:Int))) w=.ok (.slice (some ⟨w.heap.size,0,none⟩) 0 n) w' ∧
 w'.ownsRow w.heap.size 3 1 (.slice (some ⟨w.heap.size,0,none⟩) 0 n) 0 []∧Below w.heap.size w w':=by
 obtain⟨i0,hi,hz0,hz1,hz2⟩:=info_parts Tryz.infoInt0
 obtain⟨w',hrun,hown,hg⟩:=run_makeSlice_owned w w.heap.size 42 3 i0 (.int .i64 0) 1 Tryz.underInts0 hi hz0 hz1 .i64 .i64 n (by omega) (by rw[hz2];omega) (by unfold maxLen;omega) (Nat.le_refl _)
 exact⟨w',hrun,hown,(Below.refl _ _).grown hg (Nat.le_refl _) (fun k h=>by cases h)⟩
theorem zFv (w:World) (ty:TypeId) (base n c:Nat) (v:Value) (xs:List Value) (hown:w.ownsRow base 3 1 v n xs) :
 (Builtin.append_ #[42,42] ty #[v,.slice none 0 c]).run Tryz.prog w=.ok v w:=by
 obtain⟨i0,hi,hz0,hz1,hz2⟩:=info_parts Tryz.infoInt0
 rcases hown.2 with ⟨rfl,rfl⟩ | ⟨g,cap,cur,rfl,_,_,hnc,_⟩
 ·simp[Builtin.append_,run_underlying Tryz.underInts0,sizeOf,typeInfo,hi,Builtin.lenOf,Builtin.firstCells]
 ·simp[Builtin.append_,run_underlying Tryz.underInts0,sizeOf,typeInfo,hi,Builtin.lenOf,Builtin.firstCells,hnc,storeCells]
theorem zMP (l:List Int):∀u∈l.map (Value.int .i64),u.oneCell'=true:=by
 intro u hu
 obtain⟨z,_,rfl⟩:=List.mem_map.1 hu
 rfl
theorem zDZ (b off j:Nat):(⟨b,off,none⟩:Addr).add j=⟨b,off+j,none⟩:=by unfold Addr.add;split <;> simp_all
theorem zCX {w:World} {ops:Array Oper} {rest:List Oper} {o:Oper} {a:Act} {Q:Exit→Act→World→Prop} (hgd:o.guard=none) (s x:Operand)
 (ho:o.op=.call { callee:=.builtin .append,args:=#[s,x],argTypes:=#[42,42] }) (base:Nat)
 (v:Value) (xs:List Int) (hs:a.eval s=v) (hown:w.ownsRow base 3 1 v xs.length (xs.map (Value.int .i64)))
 (u:Value) (l:List Int) (hx:a.eval x=u) (hl:IArg w u l) (hn:xs.length+l.length≤1000) (hbase:base≤w.heap.size)
 (h:∀v' w',w'.ownsRow base 3 1 v' (xs++l).length ((xs++l).map (Value.int .i64))→w.grownBy w' v.ownBlock→(v≠.slice none 0 0→v'≠.slice none 0 0)→wpList Tryz.prog ops Q rest (a.put o.dst v') w'):wpList Tryz.prog ops Q (o :: rest) a w:=by
 obtain⟨i0,hi,hz0,hz1,hz2⟩:=info_parts Tryz.infoInt0
 obtain⟨q,c,rfl,hm,hc⟩:=hl
 cases q with
 | none =>
   have hl0:l=[]:=by
    cases l with
    | nil=>rfl
    | cons z r=>obtain⟨b,off,hq,_⟩:=hc 0 z rfl;cases hq
   subst hl0
   refine wpList_plain hgd fun K hK=>?_
   have hr:=zFv w o.type base xs.length c v _ hown
   unfold Oper.wp execOp
   simp only[ho,resolve,invoke,builtin,Sem.run_bind,Sem.run_pure,Result.andThen_ok,List.map_toArray,List.map_cons,List.map_nil,hs,hx,List.length_nil,hr]
   exact hK _ _ (h v w (by rw[List.append_nil];exact hown) ⟨rfl,rfl,rfl,Nat.le_refl _,fun _ _ _=>rfl⟩ (fun h=>h))
 | some ad =>
   refine wpList_append_own w hgd s x 42 ho base 3 i0 (.int .i64 0) 1 8 Tryz.underInts0 hi hz0 hz1 hz2 rfl (by decide) v xs.length _ hs hown ad l.length c (l.map (Value.int .i64)) hx (by simp) ?_ (zMP l) (by unfold maxLen;omega) (by omega) hbase ?_
   ·intro j y hy
    rw[List.getElem?_map] at hy
    obtain⟨z,hz,rfl⟩:=Option.map_eq_some_iff.1 hy
    obtain⟨b,off,hq,_,hcell⟩:=hc j z hz
    cases hq
    rw[zDZ];exact hcell
   ·intro v' w' h1 h2 h3
    refine h v' w' (by rw[List.length_append,List.map_append];exact h1) h2 (fun hv hv'=>hv (h3.1 hv').1)
def accL (c:MCon) (k:Nat):List Int:=c.vars++(c.lits.take k).map (·.var)
theorem zLD (c:MCon):accL c 0=c.vars:=by simp[accL]
theorem zLE (c:MCon) (k:Nat) (t:MLit) (h:c.lits[k]? = some t):accL c (k+1)=accL c k++[t.var]:=by
 unfold accL;rw[List.take_add_one,h];simp
theorem zMQ (c:MCon) (k:Nat) (h:k≤c.lits.length):(accL c k).length=c.vars.length+k:=by
 unfold accL;simp;omega
theorem zMR (c:MCon):accL c c.lits.length=zBH c:=by unfold accL zBH;rw[List.take_length]
theorem zLF {w:World} {base n:Nat} {v:Value} {xs:List Value} (h:w.ownsRow base 3 1 v n xs):∃a cap,v=.slice a n cap:=by
 rcases h.2 with ⟨rfl,rfl⟩ | ⟨g,cap,cur,rfl,_⟩
 ·exact⟨_,_,rfl⟩
 ·exact⟨_,_,rfl⟩
theorem zLG {w:World} {base n:Nat} {v:Value} {xs:List Value} (h:w.ownsRow base 3 1 v n xs) (hv:v≠.slice none 0 0):∃g cap,v=.slice (some ⟨g,0,none⟩) n cap∧base≤g∧n≤cap∧cap≤maxLen:=by
 rcases h.2 with ⟨rfl,rfl⟩ | ⟨g,cap,cur,rfl,hg,_,hc,hm,_⟩
 ·exact absurd rfl hv
 ·exact⟨g,cap,rfl,hg,hc,hm⟩
theorem zNW (w:World) (o:Obj) (z:Int):IArg ((w.alloc o).alloc (.cells #[.int .i64 z] 3)) (.slice (some ⟨w.heap.size+1,0,none⟩) 1 1) [z]:=by
 refine⟨_,1,rfl,⟨by simp,by unfold maxLen;omega⟩,fun i y hy=>?_⟩
 match i,hy with
 | 0,hy=>cases hy;exact⟨_,0,rfl,by simp,World.cell?_alloc_at _ _ _ _ (by simp)⟩
set_option maxHeartbeats 1600000 in
set_option maxRecDepth 100000 in
theorem zKG (m:Mod) (con:Int) (vs cs:Value) (w:World) (hm:MArg w vs cs m) :
 Calls Tryz.prog 28 #[modV vs cs m,.int .i64 con] w fun e w'=>∃x,e=.returned (.tuple #[x,.int .i64 (zHY m con).2])∧IArg w' x (zHY m con).1∧Below w.heap.size w w':=by
 have HMA:Hid (∀w':World,Below w.heap.size w w'→MArg w' vs cs m):=fun w' h=>MArg.below h hm
 obtain⟨⟨a1,c1,rfl,_,_⟩,⟨a2,c2,rfl,hl2,hr2⟩⟩:=hm
 have HC:Hid (∀(i:Nat) (t:MCon),m.cons[i]? = some t→∃b off vv vc vr vl,a2=some ⟨b,off,none⟩∧b<w.heap.size ∧
  w.cell? ⟨b,off+i * 6,none⟩=some (.int .i64 t.kind)∧w.cell? ⟨b,off+i * 6+1,none⟩=some vv∧w.cell? ⟨b,off+i * 6+2,none⟩=some vc ∧
  w.cell? ⟨b,off+i * 6+3,none⟩=some (.int .i64 t.n)∧w.cell? ⟨b,off+i * 6+4,none⟩=some vr∧w.cell? ⟨b,off+i * 6+5,none⟩=some vl∧KArg w vv vc vr vl t):=hr2
 unfold maxLen at hl2
 obtain⟨hl21,hl2⟩:=hl2
 obtain⟨R,hR⟩:∃R,zHY m con=R:=⟨_,rfl⟩
 rw[hR]
 obtain⟨er,her⟩:∃er,zBs m con=er:=⟨_,rfl⟩
 have HER:Hid (zBs m con=er):=her
 have HE:Hid (R=if er=0 then (zAO (m.cons.getD con.toNat zNV),0) else ([],er)):=by rw[←hR,←her];rfl
 clear hR her hr2
 unfold modV
 go_enter Tryz.func28,Tryz.ntmps28
 go_wp2_with fail
 refine (zLB m con (.slice a1 m.vars.length c1) (.slice a2 m.cons.length c2) _ ?_).mono ?_
 ·exact HMA.out _ (zAA _ _)
 rintro e w1 ⟨rfl,hb1⟩
 rw[HER.out]
 have d1:w1.cell? ⟨w.heap.size,1,none⟩=some (.slice a2 m.cons.length c2):=(hb1.cell (by simp)).trans (by simp)
 have HB1:Hid (Below w.heap.size w w1):=(zAA _ _).trans (hb1.mono (by simp))
 have hs1:w.heap.size+1≤w1.heap.size:=by simpa using hb1.size
 clear hb1
 by_cases he:er=0
 ·subst he
  obtain⟨o1,o2,o3⟩:=zIf m con HER.out
  obtain⟨j,rfl⟩:∃j:Nat,con=(j:Int):=⟨con.toNat,by omega⟩
  have hjl:j<m.cons.length:=by omega
  obtain⟨c,hc⟩:∃c,m.cons[j]? = some c:=⟨m.cons[j],by simp[hjl]⟩
  have HN:Hid (R=(zAO c,0)):=by
   rw[HE.out,if_pos rfl,Int.toNat_natCast,List.getD_eq_getElem?_getD,hc];rfl
  obtain⟨hn4,hl4,_,_⟩:=zEy c (zDB _ _ (zHL m o1 j c hc)).2.1
  obtain⟨b,off,vv,vc,vr,vl,ha,hb,f0,f1,f2,f3,f4,f5,hka⟩:=HC.out j c hc
  subst ha
  have e0:=(HB1.out.cell (p:=⟨b,off+j * 6,none⟩) hb).trans f0
  have e1:=(HB1.out.cell (p:=⟨b,off+j * 6+1,none⟩) hb).trans f1
  have e2:=(HB1.out.cell (p:=⟨b,off+j * 6+2,none⟩) hb).trans f2
  have e3:=(HB1.out.cell (p:=⟨b,off+j * 6+3,none⟩) hb).trans f3
  have e4:=(HB1.out.cell (p:=⟨b,off+j * 6+4,none⟩) hb).trans f4
  have e5:=(HB1.out.cell (p:=⟨b,off+j * 6+5,none⟩) hb).trans f5
  obtain⟨⟨q1,r1,rfl,hmv,hq1⟩,⟨q2,r2,rfl,_,_⟩,⟨q3,r3,rfl,_,_⟩,⟨q4,r4,rfl,hm4,hq4⟩⟩:=hka
  have HQ1:Hid (∀(i:Nat) (z:Int),c.vars[i]? = some z→∃b off,q1=some ⟨b,off,none⟩∧b<w.heap.size∧w.cell? ⟨b,off+i,none⟩=some (.int .i64 z)):=hq1
  have HQ4:Hid (∀(i:Nat) (t:MLit),c.lits[i]? = some t→∃b off,q4=some ⟨b,off,none⟩∧b<w.heap.size ∧
   w.cell? ⟨b,off+i * 3,none⟩=some (.int .i64 t.var)∧w.cell? ⟨b,off+i * 3+1,none⟩=some (.int .i64 t.op)∧w.cell? ⟨b,off+i * 3+2,none⟩=some (.int .i64 t.n)):=hq4
  unfold maxLen at hm4
  obtain⟨hm41,hm4⟩:=hm4
  obtain⟨i0,hi,hz0,hz1,hz2⟩:=info_parts Tryz.infoInt0
  obtain⟨wm,hrun,hown,hbm⟩:=zLC (c.vars.length+c.lits.length) (by omega) (w1.alloc (.cells #[.int .i64 c.kind,.slice q1 c.vars.length r1,.slice q2 c.consts.length r2,.int .i64 c.n,.slice q3 c.rows.length r3,.slice q4 c.lits.length r4] 69))
  have hcm1:wm.cell? ⟨w1.heap.size,1,none⟩=some (.slice q1 c.vars.length r1):=(hbm.cell (by simp)).trans (by simp)
  have hcm5:wm.cell? ⟨w1.heap.size,5,none⟩=some (.slice q4 c.lits.length r4):=(hbm.cell (by simp)).trans (by simp)
  have hsm:w1.heap.size+1≤wm.heap.size:=by simpa using hbm.size
  have HBM:Hid (Below w.heap.size w wm):=(HB1.out.alloc HB1.out.size _).trans (hbm.mono (by simp;omega))
  rw[show (w1.alloc (.cells #[.int .i64 c.kind,.slice q1 c.vars.length r1,.slice q2 c.consts.length r2,.int .i64 c.n,.slice q3 c.rows.length r3,.slice q4 c.lits.length r4] 69)).heap.size=w1.heap.size+1 by simp] at hown hrun
  rw[Int.natCast_add] at hrun
  obtain⟨B,hBe⟩:∃B,B=w1.heap.size+1:=⟨_,rfl⟩
  have HOWN:Hid (wm.ownsRow B 3 1 (.slice (some ⟨B,0,none⟩) 0 (c.vars.length+c.lits.length)) 0 []):=by rw[hBe];exact hown
  clear hc f0 f1 f2 f3 f4 f5 hb hq1 hq4 hbm hown o1 o2 o3
  have HIV:Hid (IArg wm (.slice q1 c.vars.length r1) c.vars):=IArg.below HBM.out ⟨q1,r1,rfl,hmv,HQ1.out⟩
  rw[←hBe] at hrun
  have hBw:w.heap.size+2≤B:=by omega
  have hB1:w1.heap.size<B:=by omega
  have hBm:B≤wm.heap.size:=by omega
  clear hBe
  go_wp2_with (at_builtin;refine zCX rfl _ _ rfl B _ [] rfl HOWN.out _ c.vars rfl HIV.out (by simp;omega) hBm ?_)
  intro v3 w3 hown3 hg3 hnn3
  have HB3:Hid (Below w.heap.size w w3):=HBM.out.grown hg3 HBM.out.size (fun k h=>by cases h;exact (by omega:w.heap.size≤B))
  have hne:some w1.heap.size≠some B:=fun h=>by have:=Option.some.inj h;omega
  have hc5:w3.cell? ⟨w1.heap.size,5,none⟩=some (.slice q4 c.lits.length r4):=hg3.cell hcm5 hne
  clear hne
  have hs3:B≤w3.heap.size:=Nat.le_trans hBm hg3.size
  have HOWN3:Hid (w3.ownsRow B 3 1 v3 (accL c 0).length ((accL c 0).map (Value.int .i64))):=by rw[zLD];exact hown3
  have HNN3:Hid (v3≠.slice none 0 0):=by first | exact hnn3 | exact hnn3 (by simp)
  clear hown3 hg3 hnn3 hcm1 hcm5 hrun HOWN HIV e0 e1 e2 e3 e4 e5 d1
  go_wp2_with fail
  clear hc5
  go_loopw [8,37] (fun v i wr=>∃k:Nat,k≤c.lits.length∧i=.int .i64 k∧wr.ownsRow B 3 1 v (accL c k).length ((accL c k).map (Value.int .i64))∧Hid (v≠.slice none 0 0)∧Below w.heap.size w wr∧B≤wr.heap.size) (fun _ i _=>c.lits.length - (intOf i).toNat)
  case atStart=>exact⟨0,by omega,rfl,HOWN3.out,HNN3,HB3.out,hs3⟩
  case round =>
   obtain⟨k,hk,rfl,hown,hnn,hbw,hsw⟩:=hrel
   by_cases hlt:k<c.lits.length
   ·obtain⟨t,ht⟩:∃t,c.lits[k]? = some t:=⟨c.lits[k],by simp[hlt]⟩
    have HAC:Hid (accL c (k+1)=accL c k++[t.var]):=zLE c k t ht
    have hal:(accL c k).length≤8:=by rw[zMQ c k hk];omega
    obtain⟨b4,off4,rfl,hb4,g0,g1,g2⟩:=HQ4.out k t ht
    have k0:=(hbw.cell (p:=⟨b4,off4+k * 3,none⟩) hb4).trans g0
    have k1:=(hbw.cell (p:=⟨b4,off4+k * 3+1,none⟩) hb4).trans g1
    have k2:=(hbw.cell (p:=⟨b4,off4+k * 3+2,none⟩) hb4).trans g2
    have HOW:Hid (wr.ownsRow B 3 1 u8 (accL c k).length ((accL c k).map (Value.int .i64))):=hown
    have HBW:Hid (Below w.heap.size w wr):=hbw
    obtain⟨ax,cx,rfl⟩:=zLF hown
    obtain⟨acc,hacc⟩:∃acc,accL c k=acc:=⟨_,rfl⟩
    rw[hacc] at HAC hal HOW hnn ⊢
    clear ht g0 g1 g2 hb4 hown hbw hacc
    go_wp2_with (at_builtin;refine zCX rfl _ _ rfl B _ acc rfl ((HOW.out.alloc _).alloc _) _ [t.var] rfl (zNW _ _ _) (by simp;omega) (by simp;omega) ?_)
    intro v4 w4 hown4 hg4 hnn4
    have HO4:Hid (w4.ownsRow B 3 1 v4 (acc++[t.var]).length ((acc++[t.var]).map (Value.int .i64))):=by
     show w4.ownsRow _ _ _ _ _ _
     rw[List.length_append,List.map_append];first | exact hown4 | simpa using hown4
    have HB4:Hid (Below w.heap.size w w4):=((HBW.out.alloc HBW.out.size _).alloc (by have:=HBW.out.size;simp;omega) _).grown hg4 (by have:=HBW.out.size;simp;omega) (fun g h=>by have:=(HOW.out.lt g h).1;omega)
    have HN4:Hid (v4≠.slice none 0 0):=by
     have h:=hnn.out
     first | exact hnn4 h | (intro h4;simp_all)
    have hs4:B≤w4.heap.size:=by have:=hg4.size;simp at this;omega
    clear hown4 hg4 hnn4
    go_wp2
    go_roundw
    case rel=>exact⟨k+1,by omega,by go_num,by rw[HAC.out];exact HO4.out,HN4,HB4.out,hs4⟩
    case measure=>simp[intOf];omega
   ·have hks:k=c.lits.length:=by omega
    have HAC:Hid (accL c k=zBH c):=by show _=_;rw[hks];exact zMR c
    obtain⟨g,cap,rfl,hg,hcap,hmx⟩:=zLG hown hnn.out
    have HIR:Hid (IRow wr g (zBH c)):=by rw[←HAC.out];exact zMM hown
    have HBW:Hid (Below w.heap.size w wr):=hbw
    rw[HAC.out] at hcap ⊢
    have hn8:(zBH c).length≤8:=by unfold zBH;simp;omega
    clear hown hnn hbw hks
    go_wp2_with fail
    refine (zMO (zBH c) g cap w.heap.size _ HIR.out (by omega) (by omega)).mono ?_
    rintro e w5 ⟨rfl,hr5,hb5⟩
    have HR5:Hid (IRow w5 g (zDi (zBH c))):=hr5
    have HB5:Hid (Below w.heap.size w w5):=HBW.out.trans hb5
    clear hr5 hb5
    go_wp2_with fail
    rw[←zDC (zBH c)]
    refine (zIg (zDi (zBH c)) g cap w.heap.size _ HR5.out (by omega) (by rw[zDC];omega) (by rw[zDC];exact hcap)).mono ?_
    rintro e w6 ⟨rfl,hr6,hb6⟩
    have HF:Hid (IArg w6 (.slice (some ⟨g,0,none⟩) (zEt (zDi (zBH c))).length cap) (zAO c)):=zMN hr6 rfl (by have h1:=zFG (zDi (zBH c));rw[zDC] at h1;omega) hmx
    have HB6:Hid (Below w.heap.size w w6):=HB5.out.trans hb6
    clear hr6 hb6
    go_wp2
    go_ret2
    rw[HN.out]
    exact⟨_,rfl,HF.out,HB6.out⟩
 ·have HN:Hid (R=([],er)):=by rw[HE.out,if_neg he];rfl
  have he2:(er != 0)=true:=by simpa using he
  clear he
  go_wp2
  go_ret2
  rw[HN.out]
  exact⟨_,rfl,⟨none,0,rfl,⟨Nat.le_refl _,Nat.zero_le _⟩,fun i z h=>by simp at h⟩,HB1.out⟩
end Go.Proofs.YtndcpnlaadikoaaGreatDoor
