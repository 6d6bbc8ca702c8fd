/- What the proof leans on, part 13. -/
import Derived.Test.YtdjbejlbmaiocafGreatDoorProg
import Derived.Test.YtdjbejlbmaiocafGreatDoorPartAl
import Derived.Shelf.Sort.Plain
import Derived.Ground.Names2Prog
import Derived.Shelf.Slices.CompactI
namespace Go.Proofs
open Go.Shelf
def Tryz.lays189_ren:Go.Shelf.Ren:=⟨fun | 189=>124 | 125=>203 | 257=>202 | 128=>248 | 129=>249 | 294=>239 | 295=>240 | 296=>241 | 297=>242 | 298=>243 | 299=>244 | 216=>245 | 300=>246 | 301=>247 | 328=>261 | 329=>262 | 330=>263 | 331=>264 | 332=>265 | 215=>266 | 343=>274 | n=>n,fun | 28=>26 | 3=>3 | 46=>230 | 0=>0 | 51=>268 | 53=>151 | 4=>4 | 183=>261 | 182=>260 | 131=>265 | 5=>5 | 9=>9 | 218=>280 | 222=>284 | 228=>289 | 229=>225 | n=>n,fun | n=>n⟩
theorem Tryz.lays189:Go.Proofs.Lays.n189 Tryz.prog Tryz.lays189_ren:={
 mixed:=by kernel_rfl
 f125:=Tryz.func203.trans (congrArg some (by kernel_rfl))
 f128:=Tryz.func248.trans (congrArg some (by kernel_rfl))
 f129:=Tryz.func249.trans (congrArg some (by kernel_rfl))
 f189:=Tryz.func124.trans (congrArg some (by kernel_rfl))
 f215:=Tryz.func266.trans (congrArg some (by kernel_rfl))
 f216:=Tryz.func245.trans (congrArg some (by kernel_rfl))
 f257:=Tryz.func202.trans (congrArg some (by kernel_rfl))
 f294:=Tryz.func239.trans (congrArg some (by kernel_rfl))
 f295:=Tryz.func240.trans (congrArg some (by kernel_rfl))
 f296:=Tryz.func241.trans (congrArg some (by kernel_rfl))
 f297:=Tryz.func242.trans (congrArg some (by kernel_rfl))
 f298:=Tryz.func243.trans (congrArg some (by kernel_rfl))
 f299:=Tryz.func244.trans (congrArg some (by kernel_rfl))
 f300:=Tryz.func246.trans (congrArg some (by kernel_rfl))
 f301:=Tryz.func247.trans (congrArg some (by kernel_rfl))
 f328:=Tryz.func261.trans (congrArg some (by kernel_rfl))
 f329:=Tryz.func262.trans (congrArg some (by kernel_rfl))
 f330:=Tryz.func263.trans (congrArg some (by kernel_rfl))
 f331:=Tryz.func264.trans (congrArg some (by kernel_rfl))
 f332:=Tryz.func265.trans (congrArg some (by kernel_rfl))
 f343:=Tryz.func274.trans (congrArg some (by kernel_rfl))
 t0:=Tryz.underlying0
 a0:=Tryz.isAgg0
 z0:=Tryz.sizeOf0
 v0:=Tryz.zeroValue0
 t3:=Tryz.underlying3
 a3:=Tryz.isAgg3
 z3:=Tryz.sizeOf3
 v3:=Tryz.zeroValue3
 t4:=Tryz.underlying4
 a4:=Tryz.isAgg4
 z4:=Tryz.sizeOf4
 v4:=Tryz.zeroValue4
 t5:=Tryz.underlying5
 a5:=Tryz.isAgg5
 z5:=Tryz.sizeOf5
 v5:=Tryz.zeroValue5
 t9:=Tryz.underlying9
 a9:=Tryz.isAgg9
 z9:=Tryz.sizeOf9
 v9:=Tryz.zeroValue9
 t28:=Tryz.underlying26
 a28:=Tryz.isAgg26
 z28:=Tryz.sizeOf26
 v28:=Tryz.zeroValue26
 t46:=Tryz.underlying230
 a46:=Tryz.isAgg230
 z46:=Tryz.sizeOf230
 v46:=Tryz.zeroValue230
 t51:=Tryz.underlying268
 a51:=Tryz.isAgg268
 z51:=Tryz.sizeOf268
 v51:=Tryz.zeroValue268
 t53:=Tryz.underlying151
 a53:=Tryz.isAgg151
 z53:=Tryz.sizeOf151
 v53:=Tryz.zeroValue151
 t131:=Tryz.underlying265
 a131:=Tryz.isAgg265
 z131:=Tryz.sizeOf265
 v131:=Tryz.zeroValue265
 t182:=Tryz.underlying260
 a182:=Tryz.isAgg260
 z182:=Tryz.sizeOf260
 v182:=Tryz.zeroValue260
 t183:=Tryz.underlying261
 a183:=Tryz.isAgg261
 z183:=Tryz.sizeOf261
 v183:=Tryz.zeroValue261
 t218:=Tryz.underlying280
 a218:=Tryz.isAgg280
 z218:=Tryz.sizeOf280
 v218:=Tryz.zeroValue280
 t222:=Tryz.underlying284
 a222:=Tryz.isAgg284
 z222:=Tryz.sizeOf284
 v222:=Tryz.zeroValue284
 t228:=Tryz.underlying289
 a228:=Tryz.isAgg289
 z228:=Tryz.sizeOf289
 v228:=Tryz.zeroValue289
 t229:=Tryz.underlying225
 a229:=Tryz.isAgg225
 z229:=Tryz.sizeOf225
 v229:=Tryz.zeroValue225 }
open Go.Sort Go.RowKit in
theorem Tryz.slices_Sort_int (blk off cap:Nat) (zs:List Int) (w:World) (hH:Holds (Value.int .i64) w blk off zs.toArray) (hblk:blk<w.heap.size) (hsz:zs.length<4611686018427387904) :
 Calls Tryz.prog 124 #[.slice (some ⟨blk,off,none⟩) zs.length cap] w fun e w' =>
  e=.returned (.tuple #[])∧∃n os,w'=grow (putRow (Value.int .i64) (Sort.ahead w n) blk off (zs.mergeSort fun x y=>decide (x≤y)).toArray) os:=Any.slices_Sort_int Tryz.lays189 blk off cap zs w hH hblk hsz
def Tryz.laysNm220_ren:Go.Shelf.Ren:=⟨fun | 20=>125 | n=>n,fun | 22=>26 | 3=>3 | 4=>4 | 0=>0 | n=>n,fun | n=>n⟩
theorem Tryz.laysNm220:Go.Proofs.Lays2.n20 Tryz.prog Tryz.laysNm220_ren:={
 mixed:=by kernel_rfl
 f20:=Tryz.func125.trans (congrArg some (by kernel_rfl))
 t0:=Tryz.underlying0
 a0:=Tryz.isAgg0
 z0:=Tryz.sizeOf0
 v0:=Tryz.zeroValue0
 t3:=Tryz.underlying3
 a3:=Tryz.isAgg3
 z3:=Tryz.sizeOf3
 v3:=Tryz.zeroValue3
 t4:=Tryz.underlying4
 a4:=Tryz.isAgg4
 z4:=Tryz.sizeOf4
 v4:=Tryz.zeroValue4
 t22:=Tryz.underlying26
 a22:=Tryz.isAgg26
 z22:=Tryz.sizeOf26
 v22:=Tryz.zeroValue26
 i3:=by kernel_rfl }
open Go.RowKit Go.Lib Go.Sort in
theorem Tryz.slices_Compact_int (blk off cap:Nat) (zs:List Int) (w:World) (hH:Holds (Value.int .i64) w blk off zs.toArray) (hsz:zs.length≤9223372036854775807) (hcap:zs.length≤cap) :
 Calls Tryz.prog 125 #[.slice (some ⟨blk,off,none⟩) zs.length cap] w fun e w'=>e=.returned (.slice (some ⟨blk,off,none⟩) (Lib.compact zs).length cap)∧∃q,w'=putRow (Value.int .i64) (Sort.ahead w q) blk off (Lib.compact zs++List.replicate (zs.length - (Lib.compact zs).length) 0).toArray:=Any.slices_Compact_int Tryz.laysNm220 blk off cap zs w hH hsz hcap
end Go.Proofs
namespace Go.Proofs.YtdjbejlbmaiocafGreatDoor
open Go.RowKit Go.Sort
theorem zF1 (w:World) (n g B:Nat) (d:Array Int) (hB:B≤g):Below B w (putRow (Value.int .i64) (Sort.ahead w n) g 0 d):=by
 refine⟨rfl,rfl,rfl,by simp[putRow,mapBlock,Sort.ahead],fun k hk=>?_⟩
 show (Array.modify _ _ _)[k]? = _
 rw[Array.getElem?_modify,if_neg (by omega)];rfl
theorem zH0 (w:World) (os:Array Obj) (B:Nat) (hB:B≤w.heap.size):Below B w (grow w os) :=
 ⟨rfl,rfl,rfl,by simp,fun k hk=>heap_grow_old w os (by omega)⟩
def IRow (w:World) (g:Nat) (zs:List Int):Prop:=Holds (Value.int .i64) w g 0 zs.toArray∧g<w.heap.size
theorem zJ7 {w:World} {base g cap:Nat} {zs:List Int} (h:w.ownsRow base 3 1 (.slice (some ⟨g,0,none⟩) zs.length cap) zs.length (zs.map (Value.int .i64))):IRow w g zs:=by
 refine⟨fun j hj=>?_,(h.lt g rfl).2⟩
 have hj':j<zs.length:=by simpa using hj
 rw[Nat.zero_add]
 refine⟨?_,h.frozenAt j⟩
 rw[h.cellAt j (by omega),List.getElem?_map]
 simp[hj']
theorem zJ8 {w:World} {g cap n:Nat} {zs:List Int} (h:IRow w g zs) (hn:n=zs.length) (hc:n≤cap) (hm:cap≤maxLen):IArg w (.slice (some ⟨g,0,none⟩) n cap) zs:=by
 subst hn
 refine⟨_,cap,rfl,⟨hc,hm⟩,fun i z hz=>⟨g,0,rfl,h.2,?_⟩⟩
 have hi:i<zs.length:=(List.getElem?_eq_some_iff.1 hz).1
 have hz':zs[i]=z:=by simpa[hi] using hz
 have:=(h.1 i (by simpa using hi)).1
 rw[this]
 simp[hi,hz']
def zCS (zs:List Int):List Int:=zs.mergeSort fun x y=>decide (x≤y)
theorem zCT (zs:List Int):(zCS zs).length=zs.length:=by simp[zCS]
theorem zJ9 (zs:List Int) (g cap B:Nat) (w:World) (h:IRow w g zs) (hB:B≤g) (hn:zs.length≤1000) :
 Calls Tryz.prog 124 #[.slice (some ⟨g,0,none⟩) zs.length cap] w fun e w'=>e=.returned (.tuple #[])∧IRow w' g (zCS zs)∧Below B w w':=by
 refine (Tryz.slices_Sort_int g 0 cap zs w h.1 h.2 (by omega)).mono ?_
 rintro e w' ⟨rfl,n,os,rfl⟩
 have hp:Holds (Value.int .i64) (Sort.ahead w n) g 0 zs.toArray:=h.1
 have hs:g<(putRow (Value.int .i64) (Sort.ahead w n) g 0 (zCS zs).toArray).heap.size:=by
  have:(putRow (Value.int .i64) (Sort.ahead w n) g 0 (zCS zs).toArray).heap.size=w.heap.size:=by simp[putRow,mapBlock,Sort.ahead]
  rw[this];exact h.2
 have h2:=h.2
 refine⟨rfl,⟨holds_grow _ _ _ _ _ _ hs (holds_putRow _ _ _ _ _ _ hp (by simp)),by simp;omega⟩,(zF1 w n g B _ hB).trans (zH0 _ _ _ (Nat.le_trans hB (Nat.le_of_lt hs)))⟩
def zDW (zs:List Int):List Int:=Lib.compact zs
theorem zH1 {w:World} {g:Nat} (a b:List Int) (h:Holds (Value.int .i64) w g 0 (a++b).toArray):Holds (Value.int .i64) w g 0 a.toArray:=by
 intro j hj
 have hj':j<a.length:=by simpa using hj
 have:=h j (by simp;omega)
 have e1:(a++b).toArray[j]! = a.toArray[j]! := by
  simp[List.getElem?_append_left hj']
 rw[e1] at this
 exact this
theorem zEH (zs:List Int):(zDW zs).length≤zs.length:=by
 unfold zDW Lib.compact Lib.compactUpTo
 rw[List.length_map]
 exact Nat.le_trans (List.length_filter_le _ _) (by simp)
theorem zGl (zs:List Int) (g cap B:Nat) (w:World) (h:IRow w g zs) (hB:B≤g) (hn:zs.length≤1000) (hc:zs.length≤cap) :
 Calls Tryz.prog 125 #[.slice (some ⟨g,0,none⟩) zs.length cap] w fun e w'=>e=.returned (.slice (some ⟨g,0,none⟩) (zDW zs).length cap)∧IRow w' g (zDW zs)∧Below B w w':=by
 refine (Tryz.slices_Compact_int g 0 cap zs w h.1 (by omega) hc).mono ?_
 rintro e w' ⟨rfl,q,rfl⟩
 have hp:Holds (Value.int .i64) (Sort.ahead w q) g 0 zs.toArray:=h.1
 refine⟨rfl,⟨?_,?_⟩,zF1 w q g B _ hB⟩
 ·refine zH1 (zDW zs) (List.replicate (zs.length - (zDW zs).length) 0) ?_
  have hl:=zEH zs
  exact holds_putRow _ _ _ _ _ _ hp (by simp;unfold zDW at *;omega)
 ·have:(putRow (Value.int .i64) (Sort.ahead w q) g 0 (Lib.compact zs++List.replicate (zs.length - (Lib.compact zs).length) 0).toArray).heap.size=w.heap.size:=by simp[putRow,mapBlock,Sort.ahead]
  rw[this];exact h.2
end Go.Proofs.YtdjbejlbmaiocafGreatDoor
