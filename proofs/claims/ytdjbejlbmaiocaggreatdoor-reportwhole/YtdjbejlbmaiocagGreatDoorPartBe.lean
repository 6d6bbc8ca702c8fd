/- What the proof leans on, part 31. -/
import Derived.Test.YtdjbejlbmaiocagGreatDoorPartBd
import Derived.Test.YtdjbejlbmaiocagGreatDoorProg
import Derived.Test.YtdjbejlbmaiocagGreatDoorPartAb
import Derived.Shelf.Strings.Builder1
import Derived.Shelf.Strings.Builder2
import Derived.Shelf.Strings.OnBuilder
import Derived.Shelf.Strings.BuilderF
import Derived.Shelf.Strconv.Atoi
import Derived.Shelf.Strconv.Itoa0
import Derived.Shelf.Strconv.Itoa1
import Derived.Shelf.LaysM
import Derived.Shelf.Strconv.Itoa2
import Derived.Shelf.Strconv.Itoa3
import Derived.Lib.AtoiErrMem
namespace Go.Proofs.YtdjbejlbmaiocagGreatDoor
open Go.RowKit
theorem zMi (w:World) (s:ByteArray) (hs:s.size≤maxLen):MArg (w.alloc (.cells #[.string s,.int .i64 0,.int .i64 0] 71)) (.slice (some ⟨w.heap.size,0,none⟩) 1 1) (.slice none 0 0) ⟨[⟨s,0,0⟩],[],0,0⟩:=by
 refine⟨⟨_,1,rfl,⟨Nat.le_refl _,by unfold maxLen;omega⟩,fun i t ht=>?_⟩,⟨none,0,rfl,⟨Nat.le_refl _,Nat.zero_le _⟩,fun i t ht=>by simp at ht⟩⟩
 match i,ht with
 | 0,ht =>
   cases ht
   exact⟨hs,_,0,rfl,by simp,World.cell?_alloc_at _ _ _ 0 (by simp),World.cell?_alloc_at _ _ _ 1 (by simp),World.cell?_alloc_at _ _ _ 2 (by simp)⟩
set_option maxHeartbeats 800000 in
set_option maxRecDepth 100000 in
theorem zIF (s:ByteArray) (hs:s.size≤maxLen) (w:World) :
 Calls Tryz.prog 273 #[.string s] w fun e w'=>e=.returned (.bool (zFQ s))∧Below w.heap.size w w':=by
 obtain⟨er,her⟩:∃er,zAE ⟨[⟨s,0,0⟩],[],0,0⟩=er:=⟨_,rfl⟩
 have HER:Hid (zAE ⟨[⟨s,0,0⟩],[],0,0⟩=er):=her
 have HN:Hid (zFQ s=(er==0)):=by show _=_;unfold zFQ;rw[her]
 rw[HN.out]
 have HA:Hid (MArg (w.alloc (.cells #[.string s,.int .i64 0,.int .i64 0] 71)) (.slice (some ⟨w.heap.size,0,none⟩) 1 1) (.slice none 0 0) ⟨[⟨s,0,0⟩],[],0,0⟩):=zMi w s hs
 clear her hs
 go_enter Tryz.func273,Tryz.ntmps273
 go_wp2_with fail
 refine (show Calls Tryz.prog 40 #[.agg #[.slice (some ⟨w.heap.size,0,none⟩) 1 1,.slice none 0 0,.int .i64 0,.int .i64 0]] _ _ from zBU ⟨[⟨s,0,0⟩],[],0,0⟩ _ _ _ HA.out).mono ?_
 rintro e w1 ⟨rfl,hb1⟩
 rw[HER.out]
 have hb2:Below w.heap.size w w1:=(zAA _ _).trans (hb1.mono (by simp))
 clear hb1
 go_wp2
 go_ret
 exact⟨rfl,hb2⟩
theorem zJV:zFQ ByteArray.empty=false:=by kernel_rfl
theorem zLI {N R M:Nat} {en:Int} {w:World} {l:List Tok} (h:Rd N R M en w l):(zAI en l).text.size≤maxLen:=by
 obtain⟨_,v,_,_,_,_,_,ht,_⟩:=h
 cases l with
 | nil=>show ByteArray.empty.size≤maxLen;exact Nat.zero_le _
 | cons t r=>have:=(ht.2 t (List.mem_cons_self ..)).1;show t.text.size≤maxLen;unfold maxLen;omega
set_option maxHeartbeats 800000 in
set_option maxRecDepth 100000 in
theorem zMj (N R M:Nat) (en:Int) (w:World) (l:List Tok) (h:Rd N R M en w l) :
 Calls Tryz.prog 237 #[.pointer (some ⟨R,0,none⟩)] w (zCU (zCL en l) (fun s v _=>v=.string s∧s.size≤maxLen) N R M en (fun k=>k=R) w):=by
 have hf2:=zFs (zAI en l)
 have HB:Hid (Rd N R M en w l):=h
 have hsz:=zLI h
 obtain⟨B,hB⟩:∃B,zFQ (zAI en l).text=B:=⟨_,rfl⟩
 have HBB:Hid (zFQ (zAI en l).text=B):=hB
 have HP:Hid (zCL en l=(zBZ en B l).bind fun t r=>.ok t.text r):=by show _=_;unfold zCL;rw[hB]
 have HL:Hid (B=true→l≠[]):=by
  intro hb hl
  subst hl
  rw[hb] at hB
  have h2:zFQ ByteArray.empty=true:=hB
  rw[zJV] at h2;cases h2
 have HSZ:Hid ((zAI en l).text.size≤maxLen):=hsz
 rw[HP.out]
 clear hB hsz h
 go_enter Tryz.func237,Tryz.ntmps237
 go_wp2_with fail
 refine (zAS N R M en _ l HB.out).mono ?_
 rintro e w1 ⟨rfl,hb1⟩
 have HR1:Hid (Rd N R M en w1 l):=HB.out.below hb1
 have HF1:Hid (Fr (fun k=>k=R) w w1):=Fr.below hb1
 unfold tokA
 clear hb1
 go_wp2_with fail
 refine (zIF _ HSZ.out _).mono ?_
 rintro e w2 ⟨rfl,hb2⟩
 rw[HBB.out]
 have HR2:Hid (Rd N R M en w2 l):=HR1.out.below hb2
 have HF2:Hid (Fr (fun k=>k=R) w w2):=HF1.out.trans (Fr.below hb2)
 clear hb2 hf2
 go_wp2_with fail
 refine (zCi N R M en B w2 l HR2.out HL.out).mono ?_
 intro e w3 hp
 have HP2:Hid (zCU (zBZ en B l) (fun t v _=>v=tokA t) N R M en (fun k=>k=R) w e w3):=hp.fr HF2.out
 clear hp
 cases B
 ·obtain⟨rfl,hfr⟩:=HP2.out
  go_wp2
  exact⟨rfl,rfl,hfr⟩
 ·obtain⟨v,rfl,rfl,hrd,hfr⟩:=HP2.out
  have hf2:=zFs (zAI en l)
  unfold tokA
  go_wp2
  go_ret
  exact⟨_,rfl,⟨rfl,HSZ.out⟩,hrd,hfr⟩
def SArg (w:World) (v:Value) (l:List ByteArray):Prop :=
 ∃a c,v=.slice a l.length c∧(l.length≤c∧c≤maxLen)∧∀(i:Nat) (z:ByteArray),l[i]? = some z→∃b off,a=some ⟨b,off,none⟩∧b<w.heap.size∧w.cell? ⟨b,off+i,none⟩=some (.string z)
theorem SArg.below {w w':World} {v:Value} {l:List ByteArray} (hb:Below w.heap.size w w') (h:SArg w v l):SArg w' v l:=by
 obtain⟨a,c,hv,hm,hr⟩:=h
 refine⟨a,c,hv,hm,fun i z hz=>?_⟩
 obtain⟨b,off,ha,hlt,hc⟩:=hr i z hz
 exact⟨b,off,ha,Nat.lt_of_lt_of_le hlt hb.size,(hb.cell (p:=⟨b,off+i,none⟩) hlt).trans hc⟩
theorem zTI (l:List ByteArray) (n:ByteArray) (m:Nat) (z:ByteArray) (hz:l[m]? = some z) (h:(n.toList==z.toList)=true):idxA (l.drop m) n m=(m:Int):=by
 have hm:m<l.length:=(List.getElem?_eq_some_iff.1 hz).1
 rw[List.drop_eq_getElem_cons hm]
 have:l[m]=z:=by rw[List.getElem?_eq_getElem hm] at hz;exact Option.some.inj hz
 rw[this,idxA,h,if_pos rfl]
theorem zR8 (l:List ByteArray) (n:ByteArray) (m:Nat) (z:ByteArray) (hz:l[m]? = some z) (h:(n.toList==z.toList)=false):idxA (l.drop m) n m=idxA (l.drop (m+1)) n (m+1):=by
 have hm:m<l.length:=(List.getElem?_eq_some_iff.1 hz).1
 rw[List.drop_eq_getElem_cons hm]
 have:l[m]=z:=by rw[List.getElem?_eq_getElem hm] at hz;exact Option.some.inj hz
 rw[this,idxA,h,if_neg (by simp)]
set_option maxHeartbeats 400000 in
set_option maxRecDepth 100000 in
theorem zOm (l:List ByteArray) (v:Value) (n:ByteArray) (w:World) (hv:SArg w v l) :
 Calls Tryz.prog 275 #[v,.string n] w fun e w'=>e=.returned (.int .i64 (idxA l n 0))∧w'=w:=by
 obtain⟨a,c,rfl,hm,hr⟩:=hv
 have HV:Hid (∀(i:Nat) (z:ByteArray),l[i]? = some z→∃b off,a=some ⟨b,off,none⟩∧b<w.heap.size∧w.cell? ⟨b,off+i,none⟩=some (.string z)):=hr
 obtain⟨R,hR⟩:∃R,idxA l n 0=R:=⟨_,rfl⟩
 rw[hR]
 have HR:Hid (idxA l n 0=R):=hR
 unfold maxLen at hm
 obtain⟨hm1,hm⟩:=hm
 clear hr hR
 go_enter Tryz.func275,Tryz.ntmps275
 go_wp2_with fail
 go_loop [8] (fun i=>∃m:Nat,m≤l.length∧i=.int .i64 m∧Hid (idxA (l.drop m) n m=R)) (fun i=>l.length - (intOf i).toNat)
 case atStart=>exact⟨0,by omega,rfl,HR⟩
 case round =>
  obtain⟨m,hml,rfl,hall⟩:=hrel
  by_cases hlt:m<l.length
  ·obtain⟨z,hz⟩:∃z,l[m]? = some z:=⟨l[m],by simp[hlt]⟩
   obtain⟨b,off,ha,hb,hc⟩:=HV.out m z hz
   have HZ:Hid (l[m]? = some z):=hz
   subst ha
   clear hz
   cases hq:(n.toList==z.toList)
   ·have HN:Hid (idxA (l.drop (m+1)) n (m+1)=R):=by show _=_;rw[←zR8 l n m z HZ.out hq];exact hall.out
    go_wp2
    go_round
    case rel=>exact⟨m+1,by omega,by go_num,HN⟩
    case measure=>simp[intOf];omega
   ·have HN:Hid (R=(m:Int)):=by rw[←hall.out];exact zTI l n m z HZ.out hq
    go_wp2
    go_ret
    exact⟨zAH HN.out.symm,rfl⟩
  ·have HN:Hid (R=-1):=by
    have h:=hall.out
    rw[List.drop_eq_nil_of_le (by omega)] at h
    exact h.symm
   go_wp2
   go_ret
   exact⟨zAH HN.out.symm,rfl⟩
set_option maxHeartbeats 800000 in
set_option maxRecDepth 100000 in
theorem zIG (N R M:Nat) (en:Int) (texts:List ByteArray) (v:Value) (w:World) (l:List Tok) (h:Rd N R M en w l) (hv:SArg w v texts) :
 Calls Tryz.prog 239 #[.pointer (some ⟨R,0,none⟩),v] w (zCU (zCI en texts l) (fun i v _=>v=.int .i64 i) N R M en (fun k=>k=R) w):=by
 have hf0:=zTH (zAI en l)
 have hf2:=zFs (zAI en l)
 have HB:Hid (Rd N R M en w l):=h
 have HV:Hid (∀w',Below w.heap.size w w'→SArg w' v texts):=fun w' hb=>SArg.below hb hv
 obtain⟨a,c,rfl,_,_⟩:=hv
 obtain⟨I,hI⟩:∃I,idxA texts (zAI en l).text 0=I:=⟨_,rfl⟩
 have HI:Hid (idxA texts (zAI en l).text 0=I):=hI
 obtain⟨P,hP⟩:∃P,zCI en texts l=P:=⟨_,rfl⟩
 have HP:Hid (P=(zBZ en (decide (0≤I)&&((zAI en l).kind != 0)) l).bind fun _ r=>.ok I r):=by show _=_;rw[←hP];unfold zCI;rw[hI]
 rw[hP]
 have HL:Hid (((zAI en l).kind != 0)=true→l≠[]):=by
  intro hb hl
  subst hl
  have h2:((0:Int) != 0)=true:=hb
  simp at h2
 clear hI h hP
 go_enter Tryz.func239,Tryz.ntmps239
 go_wp2_with fail
 refine (zAS N R M en _ l HB.out).mono ?_
 rintro e w1 ⟨rfl,hb1⟩
 have HR1:Hid (Rd N R M en w1 l):=HB.out.below hb1
 have HF1:Hid (Fr (fun k=>k=R) w w1):=Fr.below hb1
 have HV1:Hid (SArg w1 (.slice a texts.length c) texts):=HV.out _ hb1
 unfold tokA
 clear hb1
 go_wp2_with fail
 refine (zOm texts _ _ _ HV1.out).mono ?_
 rintro e w1 ⟨rfl,rfl⟩
 rw[HI.out]
 by_cases h0:0≤I
 ·have HD:Hid (decide (0≤I)=true):=decide_eq_true h0
  obtain⟨K,hK⟩:∃K,((zAI en l).kind != 0)=K:=⟨_,rfl⟩
  have HK:Hid (((zAI en l).kind != 0)=K):=hK
  have HP2:Hid (P=(zBZ en K l).bind fun _ r=>.ok I r):=by show _=_;rw[HP.out,HD.out,hK];rfl
  clear hK
  go_wp2_with fail
  refine (zAS N R M en _ l HR1.out).mono ?_
  rintro e w2 ⟨rfl,hb2⟩
  have HR2:Hid (Rd N R M en w2 l):=HR1.out.below hb2
  have HF2:Hid (Fr (fun k=>k=R) w w2):=HF1.out.trans (Fr.below hb2)
  unfold tokA
  clear hb2
  go_wp2_with fail
  rw[HK.out]
  refine (zCi N R M en K w2 l HR2.out (fun hb=>HL.out (HK.out.trans hb))).mono ?_
  intro e w3 hp
  have HP3:Hid (zCU (zBZ en K l) (fun t v _=>v=tokA t) N R M en (fun k=>k=R) w e w3):=hp.fr HF2.out
  clear hp
  cases K
  ·obtain⟨rfl,hfr⟩:=HP3.out
   go_wp2
   exact⟨rfl,by rw[HP2.out];exact⟨rfl,hfr⟩⟩
  ·obtain⟨v,rfl,rfl,hrd,hfr⟩:=HP3.out
   unfold tokA
   go_wp2
   go_ret
   rw[HP2.out]
   exact⟨_,rfl,rfl,hrd,hfr⟩
 ·have HP2:Hid (P=(zBZ en false l).bind fun _ r=>.ok I r):=by show _=_;rw[HP.out,decide_eq_false h0];rfl
  go_wp2_with fail
  refine (zCi N R M en false w1 l HR1.out (fun hb=>by cases hb)).mono ?_
  intro e w3 hp
  have HP3:Hid (zCU (zBZ en false l) (fun t v _=>v=tokA t) N R M en (fun k=>k=R) w e w3):=hp.fr HF1.out
  clear hp
  obtain⟨rfl,hfr⟩:=HP3.out
  go_wp2
  exact⟨rfl,by rw[HP2.out];exact⟨rfl,hfr⟩⟩
end Go.Proofs.YtdjbejlbmaiocagGreatDoor
namespace Go.Proofs
open Go.Shelf
def Tryz.lays169_ren:Go.Shelf.Ren:=⟨fun | 169=>112 | n=>n,fun | 70=>148 | 9=>9 | 0=>0 | 72=>150 | 37=>107 | 127=>217 | 3=>3 | 5=>5 | n=>n,fun | n=>n⟩
theorem Tryz.lays169:Go.Proofs.Lays.n169 Tryz.prog Tryz.lays169_ren:={
 mixed:=by kernel_rfl
 f169:=Tryz.func112.trans (congrArg some (by kernel_rfl))
 t0:=Tryz.underlying0
 a0:=Tryz.isAgg0
 z0:=Tryz.sizeOf0
 v0:=Tryz.zeroValue0
 t3:=Tryz.underlying3
 a3:=Tryz.isAgg3
 z3:=Tryz.sizeOf3
 v3:=Tryz.zeroValue3
 t9:=Tryz.underlying9
 a9:=Tryz.isAgg9
 z9:=Tryz.sizeOf9
 v9:=Tryz.zeroValue9
 t37:=Tryz.underlying107
 a37:=Tryz.isAgg107
 z37:=Tryz.sizeOf107
 v37:=Tryz.zeroValue107
 t70:=Tryz.underlying148
 a70:=Tryz.isAgg148
 z70:=Tryz.sizeOf148
 v70:=Tryz.zeroValue148
 t72:=Tryz.underlying150
 a72:=Tryz.isAgg150
 z72:=Tryz.sizeOf150
 v72:=Tryz.zeroValue150
 t127:=Tryz.underlying217
 a127:=Tryz.isAgg217
 z127:=Tryz.sizeOf217
 v127:=Tryz.zeroValue217 }
theorem Tryz.Builder_Extra_169:Builder.Extra Tryz.prog Tryz.lays169_ren:={
 sizeBuilder:=by kernel_rfl
 liesBuilder:=by kernel_rfl
 t5:=Tryz.underlying5
 a5:=Tryz.isAgg5
 z5:=Tryz.sizeOf5
 v5:=Tryz.zeroValue5
 infoByte:=by kernel_rfl
 cellsByte:=by kernel_rfl
 sizeByte:=by kernel_rfl
 neB5:=by decide }
def Tryz.lays156_ren:Go.Shelf.Ren:=⟨fun | 156=>229 | 165=>270 | 166=>110 | 169=>112 | 240=>162 | 241=>288 | 276=>228 | 277=>291 | n=>n,fun | 31=>106 | 9=>9 | 3=>3 | 4=>4 | 0=>0 | 20=>20 | 72=>150 | 76=>153 | 70=>148 | 37=>107 | 75=>152 | 127=>217 | 164=>269 | 5=>5 | 80=>100 | n=>n,fun | n=>n⟩
theorem Tryz.lays156:Go.Proofs.Lays.n156 Tryz.prog Tryz.lays156_ren:={
 mixed:=by kernel_rfl
 f156:=Tryz.func229.trans (congrArg some (by kernel_rfl))
 f165:=Tryz.func270.trans (congrArg some (by kernel_rfl))
 f166:=Tryz.func110.trans (congrArg some (by kernel_rfl))
 f169:=Tryz.func112.trans (congrArg some (by kernel_rfl))
 f240:=Tryz.func162.trans (congrArg some (by kernel_rfl))
 f241:=Tryz.func288.trans (congrArg some (by kernel_rfl))
 f276:=Tryz.func228.trans (congrArg some (by kernel_rfl))
 f277:=Tryz.func291.trans (congrArg some (by kernel_rfl))
 t0:=Tryz.underlying0
 a0:=Tryz.isAgg0
 z0:=Tryz.sizeOf0
 v0:=Tryz.zeroValue0
 t3:=Tryz.underlying3
 a3:=Tryz.isAgg3
 z3:=Tryz.sizeOf3
 v3:=Tryz.zeroValue3
 t4:=Tryz.underlying4
 a4:=Tryz.isAgg4
 z4:=Tryz.sizeOf4
 v4:=Tryz.zeroValue4
 t9:=Tryz.underlying9
 a9:=Tryz.isAgg9
 z9:=Tryz.sizeOf9
 v9:=Tryz.zeroValue9
 t20:=Tryz.underlying20
 a20:=Tryz.isAgg20
 z20:=Tryz.sizeOf20
 v20:=Tryz.zeroValue20
 t31:=Tryz.underlying106
 a31:=Tryz.isAgg106
 z31:=Tryz.sizeOf106
 v31:=Tryz.zeroValue106
 t37:=Tryz.underlying107
 a37:=Tryz.isAgg107
 z37:=Tryz.sizeOf107
 v37:=Tryz.zeroValue107
 t70:=Tryz.underlying148
 a70:=Tryz.isAgg148
 z70:=Tryz.sizeOf148
 v70:=Tryz.zeroValue148
 t72:=Tryz.underlying150
 a72:=Tryz.isAgg150
 z72:=Tryz.sizeOf150
 v72:=Tryz.zeroValue150
 t75:=Tryz.underlying152
 a75:=Tryz.isAgg152
 z75:=Tryz.sizeOf152
 v75:=Tryz.zeroValue152
 t76:=Tryz.underlying153
 a76:=Tryz.isAgg153
 z76:=Tryz.sizeOf153
 v76:=Tryz.zeroValue153
 t127:=Tryz.underlying217
 a127:=Tryz.isAgg217
 z127:=Tryz.sizeOf217
 v127:=Tryz.zeroValue217
 t164:=Tryz.underlying269
 a164:=Tryz.isAgg269
 z164:=Tryz.sizeOf269
 v164:=Tryz.zeroValue269 }
theorem Tryz.Builder_Extra_156:Builder.Extra Tryz.prog Tryz.lays156_ren:={
 sizeBuilder:=by kernel_rfl
 liesBuilder:=by kernel_rfl
 t5:=Tryz.underlying5
 a5:=Tryz.isAgg5
 z5:=Tryz.sizeOf5
 v5:=Tryz.zeroValue5
 infoByte:=by kernel_rfl
 cellsByte:=by kernel_rfl
 sizeByte:=by kernel_rfl
 neB5:=by decide }
open Go.RowKit in
theorem Tryz.strings_Join_none (a:Option Addr) (c:Nat) (sep:ByteArray) (w:World) :
 Calls Tryz.prog 229 #[.slice a 0 c,.string sep] w fun e w'=>e=.returned (.string ⟨#[]⟩)∧w'=w:=Any.strings_Join_none Tryz.lays156 Tryz.Builder_Extra_156 a c sep w
open Go.RowKit in
theorem Tryz.strings_Join (bk o c:Nat) (xs:List ByteArray) (sep:ByteArray) (w:World) (hcells:∀(j:Nat) x,xs[j]? = some x→w.cell? ⟨bk,o+j,none⟩=some (.string x)) (hbk:bk<w.heap.size) (hN:xs.length≤140737488355328) (hcap:xs.length≤c) (hlen:(Lib.join (xs.map (·.data.toList)) sep.data.toList).length≤140737488355328) :
 Calls Tryz.prog 229 #[.slice (some ⟨bk,o,none⟩) xs.length c,.string sep] w fun e w'=>e=.returned (.string ⟨(Lib.join (xs.map (·.data.toList)) sep.data.toList).toArray⟩)∧Below w.heap.size w w':=Any.strings_Join Tryz.lays156 Tryz.Builder_Extra_156 bk o c xs sep w hcells hbk hN hcap hlen
def Tryz.lays172_ren:Go.Shelf.Ren:=⟨fun | 172=>274 | 244=>289 | 245=>290 | 247=>292 | 279=>293 | 280=>294 | 281=>295 | 282=>296 | 287=>297 | 316=>298 | 171=>55 | 205=>299 | 321=>300 | 322=>301 | 243=>109 | 246=>161 | 283=>224 | 284=>225 | 285=>226 | 286=>227 | 129=>210 | 317=>266 | 318=>267 | 319=>268 | 320=>269 | 337=>287 | 338=>258 | n=>n,fun | 9=>9 | 3=>3 | 75=>152 | 76=>153 | 4=>4 | 5=>5 | 167=>319 | 37=>107 | 0=>0 | 85=>320 | 2=>2 | 168=>322 | 53=>182 | 175=>325 | 46=>197 | 210=>329 | 127=>217 | 145=>334 | 143=>332 | 21=>21 | 171=>265 | 173=>267 | 212=>300 | 51=>254 | 20=>20 | 213=>301 | 232=>317 | 233=>313 | 80=>100 | n=>n,fun | 15=>4 | 16=>5 | 17=>0 | 18=>2 | 19=>1 | n=>n⟩
theorem Tryz.lays172:Go.Proofs.Lays.n172 Tryz.prog Tryz.lays172_ren:={
 mixed:=by kernel_rfl
 f129:=Tryz.func210.trans (congrArg some (by kernel_rfl))
 f171:=Tryz.func55.trans (congrArg some (by kernel_rfl))
 f172:=Tryz.func274.trans (congrArg some (by kernel_rfl))
 f205:=Tryz.func299.trans (congrArg some (by kernel_rfl))
 f243:=Tryz.func109.trans (congrArg some (by kernel_rfl))
 f244:=Tryz.func289.trans (congrArg some (by kernel_rfl))
 f245:=Tryz.func290.trans (congrArg some (by kernel_rfl))
 f246:=Tryz.func161.trans (congrArg some (by kernel_rfl))
 f247:=Tryz.func292.trans (congrArg some (by kernel_rfl))
 f279:=Tryz.func293.trans (congrArg some (by kernel_rfl))
 f280:=Tryz.func294.trans (congrArg some (by kernel_rfl))
 f281:=Tryz.func295.trans (congrArg some (by kernel_rfl))
 f282:=Tryz.func296.trans (congrArg some (by kernel_rfl))
 f283:=Tryz.func224.trans (congrArg some (by kernel_rfl))
 f284:=Tryz.func225.trans (congrArg some (by kernel_rfl))
 f285:=Tryz.func226.trans (congrArg some (by kernel_rfl))
 f286:=Tryz.func227.trans (congrArg some (by kernel_rfl))
 f287:=Tryz.func297.trans (congrArg some (by kernel_rfl))
 f316:=Tryz.func298.trans (congrArg some (by kernel_rfl))
 f317:=Tryz.func266.trans (congrArg some (by kernel_rfl))
 f318:=Tryz.func267.trans (congrArg some (by kernel_rfl))
 f319:=Tryz.func268.trans (congrArg some (by kernel_rfl))
 f320:=Tryz.func269.trans (congrArg some (by kernel_rfl))
 f321:=Tryz.func300.trans (congrArg some (by kernel_rfl))
 f322:=Tryz.func301.trans (congrArg some (by kernel_rfl))
 f337:=Tryz.func287.trans (congrArg some (by kernel_rfl))
 f338:=Tryz.func258.trans (congrArg some (by kernel_rfl))
 t0:=Tryz.underlying0
 a0:=Tryz.isAgg0
 z0:=Tryz.sizeOf0
 v0:=Tryz.zeroValue0
 t2:=Tryz.underlying2
 a2:=Tryz.isAgg2
 z2:=Tryz.sizeOf2
 v2:=Tryz.zeroValue2
 t3:=Tryz.underlying3
 a3:=Tryz.isAgg3
 z3:=Tryz.sizeOf3
 v3:=Tryz.zeroValue3
 t4:=Tryz.underlying4
 a4:=Tryz.isAgg4
 z4:=Tryz.sizeOf4
 v4:=Tryz.zeroValue4
 t5:=Tryz.underlying5
 a5:=Tryz.isAgg5
 z5:=Tryz.sizeOf5
 v5:=Tryz.zeroValue5
 t9:=Tryz.underlying9
 a9:=Tryz.isAgg9
 z9:=Tryz.sizeOf9
 v9:=Tryz.zeroValue9
 t20:=Tryz.underlying20
 a20:=Tryz.isAgg20
 z20:=Tryz.sizeOf20
 v20:=Tryz.zeroValue20
 t21:=Tryz.underlying21
 a21:=Tryz.isAgg21
 z21:=Tryz.sizeOf21
 v21:=Tryz.zeroValue21
 t37:=Tryz.underlying107
 a37:=Tryz.isAgg107
 z37:=Tryz.sizeOf107
 v37:=Tryz.zeroValue107
 t46:=Tryz.underlying197
 a46:=Tryz.isAgg197
 z46:=Tryz.sizeOf197
 v46:=Tryz.zeroValue197
 t51:=Tryz.underlying254
 a51:=Tryz.isAgg254
 z51:=Tryz.sizeOf254
 v51:=Tryz.zeroValue254
 t53:=Tryz.underlying182
 a53:=Tryz.isAgg182
 z53:=Tryz.sizeOf182
 v53:=Tryz.zeroValue182
 t75:=Tryz.underlying152
 a75:=Tryz.isAgg152
 z75:=Tryz.sizeOf152
 v75:=Tryz.zeroValue152
 t76:=Tryz.underlying153
 a76:=Tryz.isAgg153
 z76:=Tryz.sizeOf153
 v76:=Tryz.zeroValue153
 t85:=Tryz.underlying320
 a85:=Tryz.isAgg320
 z85:=Tryz.sizeOf320
 v85:=Tryz.zeroValue320
 t127:=Tryz.underlying217
 a127:=Tryz.isAgg217
 z127:=Tryz.sizeOf217
 v127:=Tryz.zeroValue217
 t143:=Tryz.underlying332
 a143:=Tryz.isAgg332
 z143:=Tryz.sizeOf332
 v143:=Tryz.zeroValue332
 t145:=Tryz.underlying334
 a145:=Tryz.isAgg334
 z145:=Tryz.sizeOf334
 v145:=Tryz.zeroValue334
 t167:=Tryz.underlying319
 a167:=Tryz.isAgg319
 z167:=Tryz.sizeOf319
 v167:=Tryz.zeroValue319
 t168:=Tryz.underlying322
 a168:=Tryz.isAgg322
 z168:=Tryz.sizeOf322
 v168:=Tryz.zeroValue322
 t171:=Tryz.underlying265
 a171:=Tryz.isAgg265
 z171:=Tryz.sizeOf265
 v171:=Tryz.zeroValue265
 t173:=Tryz.underlying267
 a173:=Tryz.isAgg267
 z173:=Tryz.sizeOf267
 v173:=Tryz.zeroValue267
 t175:=Tryz.underlying325
 a175:=Tryz.isAgg325
 z175:=Tryz.sizeOf325
 v175:=Tryz.zeroValue325
 t210:=Tryz.underlying329
 a210:=Tryz.isAgg329
 z210:=Tryz.sizeOf329
 v210:=Tryz.zeroValue329
 t212:=Tryz.underlying300
 a212:=Tryz.isAgg300
 z212:=Tryz.sizeOf300
 v212:=Tryz.zeroValue300
 t213:=Tryz.underlying301
 a213:=Tryz.isAgg301
 z213:=Tryz.sizeOf301
 t232:=Tryz.underlying317
 a232:=Tryz.isAgg317
 z232:=Tryz.sizeOf317
 v232:=Tryz.zeroValue317
 t233:=Tryz.underlying313
 a233:=Tryz.isAgg313
 z233:=Tryz.sizeOf313
 v233:=Tryz.zeroValue313
 g15:=by kernel_rfl
 g16:=by kernel_rfl
 g17:=by kernel_rfl
 g18:=by kernel_rfl
 g19:=by kernel_rfl }
open Go.RowKit in
theorem Tryz.strconv_Atoi (s:ByteArray) (n:Int) (hl:s.size≤18) (h:Lib.atoi s.data.toList=some n) (w:World) :
 Calls Tryz.prog 274 #[.string s] w fun e w'=>e=.returned (.tuple #[.int .i64 n,.nilIface])∧∃t,w'=Lib.bytesWorld w 5 t:=Any.strconv_Atoi Tryz.lays172 s n hl h w
def Tryz.laysM171_ren:Go.Shelf.Ren:=⟨fun | 171=>55 | 243=>109 | 246=>161 | 283=>224 | 284=>225 | 285=>226 | 286=>227 | 129=>210 | 317=>266 | 318=>267 | 319=>268 | 320=>269 | 337=>287 | 338=>258 | n=>n,fun | 3=>3 | 9=>9 | 2=>2 | 4=>4 | 171=>265 | 0=>0 | 53=>182 | 37=>107 | 5=>5 | 173=>267 | 212=>300 | 51=>254 | 20=>20 | 213=>301 | 46=>197 | 232=>317 | 233=>313 | n=>n,fun | 17=>0 | 18=>2 | 19=>1 | n=>n⟩
theorem Tryz.laysM171:Go.Proofs.LaysM.n171 Tryz.prog Tryz.laysM171_ren:={
 mixed:=by kernel_rfl
 f129:=Tryz.func210.trans (congrArg some (by kernel_rfl))
 f171:=Tryz.func55.trans (congrArg some (by kernel_rfl))
 f243:=Tryz.func109.trans (congrArg some (by kernel_rfl))
 f246:=Tryz.func161.trans (congrArg some (by kernel_rfl))
 f283:=Tryz.func224.trans (congrArg some (by kernel_rfl))
 f284:=Tryz.func225.trans (congrArg some (by kernel_rfl))
 f285:=Tryz.func226.trans (congrArg some (by kernel_rfl))
 f286:=Tryz.func227.trans (congrArg some (by kernel_rfl))
 f317:=Tryz.func266.trans (congrArg some (by kernel_rfl))
 f318:=Tryz.func267.trans (congrArg some (by kernel_rfl))
 f319:=Tryz.func268.trans (congrArg some (by kernel_rfl))
 f320:=Tryz.func269.trans (congrArg some (by kernel_rfl))
 f337:=Tryz.func287.trans (congrArg some (by kernel_rfl))
 f338:=Tryz.func258.trans (congrArg some (by kernel_rfl))
 t0:=Tryz.underlying0
 a0:=Tryz.isAgg0
 z0:=Tryz.sizeOf0
 v0:=Tryz.zeroValue0
 t2:=Tryz.underlying2
 a2:=Tryz.isAgg2
 z2:=Tryz.sizeOf2
 v2:=Tryz.zeroValue2
 t3:=Tryz.underlying3
 a3:=Tryz.isAgg3
 z3:=Tryz.sizeOf3
 v3:=Tryz.zeroValue3
 t4:=Tryz.underlying4
 a4:=Tryz.isAgg4
 z4:=Tryz.sizeOf4
 v4:=Tryz.zeroValue4
 t5:=Tryz.underlying5
 a5:=Tryz.isAgg5
 z5:=Tryz.sizeOf5
 v5:=Tryz.zeroValue5
 t9:=Tryz.underlying9
 a9:=Tryz.isAgg9
 z9:=Tryz.sizeOf9
 v9:=Tryz.zeroValue9
 t20:=Tryz.underlying20
 a20:=Tryz.isAgg20
 z20:=Tryz.sizeOf20
 v20:=Tryz.zeroValue20
 t37:=Tryz.underlying107
 a37:=Tryz.isAgg107
 z37:=Tryz.sizeOf107
 v37:=Tryz.zeroValue107
 t46:=Tryz.underlying197
 a46:=Tryz.isAgg197
 z46:=Tryz.sizeOf197
 v46:=Tryz.zeroValue197
 t51:=Tryz.underlying254
 a51:=Tryz.isAgg254
 z51:=Tryz.sizeOf254
 v51:=Tryz.zeroValue254
 t53:=Tryz.underlying182
 a53:=Tryz.isAgg182
 z53:=Tryz.sizeOf182
 v53:=Tryz.zeroValue182
 t171:=Tryz.underlying265
 a171:=Tryz.isAgg265
 z171:=Tryz.sizeOf265
 v171:=Tryz.zeroValue265
 t173:=Tryz.underlying267
 a173:=Tryz.isAgg267
 z173:=Tryz.sizeOf267
 v173:=Tryz.zeroValue267
 t212:=Tryz.underlying300
 a212:=Tryz.isAgg300
 z212:=Tryz.sizeOf300
 v212:=Tryz.zeroValue300
 t213:=Tryz.underlying301
 a213:=Tryz.isAgg301
 z213:=Tryz.sizeOf301
 t232:=Tryz.underlying317
 a232:=Tryz.isAgg317
 z232:=Tryz.sizeOf317
 v232:=Tryz.zeroValue317
 t233:=Tryz.underlying313
 a233:=Tryz.isAgg313
 z233:=Tryz.sizeOf313
 v233:=Tryz.zeroValue313
 g17:=by kernel_rfl
 g18:=by kernel_rfl
 g19:=by kernel_rfl
 i0:=by kernel_rfl
 i2:=by kernel_rfl
 i3:=by kernel_rfl
 i4:=by kernel_rfl
 i5:=by kernel_rfl
 i9:=by kernel_rfl
 i20:=by kernel_rfl
 i37:=by kernel_rfl
 i46:=by kernel_rfl
 i51:=by kernel_rfl
 i53:=by kernel_rfl
 i171:=by kernel_rfl
 i173:=by kernel_rfl
 i212:=by kernel_rfl
 i232:=by kernel_rfl
 i233:=by kernel_rfl
 m17:=by kernel_rfl
 m18:=by kernel_rfl
 m19:=by kernel_rfl }
open Go.RowKit Go.Sort Go.Lib in
theorem Tryz.strconv_Itoa (n:Int) (h0:-9223372036854775808≤n) (h1:n≤9223372036854775807) (w:World) (htab:Lib.TabIs Tryz.prog w "internal/strconv.uint64pow10" .u64 Lib.pow10Tab) :
 Calls Tryz.prog 55 #[.int .i64 n] w fun e w'=>e=.returned (.string ⟨(Lib.itoa n).toArray⟩)∧∃k os,w'=grow (w.drewN k) os:=Any.strconv_Itoa Tryz.laysM171 n h0 h1 w htab
end Go.Proofs
namespace Go.Proofs.YtdjbejlbmaiocagGreatDoor
open Go.RowKit
theorem zQb (c:UInt8) (h:48≤c.toNat∧c.toNat≤57):Lib.digitVal c=some (c.toNat - 48):=by
 unfold Lib.digitVal
 simp[h.1,h.2]
theorem zIH:∀(l:List UInt8) (n:Nat),(∀c∈l,48≤c.toNat∧c.toNat≤57)→∃k:Nat,Lib.decFrom n l=some k∧l.foldl (fun n c=>n * 10+((c.toNat:Int) - 48)) (n:Int)=(k:Int)
 | [],n,_=>⟨n,by simp[Lib.decFrom],rfl⟩
 | c :: l,n,h=>by
   have hc:=h c (List.mem_cons_self ..)
   obtain⟨k,h1,h2⟩:=zIH l (n * 10+(c.toNat - 48)) fun d hd=>h d (List.mem_cons_of_mem _ hd)
   refine⟨k,?_,?_⟩
   ·rw[Lib.decFrom,zQb c hc];exact h1
   ·simp only[List.foldl_cons]
    rw[←h2]
    congr 1
    omega
theorem zR9 (l:List UInt8) (h0:l≠[]) (h:∀c∈l,48≤c.toNat∧c.toNat≤57):Lib.atoi l=some (digV l):=by
 obtain⟨k,h1,h2⟩:=zIH l 0 h
 have hd:Lib.decNat l=some k:=by
  unfold Lib.decNat
  cases l with
  | nil=>exact absurd rfl h0
  | cons a l=>simpa using h1
 have hv:digV l=(k:Int):=h2
 rw[hv]
 cases l with
 | nil=>exact absurd rfl h0
 | cons a l =>
   have ha:=h a (List.mem_cons_self ..)
   have e1:(a==45)=false:=by
    rw[beq_eq_false_iff_ne]
    intro e
    subst e
    exact absurd ha.1 (by decide)
   have e2:(a==43)=false:=by
    rw[beq_eq_false_iff_ne]
    intro e
    subst e
    exact absurd ha.1 (by decide)
   simp only[Lib.atoi]
   rw[e1,e2,if_neg (by simp),if_neg (by simp),hd]
   rfl
theorem zJW (l:List UInt8) (h4:l.length≤4) (h:∀c∈l,48≤c.toNat∧c.toNat≤57):0≤digV l∧digV l≤9999:=by
 unfold digV
 match l,h4 with
 | [],_=>simp
 | [a],_=>have:=h a (by simp);simp;omega
 | [a,b],_=>have:=h a (by simp);have:=h b (by simp);simp;omega
 | [a,b,c],_=>have:=h a (by simp);have:=h b (by simp);have:=h c (by simp);simp;omega
 | [a,b,c,d],_=>have:=h a (by simp);have:=h b (by simp);have:=h c (by simp);have:=h d (by simp);simp;omega
theorem zNk (s:ByteArray) (h1:1≤s.size∧s.size≤4) (hd:∀c∈s.data.toList,48≤c.toNat∧c.toNat≤57) (w:World) :
 Calls Tryz.prog 274 #[.string s] w fun e w'=>e=.returned (.tuple #[.int .i64 (digV s.data.toList),.nilIface])∧Below w.heap.size w w':=by
 have hne:s.data.toList≠[]:=by
  intro e
  have:s.data.toList.length=0:=by rw[e];rfl
  have h2:s.data.toList.length=s.size:=Array.length_toList
  omega
 refine (Tryz.strconv_Atoi s _ (by omega) (zR9 _ hne hd) w).mono ?_
 rintro e w' ⟨rfl,t,rfl⟩
 exact⟨rfl,Lib.bytesWorld_below _ _ _⟩
theorem zQc {N R M:Nat} {en:Int} {w:World} {l:List Tok} (h:Rd N R M en w l) (hk:(zAI en l).kind=2):(1≤(zAI en l).text.size∧(zAI en l).text.size≤4)∧∀c∈(zAI en l).text.data.toList,48≤c.toNat∧c.toNat≤57:=by
 obtain⟨_,v,_,_,_,_,_,ht,_⟩:=h
 cases l with
 | nil=>exact absurd hk (by show ¬(0:Int)=2;decide)
 | cons t r=>exact (ht.2 t (List.mem_cons_self ..)).2 hk
theorem zLJ {en:Int} {l:List Tok} (h:((zAI en l).kind==2)=true):l≠[]:=by
 intro hl
 subst hl
 have h2:((0:Int)==2)=true:=h
 simp at h2
theorem zMk:zDH ⟨#[45]⟩:=by unfold zDH;simp[go_sem]
set_option maxHeartbeats 1600000 in
set_option maxRecDepth 100000 in
theorem zEF (N R M:Nat) (en:Int) (w:World) (l:List Tok) (h:Rd N R M en w l) :
 Calls Tryz.prog 238 #[.pointer (some ⟨R,0,none⟩)] w (zCU (zAJ en l) (fun i v _=>v=.int .i64 i∧-9999≤i∧i≤9999) N R M en (fun k=>k=R) w):=by
 have hf2:=zFs (zAI en l)
 have hf0:=zTH (zAI en l)
 have HB:Hid (Rd N R M en w l):=h
 obtain⟨P,hP⟩:∃P,zAJ en l=P:=⟨_,rfl⟩
 have HP:Hid (zAJ en l=P):=hP
 rw[hP]
 cases hm:((zAI en l).text.toList==[45])
 ·have HM:Hid (((zAI en l).text.toList==[45])=false):=hm
  cases hK:((zAI en l).kind==2)
  ·have HP2:Hid (P=(zBZ en false l).bind fun t r=>.ok (1 * digV t.text.data.toList) r):=by show _=_;rw[←hP];unfold zAJ;rw[hm,hK];rfl
   clear hP h
   go_enter Tryz.func238,Tryz.ntmps238
   go_wp2_with fail
   refine (zAS N R M en _ l HB.out).mono ?_
   rintro e w1 ⟨rfl,hb1⟩
   have HR1:Hid (Rd N R M en w1 l):=HB.out.below hb1
   have HF1:Hid (Fr (fun k=>k=R) w w1):=Fr.below hb1
   unfold tokA
   clear hb1
   go_wp2_with fail
   refine (zAS N R M en _ l HR1.out).mono ?_
   rintro e w2 ⟨rfl,hb2⟩
   have HR2:Hid (Rd N R M en w2 l):=HR1.out.below hb2
   have HF2:Hid (Fr (fun k=>k=R) w w2):=HF1.out.trans (Fr.below hb2)
   unfold tokA
   clear hb2 hm
   go_wp2_with fail
   refine (zCi N R M en false w2 l HR2.out (fun hb=>by cases hb)).mono ?_
   intro e w3 hp
   obtain⟨rfl,hfr⟩:=hp
   have hfr2:=HF2.out.trans hfr
   go_wp2
   exact⟨rfl,by rw[HP2.out];exact⟨rfl,hfr2⟩⟩
  ·have HP2:Hid (P=(zBZ en true l).bind fun t r=>.ok (1 * digV t.text.data.toList) r):=by show _=_;rw[←hP];unfold zAJ;rw[hm,hK];rfl
   have HL:Hid (l≠[]):=zLJ hK
   obtain⟨hd1,hd2⟩:=zQc h (by simpa using hK)
   have HD2:Hid (∀c∈(zAI en l).text.data.toList,48≤c.toNat∧c.toNat≤57):=hd2
   have HD1:Hid (1≤(zAI en l).text.size∧(zAI en l).text.size≤4):=hd1
   clear hP h hd1 hd2
   go_enter Tryz.func238,Tryz.ntmps238
   go_wp2_with fail
   refine (zAS N R M en _ l HB.out).mono ?_
   rintro e w1 ⟨rfl,hb1⟩
   have HR1:Hid (Rd N R M en w1 l):=HB.out.below hb1
   have HF1:Hid (Fr (fun k=>k=R) w w1):=Fr.below hb1
   unfold tokA
   clear hb1
   go_wp2_with fail
   refine (zAS N R M en _ l HR1.out).mono ?_
   rintro e w2 ⟨rfl,hb2⟩
   have HR2:Hid (Rd N R M en w2 l):=HR1.out.below hb2
   have HF2:Hid (Fr (fun k=>k=R) w w2):=HF1.out.trans (Fr.below hb2)
   unfold tokA
   clear hb2 hm
   go_wp2_with fail
   refine (zCi N R M en true w2 l HR2.out (fun _=>HL.out)).mono ?_
   intro e w3 hp
   obtain⟨v,rfl,rfl,hrd,hfr⟩:=hp
   have HFR:Hid (Fr (fun k=>k=R) w w3):=HF2.out.trans hfr
   have HRD:Hid (Rd N R M en w3 l.tail):=hrd
   clear hfr hrd
   unfold tokA
   go_wp2_with fail
   refine (zNk _ HD1.out HD2.out _).mono ?_
   rintro e w4 ⟨rfl,hb4⟩
   obtain⟨hv1,hv2⟩:=zJW (zAI en l).text.data.toList (by have:=HD1.out.2;have h2:(zAI en l).text.data.toList.length=(zAI en l).text.size:=Array.length_toList;omega) HD2.out
   obtain⟨V,hV⟩:∃V,digV (zAI en l).text.data.toList=V:=⟨_,rfl⟩
   have HV:Hid (digV (zAI en l).text.data.toList=V):=hV
   rw[hV] at hv1 hv2 ⊢
   have HR4:Hid (Rd N R M en w4 l.tail):=HRD.out.below hb4
   have HF4:Hid (Fr (fun k=>k=R) w w4):=HFR.out.trans (Fr.below hb4)
   clear hb4 hV
   go_wp2
   go_ret
   rw[HP2.out]
   exact⟨_,rfl,⟨by rw[HV.out,Int.one_mul];rfl,by rw[HV.out];omega,by rw[HV.out];omega⟩,HR4.out,HF4.out⟩
 ·have hmin:(⟨#[45]⟩:ByteArray).toList=[45]:=by simp[go_sem]
  have HSK:Hid (zAN en ⟨#[45]⟩ l=.ok (zAI en l) l.tail):=by show _=_;unfold zAN zBZ;rw[hmin,hm];rfl
  obtain⟨q,hq⟩:∃q,l.tail=q:=⟨_,rfl⟩
  have HQ:Hid (l.tail=q):=hq
  have hg2:=zFs (zAI en q)
  have hg0:=zTH (zAI en q)
  have HOKQ:Hid (∀t∈q,zLF t):=by
   obtain⟨_,v,_,_,_,_,_,ht,_⟩:=h
   intro t htq
   rw[←hq] at htq
   exact ht.2 t (List.mem_of_mem_tail htq)
  have HPQ:Hid (P=(zBZ en (((zAI en q).kind==2)&&(!((zAI en q).text.toList==[48]))) q).bind fun t r=>.ok (-1 * digV t.text.data.toList) r):=by
   show _=_;rw[←hP];unfold zAJ;rw[hm,if_pos rfl,HSK.out,←hq];rfl
  clear hP h hq hmin
  go_enter Tryz.func238,Tryz.ntmps238
  go_wp2_with fail
  refine (zAS N R M en _ l HB.out).mono ?_
  rintro e w1 ⟨rfl,hb1⟩
  have HR1:Hid (Rd N R M en w1 l):=HB.out.below hb1
  have HF1:Hid (Fr (fun k=>k=R) w w1):=Fr.below hb1
  unfold tokA
  clear hb1
  go_wp2_with fail
  refine (zAp N R M en ⟨#[45]⟩ zMk w1 l HR1.out).mono ?_
  intro e w2 hp
  rw[HSK.out] at hp
  obtain⟨v,rfl,rfl,hrd,hfr⟩:=hp
  have HR2:Hid (Rd N R M en w2 q):=by rw[←HQ.out];exact hrd
  have HF2:Hid (Fr (fun k=>k=R) w w2):=HF1.out.trans hfr
  clear hrd hfr hm hf0 hf2
  cases hK:((zAI en q).kind==2)
  ·have HP2:Hid (P=(zBZ en false q).bind fun t r=>.ok (-1 * digV t.text.data.toList) r):=by show _=_;rw[HPQ.out,hK];rfl
   go_wp2_with fail
   refine (zAS N R M en _ q HR2.out).mono ?_
   rintro e w3 ⟨rfl,hb3⟩
   have HR3:Hid (Rd N R M en w3 q):=HR2.out.below hb3
   have HF3:Hid (Fr (fun k=>k=R) w w3):=HF2.out.trans (Fr.below hb3)
   unfold tokA
   clear hb3
   go_wp2_with fail
   refine (zCi N R M en false w3 q HR3.out (fun hb=>by cases hb)).mono ?_
   intro e w4 hp
   obtain⟨rfl,hfr⟩:=hp
   have hfr2:=HF3.out.trans hfr
   go_wp2
   exact⟨rfl,by rw[HP2.out];exact⟨rfl,hfr2⟩⟩
  ·have HL:Hid (q≠[]):=zLJ hK
   have hd:(1≤(zAI en q).text.size∧(zAI en q).text.size≤4)∧∀c∈(zAI en q).text.data.toList,48≤c.toNat∧c.toNat≤57:=zQc HR2.out (by simpa using hK)
   have HD2:Hid (∀c∈(zAI en q).text.data.toList,48≤c.toNat∧c.toNat≤57):=hd.2
   have HD1:Hid (1≤(zAI en q).text.size∧(zAI en q).text.size≤4):=hd.1
   clear hd
   cases hz:((zAI en q).text.toList==[48])
   rotate_left
   ·have HP2:Hid (P=(zBZ en false q).bind fun t r=>.ok (-1 * digV t.text.data.toList) r):=by show _=_;rw[HPQ.out,hK,hz];rfl
    go_wp2_with fail
    refine (zAS N R M en _ q HR2.out).mono ?_
    rintro e w3 ⟨rfl,hb3⟩
    have HR3:Hid (Rd N R M en w3 q):=HR2.out.below hb3
    have HF3:Hid (Fr (fun k=>k=R) w w3):=HF2.out.trans (Fr.below hb3)
    unfold tokA
    clear hb3
    go_wp2_with fail
    refine (zAS N R M en _ q HR3.out).mono ?_
    rintro e w4 ⟨rfl,hb4⟩
    have HR4:Hid (Rd N R M en w4 q):=HR3.out.below hb4
    have HF4:Hid (Fr (fun k=>k=R) w w4):=HF3.out.trans (Fr.below hb4)
    unfold tokA
    clear hb4
    go_wp2_with fail
    refine (zCi N R M en false w4 q HR4.out (fun hb=>by cases hb)).mono ?_
    intro e w5 hp
    obtain⟨rfl,hfr⟩:=hp
    have hfr2:=HF4.out.trans hfr
    go_wp2
    exact⟨rfl,by rw[HP2.out];exact⟨rfl,hfr2⟩⟩
   ·have HP2:Hid (P=(zBZ en true q).bind fun t r=>.ok (-1 * digV t.text.data.toList) r):=by show _=_;rw[HPQ.out,hK,hz];rfl
    go_wp2_with fail
    refine (zAS N R M en _ q HR2.out).mono ?_
    rintro e w3 ⟨rfl,hb3⟩
    have HR3:Hid (Rd N R M en w3 q):=HR2.out.below hb3
    have HF3:Hid (Fr (fun k=>k=R) w w3):=HF2.out.trans (Fr.below hb3)
    unfold tokA
    clear hb3
    go_wp2_with fail
    refine (zAS N R M en _ q HR3.out).mono ?_
    rintro e w4 ⟨rfl,hb4⟩
    have HR4:Hid (Rd N R M en w4 q):=HR3.out.below hb4
    have HF4:Hid (Fr (fun k=>k=R) w w4):=HF3.out.trans (Fr.below hb4)
    unfold tokA
    clear hb4
    go_wp2_with fail
    refine (zCi N R M en true w4 q HR4.out (fun _=>HL.out)).mono ?_
    intro e w5 hp
    obtain⟨v,rfl,rfl,hrd,hfr⟩:=hp
    have HFR:Hid (Fr (fun k=>k=R) w w5):=HF4.out.trans hfr
    have HRD:Hid (Rd N R M en w5 q.tail):=hrd
    clear hfr hrd
    unfold tokA
    go_wp2_with fail
    refine (zNk _ HD1.out HD2.out _).mono ?_
    rintro e w6 ⟨rfl,hb6⟩
    obtain⟨hv1,hv2⟩:=zJW (zAI en q).text.data.toList (by have:=HD1.out.2;have h2:(zAI en q).text.data.toList.length=(zAI en q).text.size:=Array.length_toList;omega) HD2.out
    obtain⟨V,hV⟩:∃V,digV (zAI en q).text.data.toList=V:=⟨_,rfl⟩
    have HV:Hid (digV (zAI en q).text.data.toList=V):=hV
    rw[hV] at hv1 hv2 ⊢
    have HR6:Hid (Rd N R M en w6 q.tail):=HRD.out.below hb6
    have HF6:Hid (Fr (fun k=>k=R) w w6):=HFR.out.trans (Fr.below hb6)
    clear hb6 hV
    go_wp2
    go_ret
    rw[HP2.out]
    exact⟨_,rfl,⟨by rw[HV.out];first | rfl | (rw[Int.neg_one_mul];rfl),by rw[HV.out];omega,by rw[HV.out];omega⟩,HR6.out,HF6.out⟩
end Go.Proofs.YtdjbejlbmaiocagGreatDoor
