/- What the proof leans on, part 22. -/
import Derived.Test.YtdjbejlbmaiocafGreatDoorPartAo
import Derived.Test.YtdjbejlbmaiocafGreatDoorPartAa
import Derived.Shelf.Spec.TrailingZeros
import Derived.Test.YtdjbejlbmaiocafGreatDoorPartAu
import Derived.Test.YtdjbejlbmaiocafGreatDoorPartAi
import Derived.Test.YtdjbejlbmaiocafGreatDoorPartAc
namespace Go.Proofs.YtdjbejlbmaiocafGreatDoor
open Go.RowKit
def TabT (w:World):Prop:=TabAt 0 Lib.deBruijn64tab w
theorem TabT.below {w w':World} (h:TabT w) (hb:Below w.heap.size w w'):TabT w':=fun j hj=>by
 have:=h j hj
 exact (hb.cell (World.block_lt_of_cell? w _ this)).trans this
set_option maxHeartbeats 1000000 in
theorem zJN (x k idx:Nat) (w:World) (hx0:((x:Int)==0)=false)
 (key:IntKind.u64.wrap (bits BinOp.and IntKind.u64 (x:Int) (IntKind.u64.wrap (-(x:Int))) * 285870213051353865) / 288230376151711744=(idx:Int))
 (hi:idx<64) (hk:k<64) (hcell:w.cell? ⟨0,idx,none⟩=some (.int .u8 k)) :
 Calls Tryz.prog 236 #[.int .u64 x] w fun e w'=>e=.returned (.int .i64 k)∧w'=w:=by
 go_enter Tryz.func236,Tryz.ntmps236
 go_wp2_with (simp only[key])
 go_ret
 exact⟨rfl,rfl⟩
theorem zJO (w:World):Calls Tryz.prog 236 #[.int .u64 0] w fun e w'=>e=.returned (.int .i64 64)∧w'=w:=by
 go_enter Tryz.func236,Tryz.ntmps236
 go_wp2
 go_ret
 exact⟨rfl,rfl⟩
theorem zHc (x:Nat) (hx:x<18446744073709551616) (w:World) (hT:TabT w) :
 Calls Tryz.prog 236 #[.int .u64 x] w fun e w'=>e=.returned (.int .i64 (Lib.ctz 64 x))∧w'=w:=by
 by_cases hx0:x=0
 ·subst hx0
  exact zJO w
 ·obtain⟨hlow,hk⟩:=Lib.lowest_bit 64 x hx0 hx
  obtain⟨hi,htab⟩:=Lib.deBruijn64_at _ hk
  have hcell:=hT _ hi
  rw[htab] at hcell
  exact zJN x _ _ w (by simp;omega) (tz64_key x _ hx hx0 hlow) hi hk hcell
theorem zLi (k:Nat) (hk:k<8):IntKind.u64.wrap (63 * 2 ^ (k * 6))=((63 * 2 ^ (6 * k):Nat):Int):=by
 rw[IntKind.wrap_u64,Nat.mul_comm k 6]
 have:(2:Nat) ^ (6 * k)≤2 ^ 42:=Nat.pow_le_pow_right (by omega) (by omega)
 have e:(63:Int) * ((2:Int) ^ (6 * k))=((63 * 2 ^ (6 * k):Nat):Int):=by simp
 rw[e]
 exact Int.emod_eq_of_lt (by omega) (by omega)
set_option maxHeartbeats 400000 in
theorem zDO (p:Nat) (h0:p≠0) (hp:p<2 ^ 36) (w:World) (hT:TabT w) :
 Calls Tryz.prog 257 #[.int .u64 p] w fun e w'=>e=.returned (.int .u64 ((zAV p:Nat):Int))∧w'=w:=by
 have HT:Hid (TabT w):=hT
 have hc:=(zCg p h0 hp).2
 obtain⟨t,ht⟩:∃t,Lib.ctz 64 p=t:=⟨_,rfl⟩
 have HC:Hid (Lib.ctz 64 p=t):=ht
 rw[ht] at hc
 have HF:Hid (zAV p=63 * 2 ^ (6 * (t / 6))):=by show _=_;unfold zAV;rw[ht]
 have hs:=zLi (t / 6) (by omega)
 rw[HF.out]
 obtain⟨q,hq⟩:∃q,63 * 2 ^ (6 * (t / 6))=q:=⟨_,rfl⟩
 rw[hq] at hs ⊢
 have HP:Hid (p<2 ^ 36):=hp
 clear hT ht hq hp h0
 go_enter Tryz.func257,Tryz.ntmps257
 go_wp2_with fail
 refine (zHc p (by have:=HP.out;omega) _ HT.out).mono ?_
 rintro e w ⟨rfl,rfl⟩
 rw[HC.out]
 go_wp2
 go_ret
 exact⟨zAF hs,rfl⟩
theorem Tryz.infoLit:(Tryz.prog.info? 117).map (fun i=>(i.zero,i.size,i.bytes))=some (some (.agg #[.int .i64 0,.int .i64 0,.int .i64 0]),3,24):=by kernel_rfl
theorem Tryz.underClauseE:Tryz.prog.underlying 67=some (.slice 117):=by kernel_rfl
def zBq (t:MLit):List Value:=[.int .i64 t.var,.int .i64 t.op,.int .i64 t.n]
def zAv (l:Cla):List Value:=l.flatMap zBq
theorem zFJ (l:Cla):(zAv l).length=l.length * 3:=by
 induction l with
 | nil=>rfl
 | cons t r ih=>unfold zAv at *;rw[List.flatMap_cons,List.length_append,ih,List.length_cons];simp[zBq];omega
theorem zFK (l:Cla) (i:Nat) (t:MLit) (h:l[i]? = some t):(zAv l)[i * 3]? = some (.int .i64 t.var)∧(zAv l)[i * 3+1]? = some (.int .i64 t.op)∧(zAv l)[i * 3+2]? = some (.int .i64 t.n):=by
 induction l generalizing i with
 | nil=>cases h
 | cons a r ih =>
   unfold zAv at *
   rw[List.flatMap_cons]
   have hl:(zBq a).length=3:=rfl
   cases i with
   | zero=>cases h;exact⟨rfl,rfl,rfl⟩
   | succ i =>
     obtain⟨h1,h2,h3⟩:=ih i (by simpa using h)
     refine⟨?_,?_,?_⟩
     ·rw[List.getElem?_append_right (by rw[hl];omega),hl,show (i+1) * 3 - 3=i * 3 by omega];exact h1
     ·rw[List.getElem?_append_right (by rw[hl];omega),hl,show (i+1) * 3+1 - 3=i * 3+1 by omega];exact h2
     ·rw[List.getElem?_append_right (by rw[hl];omega),hl,show (i+1) * 3+2 - 3=i * 3+2 by omega];exact h3
def LOwn (base:Nat) (w:World) (v:Value) (l:Cla):Prop:=w.ownsRow base 117 3 v l.length (zAv l)
theorem LOwn.arg {base:Nat} {w:World} {v:Value} {l:Cla} (h:LOwn base w v l):LArg w v l:=by
 have h':w.ownsRow base 117 3 v l.length (zAv l):=h
 rcases h'.2 with ⟨rfl,hn⟩ | ⟨g,cap,cur,rfl,hg,hh,hc1,hc2,_,_⟩
 ·have:l=[]:=List.eq_nil_of_length_eq_zero hn
  subst this
  exact⟨none,0,rfl,⟨Nat.le_refl _,Nat.zero_le _⟩,fun i z hz=>by simp at hz⟩
 ·refine⟨_,cap,rfl,⟨hc1,hc2⟩,fun i t ht=>?_⟩
  have hi:i<l.length:=(List.getElem?_eq_some_iff.1 ht).1
  obtain⟨g1,g2,g3⟩:=zFK l i t ht
  exact⟨g,0,rfl,(Array.getElem?_eq_some_iff.1 hh).1,by rw[Nat.zero_add,h'.cellAt (i * 3) (by omega)];exact g1,by rw[Nat.zero_add,h'.cellAt (i * 3+1) (by omega)];exact g2,by rw[Nat.zero_add,h'.cellAt (i * 3+2) (by omega)];exact g3⟩
theorem zHd (w:World) (t:MLit):∀(j:Nat) (u:Value),(zBq t)[j]? = some u→(w.alloc (.cells #[.int .i64 t.var,.int .i64 t.op,.int .i64 t.n] 117)).cell? ((⟨w.heap.size,0,none⟩:Addr).add j)=some u:=by
 intro j u hj
 match j,hj with
 | 0,hj=>simp[zBq] at hj;subst hj;simp[Addr.add]
 | 1,hj=>simp[zBq] at hj;subst hj;simp[Addr.add]
 | 2,hj=>simp[zBq] at hj;subst hj;simp[Addr.add]
set_option maxHeartbeats 1600000 in
set_option maxRecDepth 100000 in
theorem zEg (vs:List MVar) (hva:zAH vs) (p:Nat) (hp:∀i,p.testBit i=true→(zAG vs).testBit i=true) (sv:Value) (w:World) (hv:VArg w sv vs) (hT:TabT w) :
 Calls Tryz.prog 199 #[sv,.int .u64 p] w fun e w'=>∃x,e=.returned x∧LOwn w.heap.size w' x (zA8 vs p)∧Below w.heap.size w w':=by
 have HVO:Hid (zAH vs):=hva
 have HT:Hid (∀w',Below w.heap.size w w'→TabT w'):=fun w' h=>hT.below h
 have HP36:Hid (p<2 ^ 36):=by
  show p<2 ^ 36
  apply Nat.lt_pow_two_of_testBit
  intro i hi
  cases hb:p.testBit i
  ·rfl
  ·have:=hp i hb
   unfold zAG at this
   rw[Nat.testBit_lt_two_pow (Nat.lt_of_lt_of_le (zDY vs hva.1 _) (Nat.pow_le_pow_right (by omega) hi))] at this
   cases this
 have HPW:Hid (∀i,p.testBit i=true→(zAG vs).testBit i=true):=hp
 obtain⟨a,c,rfl,hm,hr⟩:=hv
 have HV:Hid (∀(i:Nat) (t:MVar),vs[i]? = some t→t.name.size≤maxLen∧∃b off,a=some ⟨b,off,none⟩∧b<w.heap.size ∧
  w.cell? ⟨b,off+i * 3,none⟩=some (.string t.name)∧w.cell? ⟨b,off+i * 3+1,none⟩=some (.int .i64 t.lo)∧w.cell? ⟨b,off+i * 3+2,none⟩=some (.int .i64 t.hi)):=hr
 unfold maxLen at hm
 obtain⟨hm1,hm⟩:=hm
 have h6:=hva.1.1
 obtain⟨i0,hi,hz0,hz1,hz2⟩:=info_parts Tryz.infoLit
 clear hr hva hp hT
 go_enter Tryz.func199,Tryz.ntmps199
 go_wp2_with fail
 go_loopw [5,6] (fun v r wr=>∃(q:Nat) (done:Cla),r=.int .u64 (q:Int)∧LOwn w.heap.size wr v done∧Hid (zA8 vs p=done++zA8 vs q)∧Hid (q<2 ^ 36)∧Hid (∀i,q.testBit i=true→p.testBit i=true)∧Below w.heap.size w wr) (fun _ r _=>(intOf r).toNat)
 case atStart=>exact⟨p,[],rfl,World.ownsRow_nil _ _ _ _,rfl,HP36,fun _ h=>h,Below.refl _ _⟩
 case round =>
  obtain⟨q,done,rfl,hown,hsp,hq36,hqs,hbw⟩:=hrel
  have HOW:Hid (LOwn w.heap.size wr u5 done):=hown
  have HBW:Hid (Below w.heap.size w wr):=hbw
  obtain⟨ao,co,rfl⟩:=zAC (show wr.ownsRow _ _ _ _ _ _ from hown)
  clear hown hbw
  by_cases hq0:q=0
  ·subst hq0
   have HE:Hid (LOwn w.heap.size wr (.slice ao (List.length done) co) (zA8 vs p)):=by
    have:zA8 vs p=done:=by rw[hsp.out];simp[zA8,zH2]
    rw[this];exact HOW.out
   clear hsp hqs
   go_wp2
   go_ret
   exact⟨_,rfl,HE.out,HBW.out⟩
  ·obtain⟨hst,hk36⟩:=zCg q hq0 hq36.out
   obtain⟨k,hk⟩:∃k,Lib.ctz 64 q=k:=⟨_,rfl⟩
   have hbits:=zDE q hq0 (by have:=hq36.out;omega)
   have hless:=zD4 q hq0 (by have:=hq36.out;omega)
   obtain⟨q2,hq2⟩:∃q2,q &&& (q - 1)=q2:=⟨_,rfl⟩
   have HQS:Hid (∀i,q2.testBit i=true→p.testBit i=true):=fun i hi=>by
    rw[←hq2,(hbits i).2.2,Bool.and_eq_true] at hi
    exact hqs.out i hi.1
   have hkb:=(hbits k).2.1 hk.symm
   have hkw:=HPW.out k (hqs.out k hkb)
   unfold zAG ofP at hkw
   rw[zAf vs HVO.out.1] at hkw
   simp only[Bool.and_eq_true,decide_eq_true_eq] at hkw
   have hkl:k / 6<vs.length:=hkw.1
   have hbn:=HVO.out.2 (k / 6) hkl
   obtain⟨lo,hlo⟩:∃lo,(zAE vs (k / 6)).lo=lo:=⟨_,rfl⟩
   have HN:Hid (zA8 vs p=(done++[⟨((k / 6:Nat):Int),3,lo+((k % 6:Nat):Int)⟩])++zA8 vs q2):=by
    show _=_
    rw[hsp.out,List.append_assoc]
    congr 1
    unfold zA8
    rw[hst,hk,hq2,List.map_cons,hlo];rfl
   rw[hk] at hk36
   rw[hq2] at hless
   obtain⟨_,b,off,hax,hb,_,c1,_⟩:=HV.out (k / 6) _ (zFH hkl)
   subst hax
   have hc1:=(HBW.out.cell (p:=⟨b,off+k / 6 * 3+1,none⟩) hb).trans c1
   rw[hlo] at hc1 hbn
   have HK:Hid (Lib.ctz 64 q=k):=hk
   have hdl:done.length≤36:=by
    have h1:=zCh vs p
    rw[hsp.out,List.length_append] at h1
    omega
   have HQ36:Hid (q<2 ^ 36):=hq36.out
   have HQ2:Hid (q2<2 ^ 36):=by have:=hq36.out;show _<_;omega
   have hsub:IntKind.u64.wrap ((q:Int) - 1)=((q - 1:Nat):Int):=by rw[IntKind.wrap_u64];have:=hq36.out;omega
   have hand:=bits_and_u64_nat q (q - 1) (by have:=hq36.out;omega) (by have:=hq36.out;omega)
   rw[hq2] at hand
   have hne:((q:Int) != 0)=true:=by simpa using hq0
   have HLS:Hid (q2<q):=hless
   have hsm:-100≤lo+((k % 6:Nat):Int)∧lo+((k % 6:Nat):Int)≤100:=by omega
   clear hst hbits hqs hq36 hkb hkw hsp hlo hq2 hk c1 hless hq0
   go_wp2_with fail
   refine (zHc q (by have:=HQ36.out;omega) _ (HT.out _ HBW.out)).mono ?_
   rintro e w1 ⟨rfl,rfl⟩
   rw[HK.out]
   obtain⟨t,ht⟩:∃t:MLit,t=⟨(k:Int) / 6,3,lo+(k:Int) % 6⟩:=⟨_,rfl⟩
   have hown:w1.ownsRow w.heap.size 117 3 (.slice ao (List.length done) co) (List.length done) (zAv done):=HOW.out
   have HN2:Hid (zA8 vs p=(done++[t])++zA8 vs q2):=by show _=_;rw[ht];exact HN.out
   have hbs:=HBW.out.size
   go_wp2_with (at_builtin;refine wpList_append_own _ rfl _ _ 67 rfl w.heap.size 117 i0 (.agg #[.int .i64 0,.int .i64 0,.int .i64 0]) 3 24 Tryz.underClauseE hi hz0 hz1 hz2 rfl (by decide) _ _ _ rfl (hown.alloc _) ⟨w1.heap.size,0,none⟩ 1 1 (zBq ⟨(k:Int) / 6,3,lo+(k:Int) % 6⟩) rfl rfl ?c1 ?c2 ?c3 ?c4 ?c5 ?_)
   case c1=>exact zHd w1 ⟨(k:Int) / 6,3,lo+(k:Int) % 6⟩
   case c2=>intro u hu;simp[zBq] at hu;rcases hu with rfl | rfl | rfl <;> rfl
   case c3=>unfold maxLen;omega
   case c4=>omega
   case c5=>simp;omega
   intro v3 w3 hown3 hgrow _
   have HOW3:Hid (LOwn w.heap.size w3 v3 (done++[t])):=by
    show World.ownsRow _ _ _ _ _ _ _
    unfold zAv
    rw[List.length_append,List.flatMap_append,ht]
    simpa[zAv] using hown3
   have HB3:Hid (Below w.heap.size w w3):=(HBW.out.alloc hbs _).grown hgrow (by simp;omega) (fun g h=>(hown.lt g h).1)
   clear hown3 hgrow hown hc1
   go_wp2
   go_roundw
   case rel=>exact⟨q2,done++[t],rfl,HOW3.out,HN2,HQ2,HQS,HB3.out⟩
   case measure=>simp[intOf];exact HLS.out
theorem Tryz.infoInts:(Tryz.prog.info? 26).map (fun i=>(i.zero,i.size,i.bytes))=some (some (.slice none 0 0),1,24):=by kernel_rfl
theorem Tryz.infoInt:(Tryz.prog.info? 3).map (fun i=>(i.zero,i.size,i.bytes))=some (some (.int .i64 0),1,8):=by kernel_rfl
theorem Tryz.underStore:Tryz.prog.underlying 51=some (.slice 26):=by kernel_rfl
theorem zIG (n:Nat) (hn:n≤6) (w:World):∃w',Sem.run Tryz.prog (Instr.makeSlice 51 (.int .i64 (n:Int)) (.int .i64 (n:Int))) w=.ok (.slice (some ⟨w.heap.size,0,none⟩) n n) w' ∧
 (∀M,zG2 w' w.heap.size w.heap.size n (List.replicate n (.slice none 0 0)) M 0)∧Below w.heap.size w w':=by
 obtain⟨i0,hi,hz0,hz1,hz2⟩:=info_parts Tryz.infoInts
 obtain⟨w',hrun,hown,hg⟩:=run_makeSlice_full w w.heap.size 51 26 i0 (.slice none 0 0) 1 Tryz.underStore hi hz0 hz1 .i64 .i64 n (by omega) (by rw[hz2];omega) (by unfold maxLen;omega) (Nat.le_refl _)
 refine⟨w',hrun,fun M=>⟨?_,fun i r hi=>absurd hi (Nat.not_lt_zero _),fun i _ hn=>by simp[hn]⟩,(Below.refl _ _).grown hg (Nat.le_refl _) (fun k h=>by cases h)⟩
 have:(Value.slice none 0 0).cells=#[.slice none 0 0]:=rfl
 rw[this,Nat.mul_one,toList_madeCells_one] at hown
 exact hown
theorem zKV (w:World) (z:Int):∀(j:Nat) (u:Value),[Value.int .i64 z][j]? = some u→(w.alloc (.cells #[.int .i64 z] 3)).cell? ((⟨w.heap.size,0,none⟩:Addr).add j)=some u:=by
 intro j u hj
 match j,hj with
 | 0,hj=>simp at hj;subst hj;simp[Addr.add]
structure Fr (X:Nat→Prop) (w w':World):Prop where
 os:w'.os=w.os
 tape:w'.tape=w.tape
 output:w'.output=w.output
 size:w.heap.size≤w'.heap.size
 block:∀k,k<w.heap.size→¬X k→w'.heap[k]? = w.heap[k]?
theorem Fr.refl (X:Nat→Prop) (w:World):Fr X w w:=⟨rfl,rfl,rfl,Nat.le_refl _,fun _ _ _=>rfl⟩
theorem Fr.trans {X:Nat→Prop} {a b c:World} (h:Fr X a b) (k:Fr X b c):Fr X a c :=
 ⟨k.os.trans h.os,k.tape.trans h.tape,k.output.trans h.output,Nat.le_trans h.size k.size,fun i hi hx=>(k.block i (Nat.lt_of_lt_of_le hi h.size) hx).trans (h.block i hi hx)⟩
theorem Fr.below {X:Nat→Prop} {w w':World} (h:Below w.heap.size w w'):Fr X w w':=⟨h.os,h.tape,h.output,h.size,fun k hk _=>h.block k hk⟩
theorem Fr.cell {X:Nat→Prop} {w w':World} (h:Fr X w w') {p:Addr} (hp:p.block<w.heap.size) (hx:¬X p.block):w'.cell? p=w.cell? p:=World.cell?_of_block (w:=w) (h.block p.block hp hx)
theorem Fr.setX {X:Nat→Prop} {a w:World} (h:Fr X a w) {p:Addr} (hp:X p.block) (u:Value):Fr X a (w.setCell p u) :=
 ⟨h.os,h.tape,h.output,by simpa using h.size,fun k hk hx=>(Below.heap_setCell _ _ _ _ (fun e=>hx (by rw[e];exact hp))).trans (h.block k hk hx)⟩
theorem Fr.setNew {X:Nat→Prop} {a w:World} (h:Fr X a w) {p:Addr} (hp:a.heap.size≤p.block) (u:Value):Fr X a (w.setCell p u) :=
 ⟨h.os,h.tape,h.output,by simpa using h.size,fun k hk hx=>(Below.heap_setCell _ _ _ _ (by omega)).trans (h.block k hk hx)⟩
theorem Fr.alloc {X:Nat→Prop} {a w:World} (h:Fr X a w) (o:Obj):Fr X a (w.alloc o):=h.trans (Fr.below (zAA _ _))
theorem blk9 {w:World} {b:Nat} {cs:Array Value} {t:TypeId} (h:w.heap[b]? = some (.cells cs t)) (i:Nat) (v:Value) (hv:cs[i]? = some v):w.cell? ⟨b,i,none⟩=some v:=by
 rw[Lib.cell_of_heap h];exact hv
theorem frz9 {w:World} {b:Nat} {cs:Array Value} {t:TypeId} (h:w.heap[b]? = some (.cells cs t)) (i:Nat):w.frozen? ⟨b,i,none⟩=false:=by
 unfold World.frozen?
 simp only[h]
 simp
theorem zB1 {w:World} {B:Nat} {e t:TypeId} {size n:Nat} {v:Value} {xs:List Value} (h:w.ownsRow B e size v n xs) {C:Nat} {cs:Array Value} (hC:w.heap[C]? = some (.cells cs t)) (ht:t≠e) (i:Nat) (u:Value):(w.setCell ⟨C,i,none⟩ u).ownsRow B e size v n xs:=by
 refine⟨h.1,?_⟩
 rcases h.2 with hn | ⟨g,cap,cur,hv,hg,hh,r⟩
 ·exact .inl hn
 ·have hne:g≠C:=by
   intro e1
   rw[e1,hC] at hh
   injection hh with h1
   injection h1 with _ h2
   exact ht h2
  exact .inr ⟨g,cap,cur,hv,hg,(Below.heap_setCell _ _ _ _ hne).trans hh,r⟩
theorem Fr.grown {X:Nat→Prop} {a w w':World} {row:Option Nat} (h:Fr X a w) (hg:w.grownBy w' row) (hr:∀k,row=some k→X k∨a.heap.size≤k):Fr X a w' :=
 ⟨hg.os.trans h.os,hg.tape.trans h.tape,hg.output.trans h.output,Nat.le_trans h.size hg.size,fun k hk hx=>(hg.block k (Nat.lt_of_lt_of_le hk h.size) (fun e=>(hr k e.symm).elim hx (fun h2=>by omega))).trans (h.block k hk hx)⟩
theorem zBm {w:World} {B B':Nat} {e e':TypeId} {s s' n n':Nat} {v v':Value} {xs xs':List Value} (h:w.ownsRow B e s v n xs) (h':w.ownsRow B' e' s' v' n' xs') (hne:e≠e'):v.ownBlock=none∨v.ownBlock≠v'.ownBlock:=by
 rcases h.2 with ⟨rfl,_⟩ | ⟨g,cap,cur,rfl,hg,hh,_⟩
 ·exact Or.inl rfl
 ·right
  intro he
  rcases h'.2 with ⟨rfl,_⟩ | ⟨g',cap',cur',rfl,hg',hh',_⟩
  ·cases he
  ·have:g=g':=by injection he
   subst this
   rw[hh] at hh'
   injection hh' with h1
   injection h1 with _ h2
   exact hne h2
theorem zAi {w w':World} {B B':Nat} {e e':TypeId} {s s' n n':Nat} {v v':Value} {xs xs':List Value} (h:w.ownsRow B e s v n xs) (hg:w.grownBy w' v'.ownBlock) (h':w.ownsRow B' e' s' v' n' xs') (hne:e≠e'):w'.ownsRow B e s v n xs :=
 h.kept hg (zBm h h' hne)
theorem zAq {w w':World} {B:Nat} {e:TypeId} {s n:Nat} {v:Value} {xs:List Value} {r:Nat} {cs:Array Value} {t:TypeId} (h:w.heap[r]? = some (.cells cs t)) (hg:w.grownBy w' v.ownBlock) (h':w.ownsRow B e s v n xs) (hne:t≠e):w'.heap[r]? = some (.cells cs t):=by
 have hlt:r<w.heap.size:=(Array.getElem?_eq_some_iff.1 h).1
 refine (hg.block r hlt ?_).trans h
 ·intro he
  rcases h'.2 with ⟨rfl,_⟩ | ⟨g,cap,cur,rfl,_,hh,_⟩
  ·cases he
  ·have:g=r:=by injection he with e1;exact e1.symm
   subst this
   rw[hh] at h
   injection h with h1
   injection h1 with _ h2
   exact hne h2.symm
end Go.Proofs.YtdjbejlbmaiocafGreatDoor
