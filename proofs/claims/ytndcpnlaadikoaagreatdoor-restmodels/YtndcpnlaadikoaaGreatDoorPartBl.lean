/- What the proof leans on, part 38. -/
import Derived.Test.YtndcpnlaadikoaaGreatDoorPartBk
import Derived.Test.YtndcpnlaadikoaaGreatDoorPartAf
import Derived.Lib.AppendIntMem
import Derived.Deep.OwnRows
set_option maxRecDepth 100000
set_option maxHeartbeats 2000000
namespace Go.Proofs.YtndcpnlaadikoaaGreatDoor
open Go.RowKit
def TabN (N:Nat) (w:World):Prop:=Lib.TabIs Tryz.prog w "internal/strconv.uint64pow10" .u64 Lib.pow10Tab∧∀g,Tryz.prog.globalNamed "internal/strconv.uint64pow10" = some g→g<N
theorem TabN.fr {X:Nat→Prop} {N:Nat} {w w':World} (h:TabN N w) (hf:Fr X w w') (hX:∀k,X k→N≤k):TabN N w':=by
 refine⟨?_,h.2⟩;have h1:=h.1;unfold Lib.TabIs World.var? at h1 ⊢;cases hg:Tryz.prog.globalNamed "internal/strconv.uint64pow10" with
 | none=>rw[hg] at h1;exact h1
 | some g =>
   rw[hg] at h1;have hlt:g<w.heap.size:=by
    rcases Nat.lt_or_ge g w.heap.size with h' | h'
    ·exact h'
    ·simp[Array.getElem?_eq_none h'] at h1
   have hb:=hf.block g hlt (fun hx=>by have:=hX g hx;have:=h.2 g hg;omega)
   simp only[Option.bind_some] at h1 ⊢;rw[hb];exact h1
theorem TabN.below {N:Nat} {w w':World} (h:TabN N w) (hb:Below w.heap.size w w'):TabN N w':=h.fr (X:=fun _=>False) (Fr.below hb) (fun _ hk=>hk.elim)
def numB (n:Int):ByteArray:=⟨(Lib.itoa n).toArray⟩
def okI (n:Int):Prop:=-9223372036854775808≤n∧n≤9223372036854775807
theorem zDQ (N:Nat) (n:Int) (hn:okI n) (w:World) (ht:TabN N w) :
 Calls Tryz.prog 188 #[.int .i64 n] w fun e w'=>e=.returned (.string (numB n))∧Below w.heap.size w w':=by
 have HT:=ht.1;obtain⟨h0,h1⟩:=hn;go_enter Tryz.func188,Tryz.ntmps188
 go_wp2_with fail
 refine (Tryz.strconv_Itoa n h0 h1 w HT).mono ?_;rintro e w1 ⟨rfl,k,os,hw⟩;have hb:Below w.heap.size w w1:=by rw[hw];exact Lib.below_grow w.heap.size w (Nat.le_refl _) k os
 clear hw;go_wp2
 go_ret
 exact⟨rfl,hb⟩
theorem zJv (b:Nat) (w:World) (h0:w.cell? ⟨b,0,none⟩=some (.pointer (some ⟨b,0,none⟩))) :
 Calls Tryz.prog 239 #[.pointer (some ⟨b,0,none⟩)] w fun e w'=>e=.returned (.tuple #[])∧w'=w:=by
 obtain⟨j,hj,_⟩:=Option.map_eq_some_iff.1 Tryz.Builder_Extra_169.sizeBuilder;go_enter Tryz.func239,Tryz.ntmps239
 go_wp2
 rw[Lib.run_neq_ptr_same w _ Tryz.underlying176 hj];go_wp2
 go_end0
 exact⟨rfl,rfl⟩
theorem Tryz.liesPrinter:liesAt Tryz.prog Tryz.prog.depth 181 (3 / Tryz.prog.cellsOf 181) 0 179 1=true:=by kernel_rfl
theorem zIQ (b:Nat) (w:World) (h0:w.cell? ⟨b,0,none⟩=some (.pointer none)) (hsh:w.shape? b=some (181,3)) (hfz:w.frozen? ⟨b,0,none⟩=false) :
 Calls Tryz.prog 239 #[.pointer (some ⟨b,0,none⟩)] w fun e w'=>e=.returned (.tuple #[])∧w'=w.setCell ⟨b,0,none⟩ (.pointer (some ⟨b,0,none⟩)):=by
 obtain⟨j,hj,hjs⟩:=Option.map_eq_some_iff.1 Tryz.Builder_Extra_169.sizeBuilder;go_enter Tryz.func239,Tryz.ntmps239
 go_wp2
 rw[Lib.run_to_unsafe w ⟨b,0,none⟩ Tryz.underlying176 Tryz.underlying309 hj (by rw[hjs];decide) hsh (Nat.zero_lt_succ 2)]
 simp only[Result.andThen];rw[Oper.upon_value];go_wp2
 rw[run_callFunc_extern Tryz.func274 (by kernel_rfl) (by kernel_rfl) (by kernel_rfl) (e:=Extern.AbiNoEscape.same) (by kernel_rfl)]
 rw[Lib.run_noEscape];simp only[Result.andThen];rw[Oper.upon_value];go_wp2
 rw[Lib.run_from_unsafe w ⟨b,0,none⟩ Tryz.underlying309 Tryz.underlying176 hj hsh Tryz.liesPrinter];simp only[Result.andThen];rw[Oper.upon_value];go_wp2
 go_end0
 exact⟨rfl,rfl⟩
structure PrS (N B b:Nat) (vsl:Value) (l:List UInt8) (w:World):Prop where
 nb:N≤b
 bB:b<B
 Bw:B≤w.heap.size
 tab:TabN N w
 blk:∃p buf,(p=.pointer none∨p=.pointer (some ⟨b,0,none⟩))∧w.heap[b]? = some (.cells #[p,buf,vsl] 181)∧w.ownsRow B 5 1 buf l.length (Lib.byteCells l)
abbrev XBB (b B:Nat):Nat→Prop:=fun k=>k=b∨B≤k
theorem PrS.below {N B b:Nat} {vsl:Value} {l:List UInt8} {w w':World} (h:PrS N B b vsl l w) (hb:Below w.heap.size w w'):PrS N B b vsl l w':=by
 obtain⟨h1,h2,h3,h4,p,buf,hp,hk,ho⟩:=h;exact⟨h1,h2,Nat.le_trans h3 hb.size,h4.below hb,p,buf,hp,(hb.block b (by omega)).trans hk,zAB ho hb⟩
theorem zJw (a b:List UInt8):Lib.byteCells (a++b)=Lib.byteCells a++Lib.byteCells b:=by unfold Lib.byteCells;rw[List.map_append]
theorem zJE (N B b:Nat) (vsl:Value) (l:List UInt8) (s:ByteArray) (w:World) (h:PrS N B b vsl l w) (hlen:l.length+s.size≤140737488355328) :
 Calls Tryz.prog 176 #[.pointer (some ⟨b,0,none⟩),.string s] w fun e w'=>e=.returned (.tuple #[.int .i64 s.size,.nilIface])∧PrS N B b vsl (l++s.data.toList) w'∧Fr (XBB b B) w w':=by
 obtain⟨i0,hi,hz0,hz1,hz2⟩:=info_parts Tryz.Builder_Extra_169.infoByte;have HCK:Hid (Calls Tryz.prog 239 #[.pointer (some ⟨b,0,none⟩)] w fun e w'=>e=.returned (.tuple #[])∧(∃buf,w'.heap[b]? = some (.cells #[.pointer (some ⟨b,0,none⟩),buf,vsl] 181)∧w'.ownsRow B 5 1 buf l.length (Lib.byteCells l))∧Fr (XBB b B) w w'):=by
  obtain⟨h1,h2,h3,h4,p,buf,hp,hk,ho⟩:=h;rcases hp with rfl | rfl
  ·refine (zIQ b w (blk9 hk 0 _ rfl) (by simp[World.shape?,hk]) (frz9 hk 0)).mono ?_
   rintro e w' ⟨rfl,rfl⟩;refine⟨rfl,⟨buf,?_,zAX ho hk (by decide) 0 _⟩,(Fr.refl _ _).setX (p:=⟨b,0,none⟩) (Or.inl rfl) _⟩
   rw[heap_setCell_same w b 0 _ _ _ hk];rfl
  ·refine (zJv b w (blk9 hk 0 _ rfl)).mono ?_
   rintro e w' ⟨rfl,rfl⟩;exact⟨rfl,⟨buf,hk,ho⟩,Fr.refl _ _⟩
 have HP:Hid (PrS N B b vsl l w):=h;clear h;go_enter Tryz.func176,Tryz.ntmps176
 go_wp2_with fail
 refine HCK.out.mono ?_;rintro e w1 ⟨rfl,⟨v,hbk,hown⟩,hf1⟩;have c1:w1.cell? ⟨b,1,none⟩=some v:=blk9 hbk 1 _ rfl;have HB1:Hid (B≤w1.heap.size):=Nat.le_trans HP.out.Bw hf1.size;obtain⟨av,cv,hv⟩:=zAC hown;subst hv;go_wp2_with (at_builtin;refine Lib.wpList_append_own_string _ rfl _ _ 177 9 rfl B 5 i0 Tryz.underlying177 Tryz.underlying9 hi hz0 hz1 hz2 _ _ _ rfl hown s rfl ?c3 ?c4 ?c5 ?_)
 case c3=>unfold maxLen;omega
 case c4=>omega
 case c5=>exact HB1.out
 intro v' w2 hown' hgrow _;have hlt:b<w1.heap.size:=(Array.getElem?_eq_some_iff.1 hbk).1;have hne:∀k,(Value.slice av l.length cv).ownBlock=some k→B≤k:=fun k hk=>(hown.lt k hk).1
 have hbB:=HP.out.bB;have hb2:w2.heap[b]? = some (.cells #[.pointer (some ⟨b,0,none⟩),.slice av l.length cv,vsl] 181):=by
  rw[hgrow.block b hlt (fun e=>by have:=hne b e.symm;omega)]
  exact hbk
 have d1:w2.cell? ⟨b,1,none⟩=some (.slice av l.length cv):=blk9 hb2 1 _ rfl;have f1:w2.frozen? ⟨b,1,none⟩=false:=frz9 hb2 1;obtain⟨ao,cap,hv'⟩:=zAC hown';subst hv';have HE:Hid (PrS N B b vsl (l++s.data.toList) (w2.setCell ⟨b,1,none⟩ (.slice ao (l.length+s.size) cap))∧Fr (XBB b B) w (w2.setCell ⟨b,1,none⟩ (.slice ao (l.length+s.size) cap))):=by
  have hfr2:Fr (XBB b B) w (w2.setCell ⟨b,1,none⟩ (.slice ao (l.length+s.size) cap)):=(hf1.grown hgrow (fun k hk=>Or.inl (Or.inr (hne k hk)))).setX (p:=⟨b,1,none⟩) (Or.inl rfl) _
  have hN:∀k,XBB b B k→N≤k:=fun k hk=>by have:=HP.out.nb;rcases hk with rfl | hk <;> omega
  refine⟨⟨HP.out.nb,HP.out.bB,Nat.le_trans HP.out.Bw hfr2.size,HP.out.tab.fr hfr2 hN,.pointer (some ⟨b,0,none⟩),.slice ao (l.length+s.size) cap,Or.inr rfl,?_,?_⟩,hfr2⟩
  ·exact (heap_setCell_same w2 b 1 _ _ _ hb2).trans rfl
  ·rw[zJw,List.length_append,zA0]
   exact zAX hown' hb2 (by decide) 1 _
 clear hown hown' hgrow hne hf1 hbk hb2;go_wp2
 go_ret2
 exact⟨rfl,HE.out.1,HE.out.2⟩
def zBW (xs:List ByteArray) (sep:List UInt8):List UInt8:=Lib.join (xs.map (·.data.toList)) sep
theorem zEn (xs:List ByteArray) (v:Value) (sep:ByteArray) (w:World) (hv:SArg w v xs) (hlen:(zBW xs sep.data.toList).length≤140737488355328) (hx:xs.length≤100000) :
 Calls Tryz.prog 245 #[v,.string sep] w fun e w'=>e=.returned (.string ⟨(zBW xs sep.data.toList).toArray⟩)∧Below w.heap.size w w':=by
 obtain⟨a,c,rfl,hm,hc⟩:=hv;cases xs with
 | nil =>
   refine (Tryz.strings_Join_none a c sep w).mono ?_;rintro e w' ⟨rfl,rfl⟩;exact⟨rfl,Below.refl _ _⟩
 | cons x r =>
   obtain⟨bk,off,rfl,hlt,_⟩:=hc 0 x rfl;refine Tryz.strings_Join bk off c (x :: r) sep w (fun j y hy=>?_) hlt (by omega) hm.1 hlen
   obtain⟨bk',off',he,_,h2⟩:=hc j y hy;cases he
   exact h2
def zE4 (xs:List ByteArray):List UInt8:=zBW xs [32]++[59,10]
theorem zF2 (N B b:Nat) (vsl:Value) (l:List UInt8) (xs:List ByteArray) (v:Value) (w:World) (h:PrS N B b vsl l w) (hv:SArg w v xs) (hx:xs.length≤1000) (hj:(zBW xs [32]).length≤1000000) (hl:l.length≤100000000) :
 Calls Tryz.prog 187 #[.pointer (some ⟨b,0,none⟩),v] w fun e w'=>e=.returned (.tuple #[])∧PrS N B b vsl (l++zE4 xs) w'∧Fr (XBB b B) w w':=by
 have HP:Hid (PrS N B b vsl l w):=h;have HV:Hid (SArg w v xs):=hv;have HLS:Hid (l++(zBW xs [32])++[59,10]=l++zE4 xs):=by show _=_;unfold zE4;rw[List.append_assoc]
 obtain⟨av,cv,rfl,_,_⟩:=hv;have hjc:=zEn xs _ ⟨#[32]⟩ w.drew (HV.out.below (Below.refl _ _).drew) (by show (zBW xs [32]).length≤_;omega) (by omega)
 obtain⟨J,hJ⟩:∃J,zBW xs [32]=J:=⟨_,rfl⟩;have hJ2:zBW xs (⟨#[32]⟩:ByteArray).data.toList=J:=hJ;rw[hJ2] at hjc;rw[hJ] at hj HLS;clear h hJ hJ2;go_enter Tryz.func187,Tryz.ntmps187
 go_wp2_with fail
 go_region_held3 (fun _=>True) (trivial)
  (first
    | (go_at_call 245;refine hjc.mono ?_;rintro e w1 ⟨rfl,hb1⟩;have HP1:=(HP.out.below (Below.refl _ _).drew).below hb1)
    | (go_at_call 176;refine (zJE N B b vsl l _ _ HP1 (by show l.length+J.toArray.size≤_;simp;omega)).mono ?_;rintro e w2 ⟨rfl,hp2,hf2⟩))
 have HP2:Hid (PrS N B b vsl (l++J) w2):=hp2;have HF2:Hid (Fr (XBB b B) w w2):=((Fr.below (Below.refl _ _).drew).trans (Fr.below hb1)).trans hf2;clear hjc HP1 hp2 hf2 hb1;go_wp2_with fail
 refine (zJE N B b vsl (l++J) _ _ HP2.out (by show (l++J).length+2≤_;simp;omega)).mono ?_
 rintro e w3 ⟨rfl,hp3,hf3⟩;have HP3:Hid (PrS N B b vsl (l++zE4 xs) w3):=by rw[←HLS.out];exact hp3
 have HF3:Hid (Fr (XBB b B) w w3):=HF2.out.trans hf3;clear hp3 hf3;go_wp2
 go_end0
 exact⟨rfl,HP3.out,HF3.out⟩
theorem Tryz.infoStr5:(Tryz.prog.info? 9).map (fun i=>(i.zero,i.size,i.bytes))=some (some (.string ⟨#[]⟩),1,16):=by kernel_rfl
theorem Tryz.underStrs5:Tryz.prog.underlying 98=some (.slice 9):=by kernel_rfl
def PL (g n:Nat) (ys:List ByteArray) (w:World):Prop:=∃cur,w.heap[g]? = some (.cells cur 9)∧cur.size=n∧∀(j:Nat) (y:ByteArray),ys[j]? = some y→cur[j]? = some (.string y)
theorem zIR (z:Value) (n:Nat):(madeCells #[z] n).size=n:=by
 unfold madeCells;simp
theorem PL.begin (w:World) (n:Nat):PL w.heap.size n [] (w.alloc (.cells (madeCells #[.string ⟨#[]⟩] n) 9)):=⟨_,heap_alloc_new _ _,zIR _ _,fun j y h=>by simp at h⟩
theorem PL.below {g n:Nat} {ys:List ByteArray} {w w':World} (h:PL g n ys w) (hb:Below w.heap.size w w'):PL g n ys w':=by
 obtain⟨cur,h1,h2,h3⟩:=h;exact⟨cur,(hb.block g (Array.getElem?_eq_some_iff.1 h1).1).trans h1,h2,h3⟩
theorem PL.next {g n:Nat} {ys:List ByteArray} {w:World} (h:PL g n ys w) (hn:ys.length<n) (y:ByteArray):PL g n (ys++[y]) (w.setCell ⟨g,ys.length,none⟩ (.string y)):=by
 obtain⟨cur,h1,h2,h3⟩:=h;refine⟨_,heap_setCell_same w g ys.length _ _ _ h1,by simpa using h2,fun j z hz=>?_⟩
 by_cases hj:j<ys.length
 ·rw[List.getElem?_append_left hj] at hz
  rw[Array.getElem?_setIfInBounds_ne (by omega)]
  exact h3 j z hz
 ·rw[List.getElem?_append_right (by omega)] at hz
  have hj0:j - ys.length=0:=by
   have:=(List.getElem?_eq_some_iff.1 hz).1;simp at this;omega
  rw[hj0] at hz;cases hz
  rw[show j=ys.length by omega,Array.getElem?_setIfInBounds_self_of_lt (by omega)]
theorem PL.cell {g n:Nat} {ys:List ByteArray} {w:World} (h:PL g n ys w) (k:Nat) (hk:k<n):∃u,w.cell? ⟨g,k,none⟩=some u∧w.frozen? ⟨g,k,none⟩=false:=by
 obtain⟨cur,h1,h2,_⟩:=h;exact⟨cur[k]'(by omega),by rw[Lib.cell_of_heap h1];simp[h2,hk],frz9 h1 k⟩
theorem PL.done {g n:Nat} {ys:List ByteArray} {w:World} (h:PL g n ys w) (hn:ys.length=n) (hm:n≤1000000):SArg w (.slice (some ⟨g,0,none⟩) n n) ys:=by
 obtain⟨cur,h1,h2,h3⟩:=h;subst hn;refine⟨_,_,rfl,⟨Nat.le_refl _,by unfold maxLen;omega⟩,fun i z hz=>⟨g,0,rfl,(Array.getElem?_eq_some_iff.1 h1).1,?_⟩⟩
 rw[Lib.cell_of_heap h1,Nat.zero_add];exact h3 i z hz
def zBQ (ys:List ByteArray):ByteArray:=⟨#[91]⟩++⟨(zBW ys [44,32]).toArray⟩++⟨#[93]⟩
theorem zDe {N:Nat} {w w':World} (h:Below N w w') {p:Addr} (hp:N≤p.block) (u:Value):Below N w (w'.setCell p u):=h.setCell hp u
theorem zMF (F:Nat) (f:Int→ByteArray) (l:List Int) (v:Value) (w:World) (hv:IArg w v l) (hl:l.length≤1000) (hlen:(zBW (l.map f) [44,32]).length≤1000000)
 (hF:∀(args:Array Value) (w':World),Sem.run Tryz.prog (callFunc F args) w'=.ok (.enter F args) w')
 (hI:∀x∈l,∀w',Below w.heap.size w w'→Calls Tryz.prog F #[.int .i64 x] w' fun e w''=>e=.returned (.string (f x))∧Below w'.heap.size w' w'') :
 Calls Tryz.prog 246 #[v,.func (.func F) #[] #[]] w fun e w'=>e=.returned (.string (zBQ (l.map f)))∧Below w.heap.size w w':=by
 have HV:Hid (IArg w v l):=hv;have HI:Hid (∀x∈l,∀w',Below w.heap.size w w'→Calls Tryz.prog F #[.int .i64 x] w' fun e w''=>e=.returned (.string (f x))∧Below w'.heap.size w' w''):=hI
 have HF:Hid (∀(args:Array Value) (w':World),Sem.run Tryz.prog (callFunc F args) w'=.ok (.enter F args) w'):=hF;have HJ:Hid ((zBW (l.map f) [44,32]).length≤1000000):=hlen;obtain⟨a,c,rfl,hm,hc⟩:=hv;have HC:=hc;unfold maxLen at hm;obtain⟨hm1,hm⟩:=hm;have hmk:=run_make_row' (P:=Tryz.prog) 98 9 (.string ⟨#[]⟩) 16 Tryz.underStrs5 Tryz.infoStr5 rfl .i64 .i64 l.length (by omega) (by omega)
 have HCC:Hid (∀(i:Nat) (z:Int),l[i]? = some z→∃b off,a=some ⟨b,off,none⟩∧b<w.heap.size∧w.cell? ⟨b,off+i,none⟩=some (.int .i64 z)):=hc;clear hc hI hF hlen HC;go_enter Tryz.func246,Tryz.ntmps246
 go_wp2_with fail
 have HP0:=PL.begin w l.length;have HB0:=zAA w (.cells (madeCells #[.string ⟨#[]⟩] l.length) 9);go_loopw [13] (fun i wr=>∃k:Nat,k≤l.length∧i=.int .i64 k∧Hid (PL w.heap.size l.length ((l.take k).map f) wr)∧Hid (Below w.heap.size w wr)) (fun i _=>l.length - (intOf i).toNat)
 case atStart=>exact⟨0,by omega,rfl,HP0,HB0⟩
 case round =>
  clear HP0 HB0 hmk;obtain⟨k,hk,rfl,hpl,hbw⟩:=hrel;have hkl:((l.take k).map f).length=k:=by simp;omega
  by_cases hlt:k<l.length
  ·obtain⟨x,hx⟩:∃x,l[k]? = some x:=⟨l[k],by simp[hlt]⟩
   obtain⟨bb,off,rfl,hbb,hcell⟩:=HCC.out k x hx;have e1:=(hbw.out.cell (p:=⟨bb,off+k,none⟩) hbb).trans hcell;have HX:Hid (l[k]? = some x):=hx;have HNX:Hid ((l.take (k+1)).map f=(l.take k).map f++[f x]):=by show _=_;rw[List.take_add_one,hx];simp
   have HKL:Hid (((l.take k).map f).length=k):=hkl;clear hcell hbb hx hkl;go_wp2_with fail
   rw[HF.out,Oper.upon_enter];refine (HI.out x (List.mem_of_getElem? HX.out) wr hbw.out).mono ?_;rintro e w2 ⟨rfl,hb2⟩;have HP2:Hid (PL w.heap.size l.length ((l.take k).map f) w2):=hpl.out.below hb2;have HB2:Hid (Below w.heap.size w w2):=hbw.out.trans (hb2.mono hbw.out.size);obtain⟨u,hu,hz⟩:=HP2.out.cell k hlt;have HP3:Hid (PL w.heap.size l.length ((l.take (k+1)).map f) (w2.setCell ⟨w.heap.size,k,none⟩ (.string (f x)))):=by
    have:=HP2.out.next (by rw[HKL.out];exact hlt) (f x)
    rw[HKL.out] at this;rw[HNX.out];exact this
   have HB3:Hid (Below w.heap.size w (w2.setCell ⟨w.heap.size,k,none⟩ (.string (f x)))):=zDe HB2.out (p:=⟨w.heap.size,k,none⟩) (Nat.le_refl _) _;clear hb2;go_wp2
   go_roundw
   case rel=>exact⟨k+1,by omega,by go_num,HP3,HB3⟩
   case measure=>simp[intOf];omega
  ·have hkk:k=l.length:=by omega
   have HSA:Hid (SArg wr (.slice (some ⟨w.heap.size,0,none⟩) l.length l.length) (l.map f)):=by
    have:=hpl.out;rw[hkk,List.take_length] at this;exact this.done (by simp) (by omega)
   clear hkl;go_wp2_with fail
   refine (zEn (l.map f) _ ⟨#[44,32]⟩ wr HSA.out (by have:=HJ.out;show (zBW (l.map f) [44,32]).length≤_;omega) (by simp;omega)).mono ?_
   rintro e w3 ⟨rfl,hb3⟩;have HB3:Hid (Below w.heap.size w w3):=hbw.out.trans (hb3.mono hbw.out.size);clear hb3;have k1:¬(9223372036854775807<1+(zBW (l.map f) [44,32]).length):=by have:=HJ.out;omega
   have k2:¬(9223372036854775807<1+(zBW (l.map f) [44,32]).length+1):=by have:=HJ.out;omega
   go_wp2
   go_ret
   exact⟨rfl,HB3.out⟩
theorem zMG (b F:Nat) (f:Int→ByteArray) (l:List Int) (v:Value) (w:World) (hv:IArg w v l) (hl:l.length≤1000) (hlen:(zBW (l.map f) [44,32]).length≤1000000)
 (hF:∀(args:Array Value) (w':World),Sem.run Tryz.prog (callFunc F args) w'=.ok (.enter F args) w')
 (hI:∀x∈l,∀w',Below w.heap.size w w'→Calls Tryz.prog F #[.pointer (some ⟨b,0,none⟩),.int .i64 x] w' fun e w''=>e=.returned (.string (f x))∧Below w'.heap.size w' w'') :
 Calls Tryz.prog 246 #[v,.func (.func F) #[.pointer (some ⟨b,0,none⟩)] #[]] w fun e w'=>e=.returned (.string (zBQ (l.map f)))∧Below w.heap.size w w':=by
 have HV:Hid (IArg w v l):=hv;have HI:Hid (∀x∈l,∀w',Below w.heap.size w w'→Calls Tryz.prog F #[.pointer (some ⟨b,0,none⟩),.int .i64 x] w' fun e w''=>e=.returned (.string (f x))∧Below w'.heap.size w' w''):=hI
 have HF:Hid (∀(args:Array Value) (w':World),Sem.run Tryz.prog (callFunc F args) w'=.ok (.enter F args) w'):=hF;have HJ:Hid ((zBW (l.map f) [44,32]).length≤1000000):=hlen;obtain⟨a,c,rfl,hm,hc⟩:=hv;have HC:=hc;unfold maxLen at hm;obtain⟨hm1,hm⟩:=hm;have hmk:=run_make_row' (P:=Tryz.prog) 98 9 (.string ⟨#[]⟩) 16 Tryz.underStrs5 Tryz.infoStr5 rfl .i64 .i64 l.length (by omega) (by omega)
 have HCC:Hid (∀(i:Nat) (z:Int),l[i]? = some z→∃b off,a=some ⟨b,off,none⟩∧b<w.heap.size∧w.cell? ⟨b,off+i,none⟩=some (.int .i64 z)):=hc;clear hc hI hF hlen HC;go_enter Tryz.func246,Tryz.ntmps246
 go_wp2_with fail
 have HP0:=PL.begin w l.length;have HB0:=zAA w (.cells (madeCells #[.string ⟨#[]⟩] l.length) 9);go_loopw [13] (fun i wr=>∃k:Nat,k≤l.length∧i=.int .i64 k∧Hid (PL w.heap.size l.length ((l.take k).map f) wr)∧Hid (Below w.heap.size w wr)) (fun i _=>l.length - (intOf i).toNat)
 case atStart=>exact⟨0,by omega,rfl,HP0,HB0⟩
 case round =>
  clear HP0 HB0 hmk;obtain⟨k,hk,rfl,hpl,hbw⟩:=hrel;have hkl:((l.take k).map f).length=k:=by simp;omega
  by_cases hlt:k<l.length
  ·obtain⟨x,hx⟩:∃x,l[k]? = some x:=⟨l[k],by simp[hlt]⟩
   obtain⟨bb,off,rfl,hbb,hcell⟩:=HCC.out k x hx;have e1:=(hbw.out.cell (p:=⟨bb,off+k,none⟩) hbb).trans hcell;have HX:Hid (l[k]? = some x):=hx;have HNX:Hid ((l.take (k+1)).map f=(l.take k).map f++[f x]):=by show _=_;rw[List.take_add_one,hx];simp
   have HKL:Hid (((l.take k).map f).length=k):=hkl;clear hcell hbb hx hkl;go_wp2_with fail
   rw[HF.out,Oper.upon_enter];refine (HI.out x (List.mem_of_getElem? HX.out) wr hbw.out).mono ?_;rintro e w2 ⟨rfl,hb2⟩;have HP2:Hid (PL w.heap.size l.length ((l.take k).map f) w2):=hpl.out.below hb2;have HB2:Hid (Below w.heap.size w w2):=hbw.out.trans (hb2.mono hbw.out.size);obtain⟨u,hu,hz⟩:=HP2.out.cell k hlt;have HP3:Hid (PL w.heap.size l.length ((l.take (k+1)).map f) (w2.setCell ⟨w.heap.size,k,none⟩ (.string (f x)))):=by
    have:=HP2.out.next (by rw[HKL.out];exact hlt) (f x)
    rw[HKL.out] at this;rw[HNX.out];exact this
   have HB3:Hid (Below w.heap.size w (w2.setCell ⟨w.heap.size,k,none⟩ (.string (f x)))):=zDe HB2.out (p:=⟨w.heap.size,k,none⟩) (Nat.le_refl _) _;clear hb2;go_wp2
   go_roundw
   case rel=>exact⟨k+1,by omega,by go_num,HP3,HB3⟩
   case measure=>simp[intOf];omega
  ·have hkk:k=l.length:=by omega
   have HSA:Hid (SArg wr (.slice (some ⟨w.heap.size,0,none⟩) l.length l.length) (l.map f)):=by
    have:=hpl.out;rw[hkk,List.take_length] at this;exact this.done (by simp) (by omega)
   clear hkl;go_wp2_with fail
   refine (zEn (l.map f) _ ⟨#[44,32]⟩ wr HSA.out (by have:=HJ.out;show (zBW (l.map f) [44,32]).length≤_;omega) (by simp;omega)).mono ?_
   rintro e w3 ⟨rfl,hb3⟩;have HB3:Hid (Below w.heap.size w w3):=hbw.out.trans (hb3.mono hbw.out.size);clear hb3;have k1:¬(9223372036854775807<1+(zBW (l.map f) [44,32]).length):=by have:=HJ.out;omega
   have k2:¬(9223372036854775807<1+(zBW (l.map f) [44,32]).length+1):=by have:=HJ.out;omega
   go_wp2
   go_ret
   exact⟨rfl,HB3.out⟩
theorem zOM (F:Nat) (f:List Int→ByteArray) (l:List (List Int)) (v:Value) (w:World) (hv:RArg w v l) (hl:l.length≤1000) (hlen:(zBW (l.map f) [44,32]).length≤1000000)
 (hF:∀(args:Array Value) (w':World),Sem.run Tryz.prog (callFunc F args) w'=.ok (.enter F args) w')
 (hI:∀x∈l,∀xv w',Below w.heap.size w w'→IArg w' xv x→Calls Tryz.prog F #[xv] w' fun e w''=>e=.returned (.string (f x))∧Below w'.heap.size w' w'') :
 Calls Tryz.prog 248 #[v,.func (.func F) #[] #[]] w fun e w'=>e=.returned (.string (zBQ (l.map f)))∧Below w.heap.size w w':=by
 have HV:Hid (RArg w v l):=hv;have HI:Hid (∀x∈l,∀xv w',Below w.heap.size w w'→IArg w' xv x→Calls Tryz.prog F #[xv] w' fun e w''=>e=.returned (.string (f x))∧Below w'.heap.size w' w''):=hI
 have HF:Hid (∀(args:Array Value) (w':World),Sem.run Tryz.prog (callFunc F args) w'=.ok (.enter F args) w'):=hF;have HJ:Hid ((zBW (l.map f) [44,32]).length≤1000000):=hlen;obtain⟨a,c,rfl,hm,hc⟩:=hv;have HC:=hc;unfold maxLen at hm;obtain⟨hm1,hm⟩:=hm;have hmk:=run_make_row' (P:=Tryz.prog) 98 9 (.string ⟨#[]⟩) 16 Tryz.underStrs5 Tryz.infoStr5 rfl .i64 .i64 l.length (by omega) (by omega)
 have HCC:Hid (∀(i:Nat) (r:List Int),l[i]? = some r→∃b off x,a=some ⟨b,off,none⟩∧b<w.heap.size∧w.cell? ⟨b,off+i,none⟩=some x∧IArg w x r):=hc;clear hc hI hF hlen HC;go_enter Tryz.func248,Tryz.ntmps248
 go_wp2_with fail
 have HP0:=PL.begin w l.length;have HB0:=zAA w (.cells (madeCells #[.string ⟨#[]⟩] l.length) 9);go_loopw [13] (fun i wr=>∃k:Nat,k≤l.length∧i=.int .i64 k∧Hid (PL w.heap.size l.length ((l.take k).map f) wr)∧Hid (Below w.heap.size w wr)) (fun i _=>l.length - (intOf i).toNat)
 case atStart=>exact⟨0,by omega,rfl,HP0,HB0⟩
 case round =>
  clear HP0 HB0 hmk;obtain⟨k,hk,rfl,hpl,hbw⟩:=hrel;have hkl:((l.take k).map f).length=k:=by simp;omega
  by_cases hlt:k<l.length
  ·obtain⟨x,hx⟩:∃x,l[k]? = some x:=⟨l[k],by simp[hlt]⟩
   obtain⟨bb,off,xv,rfl,hbb,hcell,hxa⟩:=HCC.out k x hx;have HXA:Hid (IArg wr xv x):=IArg.below hbw.out hxa;obtain⟨ax,cx,rfl,_,_⟩:=hxa;have e1:=(hbw.out.cell (p:=⟨bb,off+k,none⟩) hbb).trans hcell;have HX:Hid (l[k]? = some x):=hx;have HNX:Hid ((l.take (k+1)).map f=(l.take k).map f++[f x]):=by show _=_;rw[List.take_add_one,hx];simp
   have HKL:Hid (((l.take k).map f).length=k):=hkl;clear hcell hbb hx hkl;go_wp2_with fail
   rw[HF.out,Oper.upon_enter];refine (HI.out x (List.mem_of_getElem? HX.out) _ wr hbw.out HXA.out).mono ?_;rintro e w2 ⟨rfl,hb2⟩;have HP2:Hid (PL w.heap.size l.length ((l.take k).map f) w2):=hpl.out.below hb2;have HB2:Hid (Below w.heap.size w w2):=hbw.out.trans (hb2.mono hbw.out.size);obtain⟨u,hu,hz⟩:=HP2.out.cell k hlt;have HP3:Hid (PL w.heap.size l.length ((l.take (k+1)).map f) (w2.setCell ⟨w.heap.size,k,none⟩ (.string (f x)))):=by
    have:=HP2.out.next (by rw[HKL.out];exact hlt) (f x)
    rw[HKL.out] at this;rw[HNX.out];exact this
   have HB3:Hid (Below w.heap.size w (w2.setCell ⟨w.heap.size,k,none⟩ (.string (f x)))):=zDe HB2.out (p:=⟨w.heap.size,k,none⟩) (Nat.le_refl _) _;clear hb2;go_wp2
   go_roundw
   case rel=>exact⟨k+1,by omega,by go_num,HP3,HB3⟩
   case measure=>simp[intOf];omega
  ·have hkk:k=l.length:=by omega
   have HSA:Hid (SArg wr (.slice (some ⟨w.heap.size,0,none⟩) l.length l.length) (l.map f)):=by
    have:=hpl.out;rw[hkk,List.take_length] at this;exact this.done (by simp) (by omega)
   clear hkl;go_wp2_with fail
   refine (zEn (l.map f) _ ⟨#[44,32]⟩ wr HSA.out (by have:=HJ.out;show (zBW (l.map f) [44,32]).length≤_;omega) (by simp;omega)).mono ?_
   rintro e w3 ⟨rfl,hb3⟩;have HB3:Hid (Below w.heap.size w w3):=hbw.out.trans (hb3.mono hbw.out.size);clear hb3;have k1:¬(9223372036854775807<1+(zBW (l.map f) [44,32]).length):=by have:=HJ.out;omega
   have k2:¬(9223372036854775807<1+(zBW (l.map f) [44,32]).length+1):=by have:=HJ.out;omega
   go_wp2
   go_ret
   exact⟨rfl,HB3.out⟩
theorem zON (b F:Nat) (f:MLit→ByteArray) (l:List MLit) (v:Value) (w:World) (hv:LArg w v l) (hl:l.length≤1000) (hlen:(zBW (l.map f) [44,32]).length≤1000000)
 (hF:∀(args:Array Value) (w':World),Sem.run Tryz.prog (callFunc F args) w'=.ok (.enter F args) w')
 (hI:∀x∈l,∀w',Below w.heap.size w w'→Calls Tryz.prog F #[.pointer (some ⟨b,0,none⟩),litA x] w' fun e w''=>e=.returned (.string (f x))∧Below w'.heap.size w' w'') :
 Calls Tryz.prog 249 #[v,.func (.func F) #[.pointer (some ⟨b,0,none⟩)] #[]] w fun e w'=>e=.returned (.string (zBQ (l.map f)))∧Below w.heap.size w w':=by
 have HV:Hid (LArg w v l):=hv;have HI:Hid (∀x∈l,∀w',Below w.heap.size w w'→Calls Tryz.prog F #[.pointer (some ⟨b,0,none⟩),litA x] w' fun e w''=>e=.returned (.string (f x))∧Below w'.heap.size w' w''):=hI
 have HF:Hid (∀(args:Array Value) (w':World),Sem.run Tryz.prog (callFunc F args) w'=.ok (.enter F args) w'):=hF;have HJ:Hid ((zBW (l.map f) [44,32]).length≤1000000):=hlen;obtain⟨a,c,rfl,hm,hc⟩:=hv;have HC:=hc;unfold maxLen at hm;obtain⟨hm1,hm⟩:=hm;have hmk:=run_make_row' (P:=Tryz.prog) 98 9 (.string ⟨#[]⟩) 16 Tryz.underStrs5 Tryz.infoStr5 rfl .i64 .i64 l.length (by omega) (by omega)
 have HCC:Hid (∀(i:Nat) (t:MLit),l[i]? = some t→∃b off,a=some ⟨b,off,none⟩∧b<w.heap.size∧w.cell? ⟨b,off+i * 3,none⟩=some (.int .i64 t.var)∧w.cell? ⟨b,off+i * 3+1,none⟩=some (.int .i64 t.op)∧w.cell? ⟨b,off+i * 3+2,none⟩=some (.int .i64 t.n)):=hc;clear hc hI hF hlen HC;go_enter Tryz.func249,Tryz.ntmps249
 go_wp2_with fail
 have HP0:=PL.begin w l.length;have HB0:=zAA w (.cells (madeCells #[.string ⟨#[]⟩] l.length) 9);go_loopw [13] (fun i wr=>∃k:Nat,k≤l.length∧i=.int .i64 k∧Hid (PL w.heap.size l.length ((l.take k).map f) wr)∧Hid (Below w.heap.size w wr)) (fun i _=>l.length - (intOf i).toNat)
 case atStart=>exact⟨0,by omega,rfl,HP0,HB0⟩
 case round =>
  clear HP0 HB0 hmk;obtain⟨k,hk,rfl,hpl,hbw⟩:=hrel;have hkl:((l.take k).map f).length=k:=by simp;omega
  by_cases hlt:k<l.length
  ·obtain⟨x,hx⟩:∃x,l[k]? = some x:=⟨l[k],by simp[hlt]⟩
   obtain⟨bb,off,rfl,hbb,hcell,hcell2,hcell3⟩:=HCC.out k x hx;have e1:=(hbw.out.cell (p:=⟨bb,off+k * 3,none⟩) hbb).trans hcell;have e2:=(hbw.out.cell (p:=⟨bb,off+k * 3+1,none⟩) hbb).trans hcell2;have e3:=(hbw.out.cell (p:=⟨bb,off+k * 3+2,none⟩) hbb).trans hcell3;have HX:Hid (l[k]? = some x):=hx;have HNX:Hid ((l.take (k+1)).map f=(l.take k).map f++[f x]):=by show _=_;rw[List.take_add_one,hx];simp
   have HKL:Hid (((l.take k).map f).length=k):=hkl;clear hcell hcell2 hcell3 hbb hx hkl;go_wp2_with fail
   rw[HF.out,Oper.upon_enter];have HBQ:=hbw.out.trans ((zAA wr (.cells #[.int .i64 x.var,.int .i64 x.op,.int .i64 x.n] 76)).mono hbw.out.size);refine (HI.out x (List.mem_of_getElem? HX.out) _ HBQ).mono ?_;rintro e w2 ⟨rfl,hb2⟩;have HP2:Hid (PL w.heap.size l.length ((l.take k).map f) w2):=(hpl.out.below (zAA _ _)).below hb2;have HB2:Hid (Below w.heap.size w w2):=HBQ.trans (hb2.mono HBQ.size);obtain⟨u,hu,hz⟩:=HP2.out.cell k hlt;have HP3:Hid (PL w.heap.size l.length ((l.take (k+1)).map f) (w2.setCell ⟨w.heap.size,k,none⟩ (.string (f x)))):=by
    have:=HP2.out.next (by rw[HKL.out];exact hlt) (f x)
    rw[HKL.out] at this;rw[HNX.out];exact this
   have HB3:Hid (Below w.heap.size w (w2.setCell ⟨w.heap.size,k,none⟩ (.string (f x)))):=zDe HB2.out (p:=⟨w.heap.size,k,none⟩) (Nat.le_refl _) _;clear hb2;go_wp2
   go_roundw
   case rel=>exact⟨k+1,by omega,by go_num,HP3,HB3⟩
   case measure=>simp[intOf];omega
  ·have hkk:k=l.length:=by omega
   have HSA:Hid (SArg wr (.slice (some ⟨w.heap.size,0,none⟩) l.length l.length) (l.map f)):=by
    have:=hpl.out;rw[hkk,List.take_length] at this;exact this.done (by simp) (by omega)
   clear hkl;go_wp2_with fail
   refine (zEn (l.map f) _ ⟨#[44,32]⟩ wr HSA.out (by have:=HJ.out;show (zBW (l.map f) [44,32]).length≤_;omega) (by simp;omega)).mono ?_
   rintro e w3 ⟨rfl,hb3⟩;have HB3:Hid (Below w.heap.size w w3):=hbw.out.trans (hb3.mono hbw.out.size);clear hb3;have k1:¬(9223372036854775807<1+(zBW (l.map f) [44,32]).length):=by have:=HJ.out;omega
   have k2:¬(9223372036854775807<1+(zBW (l.map f) [44,32]).length+1):=by have:=HJ.out;omega
   go_wp2
   go_ret
   exact⟨rfl,HB3.out⟩
end Go.Proofs.YtndcpnlaadikoaaGreatDoor
