/- What the proof leans on, part 1. -/
import Derived.Test.YtndcpnlaadikoaaGreatDoorRows
import Derived.WalkSpells
import Derived.WalkLawsBesides
import Derived.BigQuiet
set_option maxRecDepth 100000
set_option maxHeartbeats 1000000
open Go.Proofs.Tryz
namespace Go.Proofs.YtndcpnlaadikoaaGreatDoor
abbrev Bw (a b:World):Prop:=Go.RowKit.Below a.heap.size a b
abbrev Z8:=@Array.getElem?_eq_some_iff
abbrev ZO:=@List.getD_eq_getElem?_getD
abbrev ZN:=@List.getElem?_eq_some_iff
abbrev Z6:=@Go.RowKit.Below.refl
abbrev Z2:=@Nat.le_refl
abbrev ZQ:=@Nat.lt_of_lt_of_le
abbrev ZA:=@List.getElem?_eq_getElem
abbrev Zz:=@List.mem_of_getElem?
abbrev ZC:=@List.length_append
abbrev ZH:=@World.ownsRow_nil
abbrev ZT:=@Nat.le_trans
abbrev Zu:=@World.cell?_alloc_at
abbrev Zi:=@List.take_of_length_le
abbrev ZB:=@Bool.and_eq_true
abbrev Zk:=@List.mem_cons_self
abbrev Zh:=@List.mem_singleton
abbrev Y2:=@List.mem_cons_of_mem
abbrev Zl:=@Option.some.inj
abbrev Yc:=@List.drop_eq_getElem_cons
abbrev Y1:=@List.take_add_one
abbrev Zn:=@Nat.zero_add
abbrev YN:=@List.getElem?_map
abbrev Xf:=@List.eq_nil_of_length_eq_zero
abbrev Zj:=@List.mem_map
abbrev YY:=@List.map_append
abbrev YK:=@Int.toNat_natCast
abbrev Xz:=@Classical.byContradiction
abbrev YU:=@List.length_map
abbrev Xo:=@List.length_eq_zero_iff
abbrev Yh:=@List.any_eq_true
abbrev YJ:=@List.mem_cons
abbrev XO:=@Bool.false_eq_true
abbrev Yg:=@Bool.eq_iff_iff
abbrev X_:=@List.length_take
abbrev W7:=@World.cell?_alloc_past
abbrev V9:=@List.getElem?_append_right
abbrev V8:=@List.getElem?_append_left
abbrev YI:=@Nat.zero_le
abbrev WE:=@List.getElem?_set_ne
abbrev WD:=@World.cell?_of_block
abbrev Wm:=@List.mem_iff_getElem?
abbrev Xe:=@List.length_cons
abbrev V7:=@List.getElem?_eq_none
abbrev V6:=@List.length_singleton
abbrev Xn:=@List.mem_append
abbrev W8:=@List.all_eq_true
abbrev W6:=@List.mem_range
abbrev WC:=@List.mem_filter
abbrev Uu:=@List.getElem?_set_self
abbrev UW:=@Nat.lt_of_le_of_lt
abbrev W5:=@Nat.add_mul
abbrev Tz:=@List.length_filter_le
abbrev UV:=@List.mem_flatMap
abbrev Wl:=@Nat.add_zero
abbrev SU:=@List.drop_eq_nil_of_le
abbrev VH:=@List.map_cons
abbrev SS:=@Nat.pow_le_pow_right
abbrev SR:=@List.mem_of_mem_take
abbrev Ty:=@List.any_eq_false
abbrev UU:=@Nat.add_assoc
abbrev Vm:=@Nat.le_of_lt
abbrev RY:=@Bool.and_eq_false_iff
abbrev T':=@Bool.or_eq_true
abbrev QC:=@Nat.add_sub_cancel_left
abbrev Tx:=@List.not_mem_nil
abbrev QB:=@Option.map_eq_some_iff
abbrev QA:=@List.drop_of_length_le
abbrev SQ:=@Bool.not_eq_true'
abbrev SP:=@Nat.le_of_testBit
abbrev SO:=@List.append_assoc
abbrev RW:=@List.flatMap_append
abbrev TA:=@List.append_nil
abbrev Tw:=@List.length_nil
abbrev O7:=@List.getElem?_eq_none_iff
abbrev RU:=@List.pairwise_cons
abbrev SN:=@Nat.zero_testBit
abbrev Qz:=@Nat.eq_of_testBit_eq
abbrev Tv:=@Nat.testBit_or
abbrev O6:=@List.getElem?_replicate
abbrev RS:=@List.ext_getElem?
abbrev RR:=@List.flatten_cons
abbrev Qy:=@List.getElem?_range
abbrev T9:=@List.map_nil
abbrev RQ:=@Option.getD_some
abbrev RO:=@Nat.lt_succ_self
abbrev RN:=@List.length_drop
abbrev Qx:=@List.getElem?_take
abbrev RL:=@List.any_append
abbrev O5:=@Bool.or_eq_false_iff
abbrev RK:=@Nat.testBit_and
abbrev O4:=@Nat.mul_le_mul_right
abbrev Qw:=@List.flatMap_cons
abbrev Qv:=@List.take_length
abbrev Qu:=@List.map_toArray
abbrev Qt:=@List.filter_cons
abbrev Qs:=@List.getElem_mem
abbrev ND:=@List.filter_eq_nil_iff
abbrev SM:=@Nat.zero_mul
abbrev NC:=@Classical.choose_spec
abbrev Li:=@List.length_eraseIdx_of_lt
abbrev NA:=@List.mem_of_mem_drop
abbrev Lh:=@List.getElem?_zip_eq_some
abbrev O3:=@List.cons_append
abbrev Nz:=@List.map_congr_left
abbrev Ny:=@List.length_pos_iff
abbrev Iw:=@List.eraseIdx_eq_take_drop_succ
abbrev Qr:=@List.any_cons
abbrev Qq:=@Bool.true_and
abbrev O2:=@List.nil_append
abbrev Lg:=@Nat.testBit_lt_two_pow
abbrev Lf:=@List.mem_append_left
abbrev O1:=@Bool.or_false
abbrev Le:=@List.takeWhile_cons
abbrev Ld:=@List.take_succ_cons
abbrev Lc:=@List.filter_eq_self
abbrev Lb:=@List.getElem_of_mem
abbrev La:=@List.flatten_append
abbrev K_:=@Array.length_toList
abbrev Nx:=@Option.map_some
abbrev Nv:=@Nat.and_le_left
abbrev Iv:=@Nat.lt_pow_two_of_testBit
abbrev Nu:=@List.length_set
abbrev Nt:=@List.foldl_cons
abbrev Iu:=@List.mem_of_mem_eraseIdx
abbrev It:=@List.eq_of_mem_replicate
abbrev K':=@List.getElem?_drop
abbrev K9:=@List.nodup_append
theorem hI {p:Prop} (h:p):Go.RowKit.Hid p:=h
theorem _root_.Go.RowKit.Hid.o {p:Prop} (h:Go.RowKit.Hid p):p:=h
structure Tok where
 kind:Int
 place:Int
 text:ByteArray
def isL (c:UInt8):Bool:=decide (97<=(c.toNat:Int))&&decide ((c.toNat:Int)<=122)
def isD (c:UInt8):Bool:=decide (48<=(c.toNat:Int))&&decide ((c.toNat:Int)<=57)
def isW (c:UInt8):Bool:=isL c || isD c
def V5 (c:UInt8):Bool:=(c.toNat:Int) != 10
def isB (c:UInt8):Bool:=(c.toNat:Int)==32 || ((c.toNat:Int)==9 || (c.toNat:Int)==10)
def YH (p:UInt8->Bool) (l:List UInt8) (k:Nat):Nat:=k+((l.drop k).takeWhile p).length
def U5 (l:List UInt8) (k:Nat):UInt8:=l.getD k 0
theorem Mf (p:UInt8->Bool) (l:List UInt8) (k:Nat) (h:∀h:k<l.length,p l[k]=false):YH p l k=k:=by
 unfold YH;by_cases hk:k<l.length
 ·rw[Yc hk,Le,h hk];simp
 rw[SU (by omega)];simp
theorem Me (p:UInt8->Bool) (l:List UInt8) (k:Nat) (hk:k<l.length) (h:p l[k]=true):YH p l k=YH p l (k+1):=by
 unfold YH;rw[Yc hk,Le,h];simp;omega
theorem fq (p:UInt8->Bool) (l:List UInt8):(l.takeWhile p).length<=l.length:=by
 induction l with
 | nil=>simp
 | cons a r ih=>rw[Le];split <;> simp;omega
theorem JI (p:UInt8->Bool) (l:List UInt8) (k:Nat) (hk:k<=l.length):k<=YH p l k/\YH p l k<=l.length:=by
 unfold YH;have:=fq p (l.drop k);simp at this;omega
theorem xD (p:UInt8->Bool) (l:List UInt8) (k:Nat) (hk:k<l.length) (h:p l[k]=true):k<YH p l k:=by
 rw[Me p l k hk h];have:=JI p l (k+1) (by omega);omega
def Qp:Bool->List UInt8->Nat
 | _,[]=>0
 | note,c :: r=>if note || (c.toNat:Int)==37 then 1+Qp (V5 c) r else if isB c then 1+Qp false r else 0
theorem fp (b:Bool) (l:List UInt8):Qp b l<=l.length:=by
 induction l generalizing b with
 | nil=>simp[Qp]
 | cons c r ih =>
   unfold Qp
   split
   ·have:=ih (V5 c);simp;omega
   split
   ·have:=ih false;simp;omega
   simp
theorem fo (l:List UInt8):Qp true l=(l.takeWhile V5).length+Qp false (l.drop (l.takeWhile V5).length):=by
 induction l with
 | nil=>simp[Qp]
 | cons c r ih =>
   rw[Le];cases h:V5 c
   ·have Up:(c.toNat:Int)=10:=by simpa[V5] using h
    simp only[XO,if_false,Tw,Zn,List.drop_zero];simp[Qp,h,Up,isB]
   simp only[if_true,Xe,List.drop_succ_cons];simp only[Qp,Bool.true_or,if_true,h];rw[ih];omega
def YG (b:Bool) (l:List UInt8) (k:Nat):Nat:=k+Qp b (l.drop k)
theorem xC (b:Bool) (l:List UInt8) (k:Nat) (hk:k<=l.length):k<=YG b l k/\YG b l k<=l.length:=by
 unfold YG;have:=fp b (l.drop k);simp at this;omega
theorem xB (b:Bool) (l:List UInt8) (k:Nat) (hk:¬k<l.length):YG b l k=k:=by
 unfold YG;rw[SU (by omega)];simp[Qp]
theorem AN (l:List UInt8) (k:Nat) (hk:k<l.length) (h:isB l[k]=true):YG false l k=YG false l (k+1):=by
 unfold YG;have xA:((l[k].toNat:Int)==37)=false:=by
  simp only[isB,T',beq_iff_eq] at h;simp only[beq_eq_false_iff_ne];omega
 rw[Yc hk];simp only[Qp,xA,h,Bool.false_or,XO,if_false,if_true];omega
theorem xz (b:Bool) (l:List UInt8) (k:Nat) (hk:k<l.length) (h:(b || (l[k].toNat:Int)==37)=true):YG b l k=YG (V5 l[k]) l (k+1):=by
 unfold YG;rw[Yc hk];simp only[Qp,h,if_true];omega
theorem fm (l:List UInt8) (k:Nat) (hk:k<l.length) (h:(l[k].toNat:Int)=37):YG false l k=YG false l (YH V5 l k):=by
 have hn:V5 l[k]=true:=by unfold V5;rw[h];decide
 rw[xz false l k hk (by simp[h]),Me V5 l k hk hn,hn]
 unfold YG YH;rw[fo,List.drop_drop];omega
theorem xy (l:List UInt8) (k:Nat) (hk:k<l.length) (h:isB l[k]=false) (xA:((l[k].toNat:Int)==37)=false):YG false l k=k:=by
 unfold YG;rw[Yc hk];simp[Qp,h,xA]
def Of (l:List UInt8):Bool:=(l.take 2==[46,46]) || ((l.take 2==[60,61]) || ((l.take 2==[62,61]) || ((l.take 2==[61,61]) || (l.take 2==[33,61]))))
def Sj (c:UInt8):Bool:=((c.toNat:Int)==91) || (((c.toNat:Int)==93) || (((c.toNat:Int)==59) || (((c.toNat:Int)==58) || (((c.toNat:Int)==44) || ((c.toNat:Int)==45)))))
def SL (l:List UInt8):Nat:=if Of l then 2 else if Sj (U5 l 0) then 1 else 0
theorem xx (l:List UInt8) (h:Of l=true):2<=l.length:=by
 have:(l.take 2).length=2:=by
  simp only[Of,T',beq_iff_eq] at h;rcases h with h | h | h | h | h <;> rw[h] <;> rfl
 simp at this;omega
theorem qh (l:List UInt8) (h:0<l.length):SL l<=l.length:=by
 unfold SL
 split
 ·exact xx l ‹_›
 split <;> omega
def XJ (l:List UInt8) (k:Nat):Nat :=
 if isL (U5 l k) then 1 else if isD (U5 l k) then 2 else if SL (l.drop k)=0 then 0 else 3
def XZ (l:List UInt8) (k:Nat):Nat :=
 if isL (U5 l k) then YH isW l k else if isD (U5 l k) then YH isD l k else k+SL (l.drop k)
theorem K8 (l:List UInt8) (k:Nat) (hk:k<l.length):U5 l k=l[k]:=by simp[U5,hk]
theorem Fh (l:List UInt8) (k:Nat) (hk:k<l.length):k<=XZ l k/\XZ l k<=l.length:=by
 unfold XZ
 split
 ·exact JI _ _ _ (by omega)
 split
 ·exact JI _ _ _ (by omega)
 have:=qh (l.drop k) (by simp;omega);simp at this;omega
theorem D1 (l:List UInt8) (k:Nat) (hk:k<l.length) (h:XJ l k≠0):k<XZ l k:=by
 unfold XJ at h;unfold XZ;rw[K8 l k hk] at *
 split
 ·refine xD _ _ _ hk ?_;rename_i h1;simp[isW,h1]
 split
 ·exact xD _ _ _ hk ‹_›
 rename_i h1 h2;simp[h1,h2] at h;omega
def YT (s:ByteArray) (k:Nat):Tok :=
 if XJ s.data.toList k=0 then ⟨0,0,ByteArray.empty⟩ else ⟨XJ s.data.toList k,k,s.extract k (XZ s.data.toList k)⟩
def XT (kind:Int) (t:ByteArray):Int :=
 if kind=1 then (if 12<t.size then 2 else 0) else if kind=2 then (if 4<t.size then 2 else if 1<t.size/\((U5 t.data.toList 0).toNat:Int)=48 then 1 else 0) else if kind=3 then 0 else 1
def Ut:Nat->ByteArray->Nat->List Tok->List Tok×Nat×Int
 | 0,_,_,acc=>(acc,0,0)
 | f+1,s,k,acc =>
   if YG false s.data.toList k<s.size then
    if XT (YT s (YG false s.data.toList k)).kind (YT s (YG false s.data.toList k)).text=0 then
     Ut f s (XZ s.data.toList (YG false s.data.toList k)) (acc++[YT s (YG false s.data.toList k)])
    else ([],YG false s.data.toList k,XT (YT s (YG false s.data.toList k)).kind (YT s (YG false s.data.toList k)).text)
   else (acc,0,0)
def YR (s:ByteArray):List Tok×Nat×Int:=if 4000<s.size then ([],0,2) else Ut (s.size+1) s 0 []
theorem Is (f:Nat) (s:ByteArray) (k:Nat) (acc:List Tok) (h:¬YG false s.data.toList k<s.size):Ut f s k acc=(acc,0,0):=by
 cases f with
 | zero=>rfl
 | succ f=>rw[Ut,if_neg h]
theorem K7 (f:Nat) (s:ByteArray) (k j:Nat) (acc:List Tok) (hj:YG false s.data.toList k=j) (h:j<s.size) (he:XT (YT s j).kind (YT s j).text≠0) :
 Ut (f+1) s k acc=([],j,XT (YT s j).kind (YT s j).text):=by
 rw[Ut,hj,if_pos h,if_neg he]
theorem Md (f:Nat) (s:ByteArray) (k j:Nat) (acc:List Tok) (hj:YG false s.data.toList k=j) (h:j<s.size) (he:XT (YT s j).kind (YT s j).text=0) :
 Ut (f+1) s k acc=Ut f s (XZ s.data.toList j) (acc++[YT s j]):=by
 rw[Ut,hj,if_pos h,if_pos he]
theorem D0 (s:ByteArray) (j:Nat) (he:XT (YT s j).kind (YT s j).text=0):XJ s.data.toList j≠0:=by
 intro h;unfold YT at he;rw[if_pos h] at he;simp[XT] at he
theorem PK (s:ByteArray) (a b:Nat) (h:b<=s.size):(s.extract a b).size=b - a:=by
 simp[ByteArray.size_extract];omega
open Go.RowKit
theorem Zm {k:IntKind} {a b:Int} (h:a=b):Ending.returned (.int k a)=.returned (.int k b):=by rw[h]
theorem ZD {a b:Bool} (h:a=b):Ending.returned (.bool a)=.returned (.bool b):=by rw[h]
theorem Si (s:ByteArray) (k:Nat) (_h:k<s.size) (h':k<s.data.toList.length):s.data.toList[k]=s[k]:=by rw[Array.getElem_toList];rfl
theorem qg (c:UInt8) (w:World) :
 Calls prog 215 #[.int .u8 c.toNat] w λe w'=>e=.returned (.bool (V5 c))/\w'=w:=by
 unfold V5;go_enter func215,ntmps215
 go_wp2
 go_ret
 exact⟨rfl,rfl⟩
theorem DZ (c:UInt8) (w:World) :
 Calls prog 216 #[.int .u8 c.toNat] w λe w'=>e=.returned (.bool (isL c))/\w'=w:=by
 unfold isL;go_enter func216,ntmps216
 go_wp2
 ·go_ret;exact⟨by simp[*],rfl⟩
 go_ret;refine⟨by rw[decide_eq_false (by omega)];rfl,rfl⟩
theorem Fg (c:UInt8) (w:World) :
 Calls prog 218 #[.int .u8 c.toNat] w λe w'=>e=.returned (.bool (isD c))/\w'=w:=by
 unfold isD;go_enter func218,ntmps218
 go_wp2
 ·go_ret;exact⟨by simp[*],rfl⟩
 go_ret;refine⟨by rw[decide_eq_false (by omega)];rfl,rfl⟩
theorem qf (c:UInt8) (w:World) :
 Calls prog 217 #[.int .u8 c.toNat] w λe w'=>e=.returned (.bool (isW c))/\w'=w:=by
 unfold isW;cases h:isL c
 all_goals
  go_enter func217,ntmps217
  go_wp2_with (first | (go_at_call 216;refine (DZ _ _).mono ?_;rintro e w' ⟨rfl,rfl⟩;rw[h]) | (go_at_call 218;refine (Fg _ _).mono ?_;rintro e w' ⟨rfl,rfl⟩))
  go_ret;exact⟨by simp,rfl⟩
theorem fk (s:ByteArray) (k:Nat) (hk:k<=s.size) (hs:s.size<=maxLen) (w:World) :
 Calls prog 214 #[.string s,.int .i64 k,.func (.func 215) #[] #[]] w λe w'=>e=.returned (.int .i64 (YH V5 s.data.toList k))/\w'=w:=by
 unfold maxLen at hs;go_enter func214,ntmps214
 go_wp2
 go_loop [1] (λi=>∃m:Nat,m<=s.size/\i=.int .i64 m/\Hid (YH V5 s.data.toList m=YH V5 s.data.toList k)) (λi=>s.size - (intOf i).toNat)
 case atStart=>exact⟨k,hk,rfl,rfl⟩
 obtain⟨m,hm,rfl,hr⟩:=hrel;by_cases Z7:m<s.size
 ·have hl:m<s.data.toList.length:=by simpa using Z7
  have Y9:=Si s m Z7 hl;cases hp:V5 s[m]
  ·have HE:Hid (YH V5 s.data.toList m=m):=Mf V5 _ m (λh=>by rw[Y9];exact hp)
   have HP:=hI hp;clear hp Y9;go_wp2_with fail
   refine (qg _ _).mono ?_;rintro e w' ⟨rfl,rfl⟩;rw[HP.o];go_wp2
   go_ret
   exact⟨Zm (by rw[<-hr.o,HE.o]),rfl⟩
  have HE:Hid (YH V5 s.data.toList m=YH V5 s.data.toList (m+1)):=Me V5 _ m hl (by rw[Y9];exact hp)
  have HP:=hI hp;clear hp Y9;go_wp2_with fail
  refine (qg _ _).mono ?_;rintro e w' ⟨rfl,rfl⟩;rw[HP.o];go_wp2
  go_round
  case rel=>exact⟨m+1,by omega,by go_num,HE.o▸hr.o⟩
  case measure=>simp[intOf];omega
 have HE:Hid (YH V5 s.data.toList m=m):=Mf V5 _ m (λh=>by simp at h;omega)
 go_wp2
 go_ret
 exact⟨Zm (by rw[<-hr.o,HE.o]),rfl⟩
theorem fj (s:ByteArray) (k:Nat) (hk:k<=s.size) (hs:s.size<=maxLen) (w:World) :
 Calls prog 214 #[.string s,.int .i64 k,.func (.func 217) #[] #[]] w λe w'=>e=.returned (.int .i64 (YH isW s.data.toList k))/\w'=w:=by
 unfold maxLen at hs;go_enter func214,ntmps214
 go_wp2
 go_loop [1] (λi=>∃m:Nat,m<=s.size/\i=.int .i64 m/\Hid (YH isW s.data.toList m=YH isW s.data.toList k)) (λi=>s.size - (intOf i).toNat)
 case atStart=>exact⟨k,hk,rfl,rfl⟩
 obtain⟨m,hm,rfl,hr⟩:=hrel;by_cases Z7:m<s.size
 ·have hl:m<s.data.toList.length:=by simpa using Z7
  have Y9:=Si s m Z7 hl;cases hp:isW s[m]
  ·have HE:Hid (YH isW s.data.toList m=m):=Mf isW _ m (λh=>by rw[Y9];exact hp)
   have HP:=hI hp;clear hp Y9;go_wp2_with fail
   refine (qf _ _).mono ?_;rintro e w' ⟨rfl,rfl⟩;rw[HP.o];go_wp2
   go_ret
   exact⟨Zm (by rw[<-hr.o,HE.o]),rfl⟩
  have HE:Hid (YH isW s.data.toList m=YH isW s.data.toList (m+1)):=Me isW _ m hl (by rw[Y9];exact hp)
  have HP:=hI hp;clear hp Y9;go_wp2_with fail
  refine (qf _ _).mono ?_;rintro e w' ⟨rfl,rfl⟩;rw[HP.o];go_wp2
  go_round
  case rel=>exact⟨m+1,by omega,by go_num,HE.o▸hr.o⟩
  case measure=>simp[intOf];omega
 have HE:Hid (YH isW s.data.toList m=m):=Mf isW _ m (λh=>by simp at h;omega)
 go_wp2
 go_ret
 exact⟨Zm (by rw[<-hr.o,HE.o]),rfl⟩
theorem fi (s:ByteArray) (k:Nat) (hk:k<=s.size) (hs:s.size<=maxLen) (w:World) :
 Calls prog 214 #[.string s,.int .i64 k,.func (.func 218) #[] #[]] w λe w'=>e=.returned (.int .i64 (YH isD s.data.toList k))/\w'=w:=by
 unfold maxLen at hs;go_enter func214,ntmps214
 go_wp2
 go_loop [1] (λi=>∃m:Nat,m<=s.size/\i=.int .i64 m/\Hid (YH isD s.data.toList m=YH isD s.data.toList k)) (λi=>s.size - (intOf i).toNat)
 case atStart=>exact⟨k,hk,rfl,rfl⟩
 obtain⟨m,hm,rfl,hr⟩:=hrel;by_cases Z7:m<s.size
 ·have hl:m<s.data.toList.length:=by simpa using Z7
  have Y9:=Si s m Z7 hl;cases hp:isD s[m]
  ·have HE:Hid (YH isD s.data.toList m=m):=Mf isD _ m (λh=>by rw[Y9];exact hp)
   have HP:=hI hp;clear hp Y9;go_wp2_with fail
   refine (Fg _ _).mono ?_;rintro e w' ⟨rfl,rfl⟩;rw[HP.o];go_wp2
   go_ret
   exact⟨Zm (by rw[<-hr.o,HE.o]),rfl⟩
  have HE:Hid (YH isD s.data.toList m=YH isD s.data.toList (m+1)):=Me isD _ m hl (by rw[Y9];exact hp)
  have HP:=hI hp;clear hp Y9;go_wp2_with fail
  refine (Fg _ _).mono ?_;rintro e w' ⟨rfl,rfl⟩;rw[HP.o];go_wp2
  go_round
  case rel=>exact⟨m+1,by omega,by go_num,HE.o▸hr.o⟩
  case measure=>simp[intOf];omega
 have HE:Hid (YH isD s.data.toList m=m):=Mf isD _ m (λh=>by simp at h;omega)
 go_wp2
 go_ret
 exact⟨Zm (by rw[<-hr.o,HE.o]),rfl⟩
theorem qe (t:ByteArray) (ht:0<t.size) (hs:t.size<=maxLen) (w:World) :
 Calls prog 219 #[.string t] w λe w'=>e=.returned (.int .i64 (SL t.data.toList))/\w'=w:=by
 unfold maxLen at hs;have he:(t.extract 0 2).toList=t.data.toList.take 2:=by rw[ByteArray.toList_eq];simp
 have hb:U5 t.data.toList 0=t[0]:=by rw[K8 _ _ (by simpa using ht)];exact Si t 0 ht _
 by_cases h2:2<=t.size
 ·go_enter func219,ntmps219
  go_wp2
  all_goals (go_ret;refine⟨Zm ?_,rfl⟩;simp_all[SL,Of,Sj])
 have hn:Of t.data.toList=false:=by
  cases h:Of t.data.toList
  ·rfl
  have:=xx _ h;simp at this;omega
 go_enter func219,ntmps219
 go_wp2
 all_goals (go_ret;refine⟨Zm ?_,rfl⟩;simp_all[SL,Sj])
theorem qd (s:ByteArray) (k:Nat) (hk:k<=s.size) (hs:s.size<=maxLen) (w:World) :
 Calls prog 134 #[.string s,.int .i64 k] w λe w'=>e=.returned (.int .i64 (YG false s.data.toList k))/\w'=w:=by
 have HS:=hI hs;unfold maxLen at hs;go_enter func134,ntmps134
 go_wp2
 go_loop [1] (λi=>∃m:Nat,m<=s.size/\i=.int .i64 m/\Hid (YG false s.data.toList m=YG false s.data.toList k)) (λi=>s.size - (intOf i).toNat)
 case atStart=>exact⟨k,hk,rfl,rfl⟩
 obtain⟨m,hm,rfl,hr⟩:=hrel;by_cases Z7:m<s.size
 ·have hl:m<s.data.toList.length:=by simpa using Z7
  have Y9:=Si s m Z7 hl;cases h1:((s[m].toNat:Int)==32)
  ·cases h2:((s[m].toNat:Int)==9)
   ·cases h3:((s[m].toNat:Int)==10)
    ·cases h4:((s[m].toNat:Int)==37)
     ·have HE:Hid (YG false s.data.toList m=m):=xy _ m hl (by rw[Y9];unfold isB;rw[h1,h2,h3];rfl) (by rw[Y9];exact h4)
      clear Y9;go_wp2
      go_ret
      exact⟨Zm (by rw[<-hr.o,HE.o]),rfl⟩
     have HE:Hid (YG false s.data.toList m=YG false s.data.toList (YH V5 s.data.toList m)):=fm _ m hl (by rw[Y9];simpa using h4)
     have hg:m<YH V5 s.data.toList m:=xD _ _ _ hl (by rw[Y9];unfold V5;rw[bne,h3];rfl)
     have V4:YH V5 s.data.toList m<=s.size:=by simpa using (JI V5 _ _ (Vm hl)).2
     clear Y9;go_wp2_with fail
     refine (fk s m hm HS.o _).mono ?_;rintro e w' ⟨rfl,rfl⟩;go_wp2
     go_round
     case rel=>exact⟨_,V4,rfl,HE.o▸hr.o⟩
     case measure=>simp[intOf];omega
    have HE:Hid (YG false s.data.toList m=YG false s.data.toList (m+1)):=AN _ m hl (by rw[Y9];unfold isB;rw[h3];simp)
    clear Y9;go_wp2
    go_round
    case rel=>exact⟨m+1,by omega,by go_num,HE.o▸hr.o⟩
    case measure=>simp[intOf];omega
   have HE:Hid (YG false s.data.toList m=YG false s.data.toList (m+1)):=AN _ m hl (by rw[Y9];unfold isB;rw[h2];simp)
   clear Y9;go_wp2
   go_round
   case rel=>exact⟨m+1,by omega,by go_num,HE.o▸hr.o⟩
   case measure=>simp[intOf];omega
  have HE:Hid (YG false s.data.toList m=YG false s.data.toList (m+1)):=AN _ m hl (by rw[Y9];unfold isB;rw[h1];simp)
  clear Y9;go_wp2
  go_round
  case rel=>exact⟨m+1,by omega,by go_num,HE.o▸hr.o⟩
  case measure=>simp[intOf];omega
 have HE:Hid (YG false s.data.toList m=m):=xB _ _ m (by simpa using Z7)
 go_wp2
 go_ret
 exact⟨Zm (by rw[<-hr.o,HE.o]),rfl⟩
theorem qc (kd a:Int) (t:ByteArray) (hs:t.size<=maxLen) (w:World) :
 Calls prog 136 #[.agg #[.int .i64 kd,.int .i64 a,.string t]] w λe w'=>e=.returned (.int .i64 (XT kd t))/\Bw w w':=by
 unfold maxLen at hs;by_cases h0:0<t.size
 ·have hb:U5 t.data.toList 0=t[0]:=by rw[K8 _ _ (by simpa using h0)];exact Si t 0 h0 _
  go_enter func136,ntmps136
  go_wp2
  all_goals
   go_ret
   refine⟨Zm ?_,(Z6 _ _).alloc (Z2 _) _⟩;simp only[beq_iff_eq,beq_eq_false_iff_ne] at *;unfold XT
   repeat' split
   all_goals first | rfl | omega | (rw[hb] at *;omega)
 go_enter func136,ntmps136
 go_wp2
 all_goals
  go_ret
  refine⟨Zm ?_,(Z6 _ _).alloc (Z2 _) _⟩;simp only[beq_iff_eq,beq_eq_false_iff_ne] at *;unfold XT
  repeat' split
  all_goals first | rfl | omega
theorem qb (s:ByteArray) (k:Nat):(s.extract k s.size).data.toList=s.data.toList.drop k:=by
 rw[ByteArray.data_extract,Array.toList_extract];simp only[List.extract_eq_take_drop];exact Zi (by simp)
theorem fh (s:ByteArray) (k:Nat) (hk:k<s.size) (hs:s.size<=maxLen) (w:World) (hL:isL s[k]=true) :
 Calls prog 135 #[.string s,.int .i64 k] w λe w'=>e=.returned (.agg #[.int .i64 1,.int .i64 k,.string (s.extract k (YH isW s.data.toList k))])/\Bw w w':=by
 have HS:=hI hs;unfold maxLen at hs;have hl:k<s.data.toList.length:=by simpa using hk
 have V4:k<=YH isW s.data.toList k:=(JI isW _ _ (Vm hl)).1;have xw:YH isW s.data.toList k<=s.size:=by simpa using (JI isW _ _ (Vm hl)).2
 have HL:=hI hL;clear hL;go_enter func135,ntmps135
 go_wp2_with fail
 refine (DZ _ _).mono ?_;rintro e w' ⟨rfl,rfl⟩;rw[HL.o];go_wp2_with fail
 refine (fj s k (by omega) HS.o _).mono ?_
 rintro e w' ⟨rfl,rfl⟩;go_wp2
 exact bodyPost_ret (v:=.agg #[.int .i64 1,.int .i64 k,.string (s.extract k (YH isW s.data.toList k))]) (by simp[results,results135,go_sem]) rfl ⟨rfl,(Z6 _ _).alloc (Z2 _) _⟩
theorem fg (s:ByteArray) (k:Nat) (hk:k<s.size) (hs:s.size<=maxLen) (w:World) (hL:isL s[k]=false) (hD:isD s[k]=true) :
 Calls prog 135 #[.string s,.int .i64 k] w λe w'=>e=.returned (.agg #[.int .i64 2,.int .i64 k,.string (s.extract k (YH isD s.data.toList k))])/\Bw w w':=by
 have HS:=hI hs;unfold maxLen at hs;have hl:k<s.data.toList.length:=by simpa using hk
 have V4:k<=YH isD s.data.toList k:=(JI isD _ _ (Vm hl)).1;have xw:YH isD s.data.toList k<=s.size:=by simpa using (JI isD _ _ (Vm hl)).2
 have HL:=hI hL;have HD:=hI hD;clear hL hD;go_enter func135,ntmps135
 go_wp2_with fail
 refine (DZ _ _).mono ?_;rintro e w' ⟨rfl,rfl⟩;rw[HL.o];go_wp2_with fail
 refine (Fg _ _).mono ?_;rintro e w' ⟨rfl,rfl⟩;rw[HD.o];go_wp2_with fail
 refine (fi s k (by omega) HS.o _).mono ?_
 rintro e w' ⟨rfl,rfl⟩;go_wp2
 exact bodyPost_ret (v:=.agg #[.int .i64 2,.int .i64 k,.string (s.extract k (YH isD s.data.toList k))]) (by simp[results,results135,go_sem]) rfl ⟨rfl,(Z6 _ _).alloc (Z2 _) _⟩
theorem fe (s:ByteArray) (k g:Nat) (hk:k<s.size) (hs:s.size<=maxLen) (w:World) (hL:isL s[k]=false) (hD:isD s[k]=false)
 (hg:SL (s.data.toList.drop k)=g) (h0:0<g) :
 Calls prog 135 #[.string s,.int .i64 k] w λe w'=>e=.returned (.agg #[.int .i64 3,.int .i64 k,.string (s.extract k (k+g))])/\Bw w w':=by
 have Y':(s.extract k s.size).size=s.size - k:=PK _ _ _ (Z2 _);have HZ:Hid (0<(s.extract k s.size).size/\(s.extract k s.size).size<=maxLen):=⟨by omega,by omega⟩
 unfold maxLen at hs;have V4:k+g<=s.size:=by have:=qh (s.data.toList.drop k) (by simp;omega);simp at this;omega
 have HL:=hI hL;have HD:=hI hD;have HG:Hid (SL (s.extract k s.size).data.toList=g):=by rw[qb];exact hg
 clear hL hD hg Y';go_enter func135,ntmps135
 go_wp2_with fail
 refine (DZ _ _).mono ?_;rintro e w' ⟨rfl,rfl⟩;rw[HL.o];go_wp2_with fail
 refine (Fg _ _).mono ?_;rintro e w' ⟨rfl,rfl⟩;rw[HD.o];go_wp2_with fail
 refine (qe _ HZ.o.1 HZ.o.2 _).mono ?_;rintro e w' ⟨rfl,rfl⟩;rw[HG.o];go_wp2
 exact bodyPost_ret (v:=.agg #[.int .i64 3,.int .i64 k,.string (s.extract k (k+g))]) (by simp[results,results135,go_sem]) rfl ⟨rfl,(Z6 _ _).alloc (Z2 _) _⟩
theorem fd (s:ByteArray) (k:Nat) (hk:k<s.size) (hs:s.size<=maxLen) (w:World) (hL:isL s[k]=false) (hD:isD s[k]=false)
 (hg:SL (s.data.toList.drop k)=0) :
 Calls prog 135 #[.string s,.int .i64 k] w λe w'=>e=.returned (.agg #[.int .i64 0,.int .i64 0,.string ByteArray.empty])/\Bw w w':=by
 have Y':(s.extract k s.size).size=s.size - k:=PK _ _ _ (Z2 _);have HZ:Hid (0<(s.extract k s.size).size/\(s.extract k s.size).size<=maxLen):=⟨by omega,by omega⟩
 unfold maxLen at hs;have HL:=hI hL;have HD:=hI hD;have HG:Hid (SL (s.extract k s.size).data.toList=0):=by rw[qb];exact hg
 clear hL hD hg Y';go_enter func135,ntmps135
 go_wp2_with fail
 refine (DZ _ _).mono ?_;rintro e w' ⟨rfl,rfl⟩;rw[HL.o];go_wp2_with fail
 refine (Fg _ _).mono ?_;rintro e w' ⟨rfl,rfl⟩;rw[HD.o];go_wp2_with fail
 refine (qe _ HZ.o.1 HZ.o.2 _).mono ?_;rintro e w' ⟨rfl,rfl⟩;rw[HG.o];go_wp2
 exact bodyPost_ret (v:=.agg #[.int .i64 0,.int .i64 0,.string ByteArray.empty]) (by simp[results,results135,go_sem];rfl) rfl ⟨rfl,(Z6 _ _).alloc (Z2 _) _⟩
def tokV (t:Tok):Value:=.agg #[.int .i64 t.kind,.int .i64 t.place,.string t.text]
theorem p_ (s:ByteArray) (k:Nat) (hk:k<s.size) (hs:s.size<=maxLen) (w:World) :
 Calls prog 135 #[.string s,.int .i64 k] w λe w'=>e=.returned (tokV (YT s k))/\Bw w w':=by
 have hl:k<s.data.toList.length:=by simpa using hk
 have hb:U5 s.data.toList k=s[k]:=by rw[K8 _ _ hl];exact Si s k hk _
 cases hL:isL s[k]
 ·cases hD:isD s[k]
  ·by_cases hg:SL (s.data.toList.drop k)=0
   ·have e1:YT s k=⟨0,0,ByteArray.empty⟩:=by unfold YT XJ;rw[hb,hL,hD,hg];rfl
    rw[e1];exact fd s k hk hs w hL hD hg
   have e1:YT s k=⟨3,k,s.extract k (k+SL (s.data.toList.drop k))⟩:=by
    unfold YT XJ XZ;rw[hb,hL,hD];simp[hg]
   rw[e1];exact fe s k _ hk hs w hL hD rfl (by omega)
  have e1:YT s k=⟨2,k,s.extract k (YH isD s.data.toList k)⟩:=by
   unfold YT XJ XZ;rw[hb,hL,hD];simp
  rw[e1];exact fg s k hk hs w hL hD
 have e1:YT s k=⟨1,k,s.extract k (YH isW s.data.toList k)⟩:=by
  unfold YT XJ XZ;rw[hb,hL];simp
 rw[e1];exact fh s k hk hs w hL
theorem p8:(prog.info? 161).map (λi=>(i.zero,i.size,i.bytes))=some (some (.agg #[.int .i64 0,.int .i64 0,.string ByteArray.empty]),3,32):=by kernel_rfl
def Td (t:Tok):List Value:=[.int .i64 t.kind,.int .i64 t.place,.string t.text]
def T8 (l:List Tok):List Value:=l.flatMap Td
theorem YZ {w w':World} {base:Nat} {e:TypeId} {size:Nat} {v:Value} {n:Nat} {xs:List Value} (h:w.ownsRow base e size v n xs) (hb:Bw w w'):w'.ownsRow base e size v n xs:=by
 refine⟨h.1,?_⟩;rcases h.2 with hn | ⟨g,cap,cur,hv,hg,hh,r⟩
 ·exact .inl hn
 exact .inr ⟨g,cap,cur,hv,hg,by rw[hb.block g (Z8.1 hh).1];exact hh,r⟩
theorem DY (w:World) (t:Tok):∀(j:Nat) (u:Value),(Td t)[j]? = some u ->
 (w.alloc (.cells #[.int .i64 t.kind,.int .i64 t.place,.string t.text] 161)).cell? ((⟨w.heap.size,0,none⟩:Addr).add j)=some u:=by
 intro j u hj
 match j,hj with
 | 0,hj=>simp[Td] at hj;subst hj;simp[Addr.add]
 | 1,hj=>simp[Td] at hj;subst hj;simp[Addr.add]
 | 2,hj=>simp[Td] at hj;subst hj;simp[Addr.add]
theorem DX (t:Tok):∀(u:Value),u∈Td t->u.oneCell'=true:=by
 intro u hu;simp only[Td,YJ,Tx,or_false] at hu;rcases hu with rfl | rfl | rfl <;> rfl
theorem pZ (s:ByteArray) (j:Nat):(YT s j).text.size<=s.size:=by
 unfold YT
 split
 ·simp
 show (s.extract _ _).size<=_;rw[ByteArray.size_extract];omega
theorem fc (s:ByteArray) (hs:s.size<=4000) (w:World) :
 Calls prog 74 #[.string s] w λe w'=>∃v,e=.returned (.tuple #[v,.int .i64 (YR s).2.1,.int .i64 (YR s).2.2]) /\
  w'.ownsRow w.heap.size 161 3 v (YR s).1.length (T8 (YR s).1)/\Bw w w':=by
 have HS:Hid (s.size<=maxLen):=by show s.size<=maxLen;unfold maxLen;omega
 obtain⟨i0,hi,Ze,Y_,Zb⟩:=info_parts p8;obtain⟨R,hR⟩:∃R,R=YR s:=⟨_,rfl⟩;rw[<-hR];have HR:Hid (R=Ut (s.size+1) s 0 []):=by rw[hR];unfold YR;rw[if_neg (by omega)];rfl
 clear hR;have h0:=xC false s.data.toList 0 (YI _);go_enter func74,ntmps74
 go_wp2_with fail
 refine (qd s 0 (YI _) HS.o _).mono ?_;rintro e w ⟨rfl,rfl⟩;go_wp2_with fail
 go_loopw [5,6] (λv i wr=>∃(k f j:Nat) (acc:List Tok),i=.int .i64 j/\Hid (YG false s.data.toList k=j)/\Hid (R=Ut f s k acc)/\s.size<k+f/\k<=s.size/\j<=s.size/\k<=j/\acc.length<=k /\
  wr.ownsRow w.heap.size 161 3 v acc.length (T8 acc)/\Bw w wr) (λ_ i _=>s.size - (intOf i).toNat)
 case atStart=>exact⟨0,s.size+1,_,[],rfl,rfl,HR,by omega,by omega,by simpa using h0.2,h0.1,Z2 _,ZH _ _ _ _,Z6 _ _⟩
 obtain⟨k,f,j,acc,rfl,hj,hR,hf,hk,Mc,xu,YX,Z9,Z3⟩:=hrel;by_cases Z7:j<s.size
 ·have hl:j<s.data.toList.length:=by simpa using Z7
  obtain⟨f,rfl⟩:∃f',f=f'+1:=⟨f - 1,by omega⟩
  obtain⟨t,ht⟩:∃t,t=YT s j:=⟨_,rfl⟩;have HT:=hI ht;have AM:t.text.size<=s.size:=by rw[ht];exact pZ s j
  have O0:Hid (t.text.size<=maxLen):=ZT AM HS.o;have Y':=Z3.size;clear ht;by_cases he:XT t.kind t.text=0
  ·have Zy:Hid (R=Ut f s (XZ s.data.toList j) (acc++[t])):=by rw[hR.o,HT.o];exact Md f s k j acc hj.o Z7 (by rw[<-HT.o];exact he)
   have Xj:=hI he;have Yr:XJ s.data.toList j≠0:=D0 s j (by rw[<-HT.o];exact he)
   have hen:j<XZ s.data.toList j:=D1 _ j hl Yr;have K6:XZ s.data.toList j<=s.size:=by simpa using (Fh _ j hl).2
   have AL:Hid (t.text.size=XZ s.data.toList j - j):=by
    rw[HT.o];unfold YT;rw[if_neg Yr];exact PK _ _ _ K6
   clear he Yr;go_wp2_with fail
   refine (p_ s j Z7 HS.o _).mono ?_;rintro e w1 ⟨rfl,Z5⟩;rw[<-HT.o];unfold tokV;have Vt:=Z5.size;go_wp2_with fail
   refine (qc _ _ _ O0.o _).mono ?_;rintro e w2 ⟨rfl,ZY⟩;rw[Xj.o];have WT:w1.heap.size+1<=w2.heap.size:=by simpa using ZY.size
   have XN:w2.cell? ⟨w1.heap.size,0,none⟩=some (.int .i64 t.kind):=(ZY.cell (by simp)).trans (by simp)
   have X':w2.cell? ⟨w1.heap.size,1,none⟩=some (.int .i64 t.place):=(ZY.cell (by simp)).trans (by simp)
   have Yb:w2.cell? ⟨w1.heap.size,2,none⟩=some (.string t.text):=(ZY.cell (by simp)).trans (by simp)
   have YO:w2.ownsRow w.heap.size 161 3 u5 acc.length (T8 acc):=YZ ((YZ Z9 Z5).alloc _) ZY;go_wp2_with (at_builtin;refine wpList_append_own _ rfl _ _ 86 rfl w.heap.size 161 i0 (.agg #[.int .i64 0,.int .i64 0,.string ByteArray.empty]) 3 32 underlying86 hi Ze Y_ Zb rfl (by decide) _ _ _ rfl (YO.alloc _) ⟨w2.heap.size,0,none⟩ 1 1 (Td t) rfl rfl ?c1 ?c2 ?c3 ?c4 ?c5 ?_)
   case c1=>exact DY w2 t
   case c2=>exact DX t
   case c3=>unfold maxLen;omega
   case c4=>omega
   case c5=>simp;omega
   intro v3 w3 ZX Z1 _;have xt:w3.cell? ⟨w1.heap.size,2,none⟩=some (.string t.text):=Z1.cell ((W7 _ _ _ (by omega)).trans Yb) (by intro h;have hq:=(Z9.lt _ h.symm).2;simp only at hq;omega)
   have ZG:Bw w w3:=((((Z3.trans (Z5.mono Y')).alloc (by omega) _).trans (ZY.mono (by simp;omega))).alloc (by omega) _).grown Z1 (by simp;omega) (λb h=>(Z9.lt _ h).1)
   have Zw:w3.ownsRow w.heap.size 161 3 v3 (acc++[t]).length (T8 (acc++[t])):=by
    have e1:T8 (acc++[t])=T8 acc++Td t:=by simp[T8]
    rw[e1,ZC];exact ZX
   clear ZX Z1 YO XN X' Yb ZY Z5 Z9 Z3 Vt WT Y';have pY:(j:Int)+(t.text.size:Int)=((XZ s.data.toList j:Nat):Int):=by rw[AL.o];omega
   have fb:=hI pY;clear pY;go_wp2_with fail
   rw[fb.o];refine (qd s (XZ s.data.toList j) K6 HS.o _).mono ?_;rintro e w3 ⟨rfl,rfl⟩;have h5:=xC false s.data.toList (XZ s.data.toList j) (by simpa using K6)
   have fa:=h5.1;have e_:YG false s.data.toList (XZ s.data.toList j)<=s.size:=by simpa using h5.2
   clear h5;go_wp2
   go_roundw
   case rel=>exact⟨XZ s.data.toList j,f,_,acc++[t],rfl,rfl,Zy,by omega,K6,e_,fa,by simp;omega,Zw,ZG⟩
   case measure=>simp[intOf];omega
  have Zy:Hid (R=([],j,XT t.kind t.text)):=by rw[hR.o,HT.o];exact K7 f s k j acc hj.o Z7 (by rw[<-HT.o];exact he)
  have Qo:(XT t.kind t.text != 0)=true:=by simpa using he
  clear he;obtain⟨er,Xj⟩:∃er,Hid (XT t.kind t.text=er):=⟨_,rfl⟩;rw[Xj.o] at Zy Qo;go_wp2_with fail
  refine (p_ s j Z7 HS.o _).mono ?_;rintro e w1 ⟨rfl,Z5⟩;rw[<-HT.o];unfold tokV;have Vt:=Z5.size;go_wp2_with fail
  refine (qc _ _ _ O0.o _).mono ?_;rintro e w2 ⟨rfl,ZY⟩;rw[Xj.o];go_wp2
  go_ret3
  rw[Zy.o];exact⟨_,rfl,ZH _ _ _ _,((Z3.trans (Z5.mono Y')).alloc (by omega) _).trans (ZY.mono (by simp;omega))⟩
 have Zy:Hid (R=(acc,0,0)):=by rw[hR.o];exact Is f s k acc (by rw[hj.o];exact Z7)
 go_wp2
 go_ret3
 rw[Zy.o];exact⟨_,rfl,Z9,Z3⟩
theorem Ir (s:ByteArray) (j n kd:Nat) (hk:XJ s.data.toList j=kd) (h0:kd≠0) (hn:XZ s.data.toList j=j+n):YT s j=⟨kd,j,s.extract j (j+n)⟩:=by
 unfold YT;rw[if_neg (by rw[hk];exact h0),hk,hn]
theorem AK (l:List Tok) (t:Tok):T8 (l++[t])=T8 l++Td t:=by simp[T8]
theorem pX (t:ByteArray) (h:12<t.size):XT 1 t=2:=by unfold XT;rw[if_pos rfl,if_pos h]
theorem pW (t:ByteArray) (h:¬12<t.size):XT 1 t=0:=by unfold XT;rw[if_pos rfl,if_neg h]
theorem pV (t:ByteArray) (h:4<t.size):XT 2 t=2:=by unfold XT;rw[if_neg (by decide),if_pos rfl,if_pos h]
theorem pU (t:ByteArray) (h:¬4<t.size) (h1:1<t.size) (h2:((U5 t.data.toList 0).toNat:Int)=48):XT 2 t=1:=by
 unfold XT;rw[if_neg (by decide),if_pos rfl,if_neg h,if_pos ⟨h1,h2⟩]
theorem AJ (t:ByteArray) (h:¬4<t.size) (h1:1<t.size->((U5 t.data.toList 0).toNat:Int)≠48):XT 2 t=0:=by
 unfold XT;rw[if_neg (by decide),if_pos rfl,if_neg h,if_neg (λh'=>h1 h'.1 h'.2)]
theorem pT (t:ByteArray):XT 3 t=0:=rfl
theorem pS (l:List UInt8) (j:Nat):XJ l j=0∨XJ l j=1∨XJ l j=2∨XJ l j=3:=by
 unfold XJ;repeat' split
 all_goals omega
theorem Ff (s:ByteArray) (hs:s.size<=maxLen) (w:World) :
 Calls prog 74 #[.string s] w λe w'=>∃v,e=.returned (.tuple #[v,.int .i64 (YR s).2.1,.int .i64 (YR s).2.2]) /\
  w'.ownsRow w.heap.size 161 3 v (YR s).1.length (T8 (YR s).1)/\Bw w w':=by
 by_cases h:s.size<=4000
 ·exact fc s h w
 unfold maxLen at hs;have hR:YR s=([],0,2):=by unfold YR;rw[if_pos (by omega)]
 rw[hR];clear hR;go_enter func74,ntmps74
 go_wp2
 go_ret3
 exact⟨_,rfl,ZH _ _ _ _,Z6 _ _⟩
theorem Iq (w:World) (a b:Nat):(w.drewN a).drewN b=w.drewN (a+b):=by
 unfold World.drewN;simp only[UU]
def e8 (w:World) (b off:Nat) (ts:List Tok):Prop :=
 ∀(i:Nat) (t:Tok),ts[i]? = some t->w.cell? ⟨b,off+i * 3,none⟩=some (.int .i64 t.kind)/\w.cell? ⟨b,off+i * 3+1,none⟩=some (.int .i64 t.place)/\w.cell? ⟨b,off+i * 3+2,none⟩=some (.string t.text)
def DW (t:Tok):Bool :=
 ((YR t.text).2.2==0)&&(((YR t.text).1.length==1)&&(((YR t.text).1.headD ⟨0,0,ByteArray.empty⟩).kind==t.kind&&((YR t.text).1.headD ⟨0,0,ByteArray.empty⟩).text.toList==t.text.toList))
theorem ZJ {w:World} {base:Nat} {e:TypeId} {size n:Nat} {v:Value} {xs:List Value} (h:w.ownsRow base e size v n xs):∃a cap,v=.slice a n cap:=by
 rcases h.2 with ⟨rfl,rfl⟩ | ⟨g,cap,cur,rfl,_⟩
 ·exact⟨_,_,rfl⟩
 exact⟨_,_,rfl⟩
theorem xq {w:World} {base:Nat} {v:Value} {ts:List Tok} (h:w.ownsRow base 161 3 v ts.length (T8 ts)) (h0:ts≠[]) :
 ∃g cap,v=.slice (some ⟨g,0,none⟩) ts.length cap/\base<=g/\g<w.heap.size/\e8 w g 0 ts:=by
 rcases h.2 with ⟨_,hn⟩ | ⟨g,cap,cur,hv,hg,hb,VS⟩
 ·exact absurd (Xf hn) h0
 have Z7:g<w.heap.size:=(Z8.1 hb).1;refine⟨g,cap,hv,hg,Z7,?_⟩;have hc:=h.cells (g:=g) (by rw[hv];rfl)
 intro i t ht;have key:∀j,j<3->(T8 ts)[i * 3+j]? = (Td t)[j]? := by
  intro j hj;clear hc h VS hb hv h0
  induction ts generalizing i with
  | nil=>simp at ht
  | cons a r ih =>
    cases i with
    | zero =>
      simp at ht;subst ht;simp only[T8,Qw];rw[V8 (by simp[Td];omega)];simp
    | succ i =>
      simp only[T8,Qw];rw[V9 (by simp[Td];omega)]
      have e1:(i+1) * 3+j - (Td a).length=i * 3+j:=by simp[Td];omega
      rw[e1];exact ih i (by simpa using ht)
 have Ip:∀j,(⟨g,0,none⟩:Addr).add j=⟨g,0+j,none⟩:=λj=>by unfold Addr.add;split <;> simp_all
 refine⟨?_,?_,?_⟩
 ·have:=hc (i * 3+0) _ (by rw[key 0 (by omega)];rfl);rw[Ip] at this;exact this
 ·have:=hc (i * 3+1) _ (by rw[key 1 (by omega)];rfl);rw[Ip] at this;exact this
 have:=hc (i * 3+2) _ (by rw[key 2 (by omega)];rfl);rw[Ip] at this;exact this
theorem eZ (l:List UInt8) (k:Nat) (hk:k<l.length) (h:XJ l k≠0):isB l[k]=false/\((l[k].toNat:Int)==37)=false:=by
 have hb:=K8 l k hk;have WB:U5 (l.drop k) 0=l[k]:=by rw[<-hb];unfold U5;simp
 unfold XJ at h;rw[hb] at h;have hs:isL l[k]=true∨isD l[k]=true∨SL (l.drop k)≠0:=by
  cases h1:isL l[k]
  ·cases h2:isD l[k]
   ·right;right;intro h3;simp[h1,h2,h3] at h
   right;left;rfl
  left;rfl
 have ne:∀n:Int,(n=32∨n=9∨n=10∨n=37)->(l[k].toNat:Int)≠n:=by
  intro n hn he;have e32:n<=37:=by omega
  rcases hs with h1 | h1 | h1
  ·simp only[isL,ZB,decide_eq_true_eq] at h1;omega
  ·simp only[isD,ZB,decide_eq_true_eq] at h1;omega
  unfold SL at h1
  split at h1
  ·rename_i h2
   rw[Yc hk] at h2;simp only[Of,T',beq_iff_eq,Ld,List.cons.injEq] at h2;rcases h2 with h2 | h2 | h2 | h2 | h2 <;> (rw[h2.1] at he;simp at he;omega)
  split at h1
  ·rename_i h2
   rw[WB] at h2;simp only[Sj,T',beq_iff_eq] at h2;omega
  exact h1 rfl
 refine⟨?_,by simpa using ne 37 (by omega)⟩
 unfold isB;rw[show ((l[k].toNat:Int)==32)=false by simpa using ne 32 (by omega),show ((l[k].toNat:Int)==9)=false by simpa using ne 9 (by omega),show ((l[k].toNat:Int)==10)=false by simpa using ne 10 (by omega)]
 rfl
theorem eY (f:Nat) (s:ByteArray):∀(k:Nat) (acc:List Tok),(Ut f s k acc).2.2=0->∃r,(Ut f s k acc).1=acc++r:=by
 induction f with
 | zero=>intro k acc _;exact⟨[],by simp[Ut]⟩
 | succ f ih =>
   intro k acc h;by_cases h1:YG false s.data.toList k<s.size
   ·by_cases h2:XT (YT s (YG false s.data.toList k)).kind (YT s (YG false s.data.toList k)).text=0
    ·rw[Md f s k _ acc rfl h1 h2] at h ⊢
     obtain⟨r,hr⟩:=ih _ _ h;exact⟨YT s (YG false s.data.toList k) :: r,by rw[hr];simp⟩
    rw[K7 f s k _ acc rfl h1 h2] at h;exact absurd h h2
   exact⟨[],by rw[Is _ s k acc h1];simp⟩
def RJ (kind:Int) (s:ByteArray):Bool :=
 decide (0<s.size)&&(decide (s.size<=4000)&&(decide (kind≠0)&&(decide ((XJ s.data.toList 0:Int)=kind)&&(decide (XZ s.data.toList 0=s.size)&&decide (XT kind s=0)))))
theorem xp (kind:Int) (s:ByteArray):RJ kind s=true↔0<s.size/\s.size<=4000/\kind≠0/\(XJ s.data.toList 0:Int)=kind/\XZ s.data.toList 0=s.size/\XT kind s=0:=by
 simp only[RJ,ZB,decide_eq_true_eq]
theorem eX (s:ByteArray):s.extract 0 s.size=s:=by
 apply ByteArray.ext;rw[ByteArray.data_extract];exact Array.extract_size
theorem T7 (s:ByteArray):s.data.toList.length=s.size:=by simp
theorem eW (kind:Int) (s:ByteArray) (h:RJ kind s=true):YR s=([⟨kind,0,s⟩],0,0):=by
 obtain⟨h0,h4,hk,UE,hend,xm⟩:=(xp kind s).1 h;have hl:0<s.data.toList.length:=by rw[T7];exact h0
 have Yr:XJ s.data.toList 0≠0:=by intro h';rw[h'] at UE;exact hk UE.symm
 obtain⟨Z5,ZY⟩:=eZ _ 0 hl Yr;have Tu:YG false s.data.toList 0=0:=xy _ 0 hl Z5 ZY;have ht:YT s 0=⟨kind,0,s⟩:=by
  unfold YT;rw[if_neg Yr,hend,UE,eX];rfl
 have he:XT (YT s 0).kind (YT s 0).text=0:=by rw[ht];exact xm
 unfold YR;rw[if_neg (by omega),Md _ s 0 0 [] Tu h0 he,hend,ht]
 rw[Is _ s s.size _ (by rw[xB _ _ _ (by rw[T7];omega)];omega)]
 simp
theorem eV (t:Tok):DW t=RJ t.kind t.text:=by
 cases hi:RJ t.kind t.text
 ·cases ha:DW t
  ·rfl
  exfalso
  simp only[DW,ZB,beq_iff_eq] at ha;obtain⟨h1,h2,h3,h4⟩:=ha;have Mb:((YR t.text).1.headD ⟨0,0,ByteArray.empty⟩).text=t.text:=by
   rw[ByteArray.toList_eq,ByteArray.toList_eq] at h4;exact ByteArray.ext (Array.toList_inj.1 h4)
  generalize hs:t.text=s at *;by_cases DV:4000<s.size
  ·unfold YR at h1;rw[if_pos DV] at h1;exact absurd h1 (by decide)
  unfold YR at h1 h2 h3 Mb;rw[if_neg DV] at h1 h2 h3 Mb;by_cases Tu:YG false s.data.toList 0<s.size
  ·by_cases he:XT (YT s (YG false s.data.toList 0)).kind (YT s (YG false s.data.toList 0)).text=0
   ·rw[Md _ s 0 _ [] rfl Tu he] at h1 h2 h3 Mb
    obtain⟨r,hr⟩:=eY _ s _ _ h1;rw[hr] at h3 Mb;simp only[O2,O3,List.headD_cons] at h3 Mb;have Yr:=D0 s _ he;have hl:YG false s.data.toList 0<s.data.toList.length:=by rw[T7];exact Tu
    have V4:=(Fh _ _ hl).2;rw[T7] at V4;have Y':(YT s (YG false s.data.toList 0)).text.size=XZ s.data.toList (YG false s.data.toList 0) - YG false s.data.toList 0:=by
     unfold YT;rw[if_neg Yr];exact PK _ _ _ V4
    rw[Mb] at Y';have hz:YG false s.data.toList 0=0:=by omega
    rw[hz] at Y' h3 Mb he Yr;have SK:(XJ s.data.toList 0:Int)=t.kind:=by rw[<-h3];unfold YT;rw[if_neg Yr]
    have:RJ t.kind s=true:=(xp _ _).2 ⟨by omega,by omega,by rw[<-SK];omega,SK,by omega,by rw[h3,Mb] at he;exact he⟩
    rw[this] at hi;cases hi
   rw[K7 _ s 0 _ [] rfl Tu he] at h1;exact he h1
  rw[Is _ s 0 [] Tu] at h2;simp at h2
 have h1:=eW _ _ hi;unfold DW;rw[h1];simp
end Go.Proofs.YtndcpnlaadikoaaGreatDoor
