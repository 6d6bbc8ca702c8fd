/- What the proof leans on, part 46. -/
import Derived.Test.YtndcpnlaadikoaaGreatDoorPartBs
import Derived.Shelf.Strings.BuilderK
import Derived.Lib.AppendIntMem
import Derived.Lib.ItoaLen
set_option maxRecDepth 100000
set_option maxHeartbeats 3200000
open Go.Proofs.Tryz
namespace Go.Proofs.YtndcpnlaadikoaaGreatDoor
theorem ge (en:Int) (T:List Tok) (p:RP):∀(ws:List ByteArray) (i:Nat),(YP en T p ws i).1=0∨((i:Int)<=(YP en T p ws i).1/\(YP en T p ws i).1<((i+ws.length:Nat):Int))
 | [],i=>by unfold YP;exact Or.inl rfl
 | s :: r,i=>by
   unfold YP
   split
   ·right;dsimp only;simp only[Xe];omega
   rcases ge en T p r (i+1) with h | h
   ·exact Or.inl h
   right;simp only[Xe] at h ⊢;omega
def OpIn (l:MLit):Prop:=1<=l.op/\l.op<=4
theorem gd (en:Int) (T:List Tok) (nm:List ByteArray) (p:RP):OpIn (litR en T nm p).1:=by
 unfold litR OpIn
 dsimp only
 have:=ge en T (vR en T nm p).2 opWL.tail 0;have e:opWL.tail.length=4:=rfl;rw[e] at this;omega
theorem gc {α:Type} (en:Int) (T:List Tok) (item:RP->α×RP) (P:α->Prop) (hi:∀p,P (item p).1):∀(f:Nat) (acc:List α) (q:Bool×RP),(∀x∈acc,P x)->∀x∈(Vw en T item f acc q).1,P x
 | 0,acc,q,h=>by unfold Vw;exact h
 | f+1,acc,q,h=>by
   unfold Vw
   split
   ·refine gc en T item P hi f _ _ (λx hx=>?_)
    rcases Xn.1 hx with hx | hx
    ·exact h x hx
    rw[Zh.1 hx];exact hi _
   exact h
theorem zVQ {α:Type} (en:Int) (T:List Tok) (item:RP->α×RP) (P:α->Prop) (hi:∀p,P (item p).1) (p:RP):∀x∈(Zc en T item p).1,P x :=
 gc en T item P hi _ _ _ (λx hx=>by cases hx)
theorem ga {α:Type} (en:Int) (T:List Tok) (wd:List UInt8) (item:RP->α×RP) (P:α->Prop) (hi:∀p,P (item p).1):∀(f:Nat) (acc:List α) (p:RP),(∀x∈acc,P x)->∀x∈(rowR en T wd item f acc p).1,P x
 | 0,acc,p,h=>by unfold rowR;exact h
 | f+1,acc,p,h=>by
   unfold rowR
   split
   ·refine ga en T wd item P hi f _ _ (λx hx=>?_)
    rcases Xn.1 hx with hx | hx
    ·exact h x hx
    rw[Zh.1 hx];exact hi _
   exact h
theorem zW4 (en:Int) (T:List Tok) (nm:List ByteArray) (p:RP):∀l∈(conR en T nm p).1.lits,OpIn l:=by
 unfold conR;generalize (YP en T p WF.tail 0).2=p1;generalize 1+(YP en T p WF.tail 0).1=k;unfold QY
 split
 ·intro l hl;cases hl
 split
 ·intro l hl;cases hl
 split
 ·intro l hl;cases hl
 split
 ·intro l hl;cases hl
 split
 ·intro l hl;cases hl
 split
 ·intro l hl;cases hl
 split
 ·exact zVQ en T (litR en T nm) OpIn (gd en T nm) p1
 split
 ·intro l hl;rw[Zh.1 hl];exact gd en T nm _
 intro l hl;cases hl
theorem zRR (en:Int) (T:List Tok) (p:RP):jQ (RZ en T p).1:=by
 intro c hc;unfold RZ at hc;exact ga en T [99,111,110] _ (λc=>∀l∈c.lits,OpIn l) (λp=>zW4 en T _ _) _ _ _ (λx hx=>by cases hx) c hc
theorem f_ (s:ByteArray):QD s=Xb s:=by
 unfold QD Xb;by_cases h0:(YR s).2.2=0
 ·rw[if_pos h0,if_pos h0]
  have hm:=zRP (s.size:Int) (YR s).1 (gA s) ⟨0,0⟩ rfl (YI _);have hl:=zRR (s.size:Int) (YR s).1 ⟨0,0⟩;rw[show (YR s).1.drop (⟨0,0⟩:RP).k=(YR s).1 from rfl] at hm
  unfold Sn;cases hq:Gi (s.size:Int) (YR s).1 with
  | ok m r =>
    rw[hq] at hm;obtain⟨e1,e2,e3,e4⟩:=hm;have h1:=zNE _ hl;have h2:=zO1 _ _ e4;rw[if_pos e1]
    dsimp only
    rw[if_pos rfl,h1,h2.1];by_cases hc:Zs m=0
    ·rw[if_pos hc,if_pos hc,h2.2 hc]
    rw[if_neg hc,if_neg hc]
  | bad x e =>
    rw[hq] at hm;obtain⟨e1,e2,e3,e4⟩:=hm;rw[if_neg (by rw[e1];exact e2)]
    dsimp only
    rw[if_neg e2,e3,e1]
 rw[if_neg h0,if_neg h0]
theorem zNe (s:ByteArray) (h:(Xb s).2.2=0):Zs (Xb s).1=0/\Q4 (Xb s).1=0:=by
 constructor
 ·unfold Xb at h ⊢
  split
  ·rename_i h1
   rw[if_pos h1] at h
   split
   ·rename_i h2
    rw[if_pos h2] at h
    split
    ·assumption
    rename_i h3;rw[if_neg h3] at h;exact absurd h h3
   rename_i h2;rw[if_neg h2] at h;exact absurd h h2
  rename_i h1;rw[if_neg h1] at h;exact absurd h h1
 rw[<-f_] at h ⊢;unfold QD at h ⊢
 split
 ·rename_i h1
  rw[if_pos h1] at h
  split
  ·rename_i h2
   rw[if_pos h2] at h
   split
   ·assumption
   rename_i h3;rw[if_neg h3] at h;exact absurd h h3
  rename_i h2;rw[if_neg h2] at h;exact absurd h h2
 rename_i h1;rw[if_neg h1] at h;exact absurd h h1
theorem qw (m:Mod) (hm:Zs m=0) (given:List Cla) (hg:given.length<=1) (l:List MStep):Q' m given l=PY m given l:=by
 unfold Q' PY;rw[if_pos hm];by_cases h:6000<l.length
 ·rw[if_pos h,if_pos (Or.inr h)]
 rw[if_neg h,if_neg (show ¬(600<given.length∨6000<l.length) from λh'=>h'.elim (λh'=>by omega) h)]
def Fp (m:Mod) (given:List Cla) (l:List MStep):Bool:=Mr l&&U2 m (given.map (zAH m.vars)) l
theorem f9 (m:Mod) (hm:Zs m=0) (given:List Cla) (hg:given.length<=1) (l:List MStep):R0 m given l=(decide (PY m given l=0)&&Fp m given l,PY m given l):=by
 unfold R0 Fp;rw[qw m hm given hg l];by_cases h:PY m given l=0
 ·rw[if_pos h,h]
  cases Mr l <;> simp
 rw[if_neg h,decide_eq_false h];rfl
theorem zRS (m:Mod) (hm:Zs m=0) (l:List MStep):Mq m [] l=(decide (PY m [] l=0)&&Fp m [] l,PY m [] l):=by
 unfold Mq;rw[if_pos (Tw (α:=Int)),f9 m hm [] (YI _) l]
theorem zRT (m:Mod) (vals:List Int) (h0:vals.length≠0) (hb:(U9 m vals).2≠0) (l:List MStep):Mq m vals l=(false,(U9 m vals).2):=by
 unfold Mq;rw[if_neg h0,if_neg hb]
theorem qv (m:Mod) (hm:Zs m=0) (vals:List Int) (hb:(U9 m vals).2=0):vals.length=m.vars.length/\(U9 m vals).1=VX m vals/\(m.goal=0∨¬(Zx vals m.var<(ZF m.vars m.var.toNat).lo∨(ZF m.vars m.var.toNat).hi<Zx vals m.var)):=by
 unfold U9 at hb ⊢;rw[if_pos hm] at hb ⊢;by_cases hl:vals.length=m.vars.length
 ·rw[if_pos hl] at hb ⊢
  by_cases hc:m.goal≠0/\(Zx vals m.var<(ZF m.vars m.var.toNat).lo∨(ZF m.vars m.var.toNat).hi<Zx vals m.var)
  ·rw[if_pos hc] at hb;cases hb
  rw[if_neg hc];refine⟨hl,rfl,?_⟩;by_cases hg:m.goal=0
  ·exact Or.inl hg
  exact Or.inr λh=>hc ⟨hg,h⟩
 rw[if_neg hl] at hb;cases hb
theorem zTj (m:Mod) (hm:Zs m=0) (vals:List Int) (h0:vals.length≠0) (hb:(U9 m vals).2=0) (l:List MStep) :
 Mq m vals l=(decide (PY m [VX m vals] l=0)&&Fp m [VX m vals] l&&allB m vals,PY m [VX m vals] l):=by
 obtain⟨hl,hc,_⟩:=qv m hm vals hb;unfold Mq;rw[if_neg h0,if_pos hb,hc,f9 m hm _ (Z2 _) l];by_cases hS:PY m [VX m vals] l=0
 ·rw[hS]
  cases hP:Fp m [VX m vals] l
  ·rfl
  have:allA m vals=(allB m vals,0):=by unfold allA allB;rw[if_pos hm,if_pos hl]
  simp[this]
 rw[decide_eq_false hS];rfl
open Go.RowKit
theorem zRU (B b:Nat) (l:List UInt8) (w:World) (h:Lib.IsBuilderF 179 5 B b (Lib.byteCells l) w) (Jv:B<=w.heap.size) :
 Calls prog 116 #[.pointer (some ⟨b,0,none⟩)] w λe w'=>e=.returned (.string ⟨l.toArray⟩)/\(Lib.IsBuilderF 179 5 B b (Lib.byteCells l) w'/\Below B w w'/\Lib.OthersKept 5 (some b) w w') :=
 Any.Builder_String_any_k Tryz.lays169 Tryz.Builder_Extra_169 B b l w h Jv
theorem zKJ (b:Nat) (w:World) (h0:w.cell? ⟨b,0,none⟩=some (.pointer (some ⟨b,0,none⟩))) :
 Calls prog 239 #[.pointer (some ⟨b,0,none⟩)] w λe w'=>e=.returned (.tuple #[])/\w'=w:=by
 obtain⟨j,hj,_⟩:=QB.1 Tryz.Builder_Extra_169.sizeBuilder;go_enter func239,ntmps239
 go_wp2
 rw[Lib.run_neq_ptr_same w _ underlying176 hj];go_wp2
 go_end0
 exact⟨rfl,rfl⟩
theorem zJ3 (b:Nat) (w:World) (h0:w.cell? ⟨b,0,none⟩=some (.pointer none)) (vP:w.shape? b=some (179,2)) (fy:w.frozen? ⟨b,0,none⟩=false) :
 Calls prog 239 #[.pointer (some ⟨b,0,none⟩)] w λe w'=>e=.returned (.tuple #[])/\w'=w.setCell ⟨b,0,none⟩ (.pointer (some ⟨b,0,none⟩)):=by
 obtain⟨j,hj,Mc⟩:=QB.1 Tryz.Builder_Extra_169.sizeBuilder;go_enter func239,ntmps239
 go_wp2
 rw[Lib.run_to_unsafe w ⟨b,0,none⟩ underlying176 underlying309 hj (by rw[Mc];decide) vP (Nat.zero_lt_succ 1)]
 simp only[Result.andThen];rw[Oper.upon_value];go_wp2
 rw[run_callFunc_extern func274 (by kernel_rfl) (by kernel_rfl) (by kernel_rfl) (e:=Extern.AbiNoEscape.same) (by kernel_rfl)]
 rw[Lib.run_noEscape];simp only[Result.andThen];rw[Oper.upon_value];go_wp2
 rw[Lib.run_from_unsafe w ⟨b,0,none⟩ underlying309 underlying176 hj vP Tryz.Builder_Extra_169.liesBuilder];simp only[Result.andThen];rw[Oper.upon_value];go_wp2
 go_end0
 exact⟨rfl,rfl⟩
theorem zTk (B b:Nat) (bs:List Value) (w:World) (h:Lib.IsBuilderF 179 5 B b bs w) :
 Calls prog 239 #[.pointer (some ⟨b,0,none⟩)] w λe w'=>e=.returned (.tuple #[])/\(Lib.BuilderAtF 179 5 B b (.pointer (some ⟨b,0,none⟩)) bs w'/\Below B w w'/\Lib.OthersKept 5 (some b) w w'):=by
 rcases h with h | h
 ·refine (zJ3 b w h.cell0 h.shape h.frozen0).mono ?_
  rintro e w' ⟨rfl,rfl⟩;exact⟨rfl,h.used _,(Z6 B w).setCell (p:=⟨b,0,none⟩) h.1 _,(Lib.OthersKept.refl _ _ w).setCell ⟨b,0,none⟩ rfl _⟩
 refine (zKJ b w h.cell0).mono ?_;rintro e w' ⟨rfl,rfl⟩;exact⟨rfl,h,Z6 B _,Lib.OthersKept.refl _ _ _⟩
theorem f8 (B b:Nat) (bs:List Value) (s:ByteArray) (w:World) (h:Lib.IsBuilderF 179 5 B b bs w) (Zr:bs.length+s.size<=140737488355328) (Jv:B<=w.heap.size) :
 Calls prog 176 #[.pointer (some ⟨b,0,none⟩),.string s] w λe w'=>e=.returned (.tuple #[.int .i64 s.size,.nilIface])/\(Lib.BuilderAtF 179 5 B b (.pointer (some ⟨b,0,none⟩)) (bs++Lib.strCells s) w'/\Below B w w'/\Lib.OthersKept 5 (some b) w w'):=by
 obtain⟨i0,hi,Ze,Y_,Zb⟩:=info_parts Tryz.Builder_Extra_169.infoByte;go_enter func176,ntmps176
 go_wp2_with fail
 refine (zTk B b bs _ h).mono ?_;rintro e w1 ⟨rfl,h1,Z5,X6⟩;obtain⟨hB,v,xL,Z9,ZP⟩:=h1;have c0:w1.cell? ⟨b,0,none⟩=some (.pointer (some ⟨b,0,none⟩)):=by rw[Lib.cell_of_heap xL];rfl
 have c1:w1.cell? ⟨b,1,none⟩=some v:=by rw[Lib.cell_of_heap xL];rfl
 go_wp2_with (at_builtin;refine Lib.wpList_append_own_stringF _ rfl _ _ 177 9 rfl B 5 i0 underlying177 underlying9 hi Ze Y_ Zb _ _ _ rfl Z9 s rfl ?c3 ?c4 ?c5 ?_)
 case c3=>unfold maxLen;omega
 case c4=>omega
 case c5=>have:=Z5.size;omega
 intro v' w2 UB Z1 _;have Z7:b<w1.heap.size:=by
  rcases Nat.lt_or_ge b w1.heap.size with h' | h'
  ·exact h'
  simp[Array.getElem?_eq_none h'] at xL
 have ZY:w2.heap[b]? = some (.cells #[.pointer (some ⟨b,0,none⟩),v] 179 (0,0)):=by
  rw[Z1.block b Z7 (λe=>ZP e.symm)]
  exact xL
 have d0:w2.cell? ⟨b,0,none⟩=some (.pointer (some ⟨b,0,none⟩)):=by rw[Lib.cell_of_heap ZY];rfl
 have d1:w2.cell? ⟨b,1,none⟩=some v:=by rw[Lib.cell_of_heap ZY];rfl
 have f1:w2.frozen? ⟨b,1,none⟩=false:=Lib.frozen_of_heap ZY 1;obtain⟨ao,n',cap,rfl⟩:∃ao n' cap,v'=.slice ao n' cap:=by
  rcases UB.2 with ⟨hv,_⟩ | ⟨g,cap,cur,fz,hv,_⟩
  ·exact⟨_,_,_,hv⟩
  exact⟨_,_,_,hv⟩
 go_wp2
 go_ret2
 refine⟨rfl,?_,?_,(X6.grown Z1 (Lib.ownsRowF_kind Z9)).setCell ⟨b,1,none⟩ rfl _⟩
 ·exact Lib.BuilderAtF.put (T:=179) (e:=5) hB ZY (bs':=bs++Lib.strCells s) (by simpa[Lib.strCells_length] using UB) Tryz.Builder_Extra_169.neB5
 exact (Z5.grown Z1 (by have:=Z5.size;omega) (λk hk=>(Z9.lt k hk).1)).setCell (p:=⟨b,1,none⟩) hB _
def Oh (goal:Int):ByteArray:=if goal=0 then ⟨#[102,111,117,110,100,10]⟩ else ⟨#[98,101,115,116,10]⟩
def PM (n:Int):ByteArray:=⟨(Lib.itoa n).toArray⟩
def xK (vs:List MVar) (k:Nat):ByteArray:=(vs.getD k oT).name
def Fo (vs:List MVar) (k:Nat) (x:Int):ByteArray:=xK vs k++⟨#[32,61,32]⟩++PM x++⟨#[10]⟩
def O8 (vs:List MVar) (xs:List Int):List UInt8:=((List.range xs.length).map λk=>(Fo vs k (xs.getD k 0)).data.toList).flatten
def D4 (m:Mod) (a:Ans):ByteArray :=
 if a.verdict=2 then ⟨#[110,111,110,101,10]⟩ else if a.verdict=3 then ⟨#[117,110,107,110,111,119,110,10]⟩ else ⟨((Oh m.goal).data.toList++O8 m.vars a.values).toArray⟩
theorem fZ (vs:List MVar) (xs:List Int) (k:Nat) (x:Int) (h:xs[k]? = some x):O8 vs (xs.take (k+1))=O8 vs (xs.take k)++(Fo vs k x).data.toList:=by
 have hk:=(ZN.1 h).1;unfold O8;have l1:(xs.take (k+1)).length=k+1:=by rw[X_];omega
 have l2:(xs.take k).length=k:=by rw[X_];omega
 rw[l1,l2,List.range_succ,YY,La]
 congr 1
 ·congr 1
  apply Nz;intro j hj;have hj:=W6.1 hj
  congr 2
  rw[ZO,ZO,Qx,Qx,if_pos (by omega),if_pos (by omega)]
 simp only[VH,T9,RR,List.flatten_nil,TA]
 congr 2
 rw[ZO,Qx,if_pos (by omega),h];rfl
theorem zTm (goal:Int) (w:World):Calls prog 177 #[.int .i64 goal] w λe w'=>e=.returned (.string (Oh goal))/\w'=w:=by
 unfold Oh;by_cases hg:goal=0
 ·subst hg
  go_enter func177,ntmps177
  go_wp2
  go_ret
  exact⟨rfl,rfl⟩
 rw[if_neg hg];have R8:(goal==0)=false:=by simpa using hg
 go_enter func177,ntmps177
 go_wp2
 go_ret
 exact⟨rfl,rfl⟩
def TabP (w:World):Prop:=Lib.TabIs prog w "internal/strconv.uint64pow10" .u64 Lib.pow10Tab
theorem fY (n:Int) (hn:-1000000<=n/\n<=1000000) (w:World) (hP:TabP w):Calls prog 108 #[.int .i64 n] w λe w'=>e=.returned (.string (PM n))/\Bw w w' :=
 (Tryz.strconv_Itoa n (by omega) (by omega) w hP).mono (by
   rintro e w1 ⟨rfl,k,os,hw⟩;exact⟨rfl,by rw[hw];exact Lib.below_grow w.heap.size w (Z2 _) k os⟩)
theorem zVR (w:World):Lib.IsBuilderF 179 5 w.heap.size w.heap.size (Lib.byteCells []) (w.alloc (.cells #[.pointer none,.slice none 0 0] 179)) :=
 Or.inl ⟨Z2 _,.slice none 0 0,by show (w.heap.push _)[w.heap.size]? = _;simp,World.ownsRowF_of (ZH _ _ _ _),by simp[Value.ownBlock]⟩
theorem TabP.below {w w':World} (h:TabP w) (hb:Bw w w'):TabP w':=by
 unfold TabP at h ⊢;unfold Lib.TabIs World.var? at h ⊢;cases hg:prog.globalNamed "internal/strconv.uint64pow10" with
 | none=>rw[hg] at h;exact h
 | some g =>
   rw[hg] at h;have Z7:g<w.heap.size:=by
    rcases Nat.lt_or_ge g w.heap.size with h' | h'
    ·exact h'
    simp[Array.getElem?_eq_none h'] at h
   have ZY:=hb.block g Z7;simp only[Option.bind_some] at h ⊢;rw[ZY];exact h
theorem zTn {B b:Nat} {bs:List Value} {w w':World} (h:Lib.IsBuilderF 179 5 B b bs w) (hb:Bw w w'):Lib.IsBuilderF 179 5 B b bs w':=by
 have one:∀p,Lib.BuilderAtF 179 5 B b p bs w->Lib.BuilderAtF 179 5 B b p bs w':=by
  rintro p ⟨h1,v,h2,h3,h4⟩;refine⟨h1,v,(hb.block b (Z8.1 h2).1).trans h2,?_,h4⟩;refine⟨h3.1,?_⟩;rcases h3.2 with hn | ⟨g,cap,cur,z,hv,hg,hh,r⟩
  ·exact .inl hn
  exact .inr ⟨g,cap,cur,z,hv,hg,(hb.block g (Z8.1 hh).1).trans hh,r⟩
 rcases h with h | h
 ·exact Or.inl (one _ h)
 exact Or.inr (one _ h)
theorem zTo (a b:List UInt8):Lib.byteCells (a++b)=Lib.byteCells a++Lib.byteCells b:=by unfold Lib.byteCells;rw[YY]
theorem fX (l:List UInt8):(Lib.byteCells l).length=l.length:=by unfold Lib.byteCells;rw[YU]
theorem fW (vs:List MVar) (xs:List Int) (hn:∀x∈vs,x.name.size<=1000) (hi:∀x∈xs,(PM x).size<=100):∀(k:Nat),k<=xs.length->(O8 vs (xs.take k)).length<=2000 * k
 | 0,_=>by simp[O8]
 | k+1,hk=>by
   have hx:xs[k]? = some (xs[k]'(by omega)):=by rw[ZA (by omega)]
   rw[fZ vs xs k _ hx,ZC];have h1:=fW vs xs hn hi k (by omega)
   have h2:(Fo vs k (xs[k]'(by omega))).data.toList.length=(Fo vs k (xs[k]'(by omega))).size:=rfl
   have h3:(Fo vs k (xs[k]'(by omega))).size<=1200:=by
    unfold Fo;rw[ByteArray.size_append,ByteArray.size_append,ByteArray.size_append];have h4:=hi _ (Zz hx);have h5:(xK vs k).size<=1000:=by
     unfold xK;by_cases Hi:k<vs.length
     ·rw[ZO,ZA Hi]
      exact hn _ (Qs _)
     rw[ZO,V7 (by omega)]
     decide
    have h6:(⟨#[32,61,32]⟩:ByteArray).size=3:=rfl;have h7:(⟨#[10]⟩:ByteArray).size=1:=rfl;omega
   omega
theorem zVS (m:Mod) (a:Ans) (hn:∀x∈m.vars,x.name.size<=1000) (hl:a.values.length<=m.vars.length) (zb:m.vars.length<=6) (hx:∀x∈a.values,-1000<=x/\x<=1000) (hi:∀x∈a.values,(PM x).size<=100) (vs cs vv:Value) (ap:Option Addr) (np cp:Nat) (w:World) (Y8:MArg w vs cs m) (hv:IArg w vv a.values) (hP:TabP w) :
 Calls prog 109 #[modV vs cs m,.agg #[.int .i64 a.verdict,vv,.slice ap np cp]] w λe w'=>e=.returned (.string (D4 m a))/\Bw w w':=by
 have Y3:Hid (∀w',Bw w w'->MArg w' vs cs m):=λw' h=>MArg.below h Y8
 have HP:Hid (∀w',Bw w w'->TabP w'):=λw' h=>hP.below h
 obtain⟨⟨a1,c1,rfl,_,OK⟩,⟨a2,c2,rfl,_,_⟩⟩:=Y8;obtain⟨av,cv,rfl,_,I5⟩:=hv;have HV:=hI OK
 have HI:=hI I5;obtain⟨R,hR⟩:∃R,D4 m a=R:=⟨_,rfl⟩;rw[hR];unfold D4 at hR;have HR:=(show Hid _ from hR)
 have HN:=hI hn;have BP:=hI hx;have fU:=hI hi;clear hR OK I5 hn hx hi hP;unfold modV;go_enter func109,ntmps109
 by_cases h2:a.verdict=2
 ·have hR:=HR.o
  rw[if_pos h2] at hR;subst hR;rw[h2];clear HR h2;go_wp2
  go_ret
  exact⟨rfl,(Z4 _ _).alloc (by simp) _⟩
 by_cases h3:a.verdict=3
 ·have hR:=HR.o
  rw[if_neg h2,if_pos h3] at hR;subst hR;rw[h3];clear HR h2 h3;go_wp2
  go_ret
  exact⟨rfl,(Z4 _ _).alloc (by simp) _⟩
 have hR:=HR.o;rw[if_neg h2,if_neg h3] at hR;have Zy:=(show Hid _ from hR)
 have l8:(a.verdict==2)=false:=by simpa using h2
 have CB:(a.verdict==3)=false:=by simpa using h3
 clear hR HR h2 h3;go_wp2_with fail
 refine (zTm m.goal _).mono ?_;rintro e wf ⟨rfl,xJ⟩;obtain⟨q1,q2⟩:=zm w (.cells #[.slice a1 m.vars.length c1,.slice a2 m.cons.length c2,.int .i64 m.goal,.int .i64 m.var] 25) (.cells #[.int .i64 a.verdict,.slice av a.values.length cv,.slice ap np cp] 53);have Xi:Bw w ((w.alloc (.cells #[.slice a1 m.vars.length c1,.slice a2 m.cons.length c2,.int .i64 m.goal,.int .i64 m.var] 25)).alloc (.cells #[.int .i64 a.verdict,.slice av a.values.length cv,.slice ap np cp] 53)):=(Z4 _ _).alloc (by simp) _
 have Mh:((w.alloc (.cells #[.slice a1 m.vars.length c1,.slice a2 m.cons.length c2,.int .i64 m.goal,.int .i64 m.var] 25)).alloc (.cells #[.int .i64 a.verdict,.slice av a.values.length cv,.slice ap np cp] 53)).heap.size=w.heap.size+1+1:=by simp
 obtain⟨W,hW⟩:∃W,((w.alloc (.cells #[.slice a1 m.vars.length c1,.slice a2 m.cons.length c2,.int .i64 m.goal,.int .i64 m.var] 25)).alloc (.cells #[.int .i64 a.verdict,.slice av a.values.length cv,.slice ap np cp] 53))=W:=⟨_,rfl⟩;rw[hW] at q1 q2 Xi Mh xJ;have Ta:=zVR W;rw[Mh,<-xJ] at Ta;have Sm:Below W.heap.size W wf:=by rw[xJ];exact Z4 _ _
 obtain⟨B,hB⟩:∃B,w.heap.size+1+1=B:=⟨_,rfl⟩;rw[hB] at Ta Mh ⊢;rw[Mh] at Sm;have Xw:Hid (∀Y,Below B W Y->Y.heap[w.heap.size]? = some (.cells #[.slice a1 m.vars.length c1,.slice a2 m.cons.length c2,.int .i64 m.goal,.int .i64 m.var] 25)):=λY hY=>(hY.block _ (by omega)).trans q1
 have YW:Hid (∀Y,Below B W Y->Y.heap[w.heap.size+1]? = some (.cells #[.int .i64 a.verdict,.slice av a.values.length cv,.slice ap np cp] 53)):=λY hY=>(hY.block _ (by omega)).trans q2
 have fT:Hid (∀Y,Below B W Y->Bw w Y):=λY hY=>Xi.trans (hY.mono (by omega))
 have ZW:=hI Sm;have P6:=hI Ta;have Th:Hid (B<=W.heap.size):=by show _<=_;omega
 have fS:Hid ((Oh m.goal).size<=10):=by show _<=_;unfold Oh;split <;> decide
 clear Ta Sm Xi Mh hW q1 q2 xJ hB;go_wp2_with fail
 refine (f8 B B (Lib.byteCells []) (Oh m.goal) wf P6.o (by rw[fX];have:=fS.o;simp;omega) (by have:=ZW.o.size;have:=Th.o;omega)).mono ?_
 rintro e w1 ⟨rfl,hd1,Z5,_⟩;have J9:Hid (Lib.IsBuilderF 179 5 B B (Lib.byteCells ((Oh m.goal).data.toList++O8 m.vars (a.values.take 0))) w1):=by
  have:O8 m.vars (a.values.take 0)=[]:=rfl;rw[this,TA];exact Or.inr hd1
 have ZU:=hI (ZW.o.trans Z5);clear hd1 Z5 P6 ZW;have k1:=Z_ (YW.o _ ZU.o) 1 _ rfl;have kl:=(Z8.1 (YW.o _ ZU.o)).1;go_wp2_with fail
 clear k1 kl;go_loopw [21] (λi wr=>∃k:Nat,k<=a.values.length/\i=.int .i64 k/\Lib.IsBuilderF 179 5 B B (Lib.byteCells ((Oh m.goal).data.toList++O8 m.vars (a.values.take k))) wr/\Below B W wr) (λi _=>a.values.length - (intOf i).toNat)
 case atStart=>exact⟨0,by omega,rfl,J9.o,ZU.o⟩
 obtain⟨k,hk,rfl,hd,hb⟩:=hrel;have HD:=hI hd;have HB:=hI hb;have XF:Hid (B<=wr.heap.size):=by have:=hb.size;have:=Th.o;show _<=_;omega
 clear hd hb J9 ZU;by_cases Z7:k<a.values.length
 ·obtain⟨x,hx⟩:∃x,a.values[k]? = some x:=⟨a.values[k],by rw[ZA Z7]⟩
  obtain⟨t,ht⟩:∃t,m.vars[k]? = some t:=⟨m.vars[k]'(by omega),by rw[ZA (by omega)]⟩
  obtain⟨_,bn,on,Ug,fQ,cn,_,_⟩:=HV.o k t ht;obtain⟨bx,ox,WV,yP,cx⟩:=HI.o k x hx;subst Ug WV;have HW:=fT.o _ HB.o;have dn:=(HW.cell (p:=⟨bn,on+k * 3,none⟩) fQ).trans cn;have dx:=(HW.cell (p:=⟨bx,ox+k,none⟩) yP).trans cx;have ln:bn<wr.heap.size:=ZQ fQ HW.size;have lx:bx<wr.heap.size:=ZQ yP HW.size;have k0:=Z_ (Xw.o _ HB.o) 0 _ rfl;have kl:=(Z8.1 (Xw.o _ HB.o)).1;have J5:=HN.o t (Zz ht);have lK:=BP.o x (Zz hx);have qu:=fU.o x (Zz hx);have QH:Hid (O8 m.vars (a.values.take (k+1))=O8 m.vars (a.values.take k)++(t.name++⟨#[32,61,32]⟩++PM x++⟨#[10]⟩).data.toList):=by
   show _=_;rw[fZ m.vars a.values k x hx];unfold Fo xK;rw[ZO,ht];rfl
  obtain⟨nm,Tq⟩:∃nm,t.name=nm:=⟨_,rfl⟩;obtain⟨ix,Vn⟩:∃ix,PM x=ix:=⟨_,rfl⟩;rw[Tq] at dn J5 QH;rw[Vn] at qu QH;have XQ:Hid (∀Y,Bw wr Y->Calls prog 108 #[.int .i64 x] Y λe w'=>e=.returned (.string ix)/\Bw Y w'):=λY hY=>by
   rw[<-Vn];exact fY x (by omega) Y (HP.o _ (HW.trans (hY.mono HW.size)))
  have z1:¬(9223372036854775807<nm.size+3):=by omega
  have e1:(nm++(⟨#[32,61,32]⟩:ByteArray)).size=nm.size+3:=by rw[ByteArray.size_append];rfl
  have e2:(nm++(⟨#[32,61,32]⟩:ByteArray)++ix).size=nm.size+3+ix.size:=by rw[ByteArray.size_append,e1]
  have e3:(nm++(⟨#[32,61,32]⟩:ByteArray)++ix++(⟨#[10]⟩:ByteArray)).size=nm.size+3+ix.size+1:=by rw[ByteArray.size_append,e2];rfl
  have N2:Hid ((nm++(⟨#[32,61,32]⟩:ByteArray)++ix++(⟨#[10]⟩:ByteArray)).size<=1200):=by show _<=_;omega
  have z2:¬(9223372036854775807<nm.size+3+ix.size):=by omega
  have z3:¬(9223372036854775807<nm.size+3+ix.size+1):=by omega
  have Um:Hid ((Lib.byteCells ((Oh m.goal).data.toList++O8 m.vars (a.values.take k))).length<=100000000):=by
   show _<=_;rw[fX,ZC];have h1:=fS.o;have h2:=fW m.vars a.values HN.o fU.o k (by omega)
   have h3:(Oh m.goal).data.toList.length=(Oh m.goal).size:=rfl;have hk7:k<=6:=by omega
   omega
  have q1:(k:Int)<(m.vars.length:Int):=by omega
  have q2:k<m.vars.length:=by omega
  clear hx ht Tq Vn cn cx e1 e2 e3 HW;go_wp2_with fail
  go_region_law
   (first
     | (rw[if_pos (by rfl)];go_simp;go_at_call 108;refine (XQ.o _ (Z6 _ _).drew).mono ?_;rintro e w3 ⟨rfl,ZG⟩;have hB3:Bw wr w3:=(Z6 _ _).drew.trans ZG;have dn3:=(hB3.cell (p:=⟨bn,on+k * 3,none⟩) ln).trans dn;have k03:=(hB3.cell (p:=⟨w.heap.size,0,none⟩) kl).trans k0;have kl3:w.heap.size<w3.heap.size:=ZQ kl hB3.size;have ln3:bn<w3.heap.size:=ZQ ln hB3.size;dsimp only)
     | (rw[if_pos (by rfl)];go_simp;go_at_call 176;refine (f8 B B _ _ w3 (zTn HD.o hB3) (by have:=N2.o;have:=Um.o;omega) (by have:=hB3.size;have:=XF.o;omega)).mono ?_;rintro e w4 ⟨rfl,P3,Zd,_⟩;dsimp only))
  all_goals
   have Po:Hid (Lib.IsBuilderF 179 5 B B (Lib.byteCells ((Oh m.goal).data.toList++O8 m.vars (a.values.take (k+1)))) w4):=by
    rw[QH.o,<-SO,zTo];exact Or.inr P3
   have Yp:Hid (Below B W w4):=HB.o.trans ((hB3.mono XF.o).trans Zd);clear P3 Zd;go_wp2
   go_roundw
   case rel=>exact⟨k+1,by omega,by go_num,Po.o,Yp.o⟩
   case measure=>simp[intOf];omega
 have Xa:k=a.values.length:=by omega
 have HF:Hid (Lib.IsBuilderF 179 5 B B (Lib.byteCells ((Oh m.goal).data.toList++O8 m.vars a.values)) wr):=by
  have h:=HD.o;rw[Zi (by omega)] at h
  exact h
 clear Xa;go_wp2_with fail
 refine (zRU B B _ wr HF.o XF.o).mono ?_;rintro e w2 ⟨rfl,_,ZY,_⟩;have ZI:Hid (Bw w w2):=fT.o _ (HB.o.trans ZY);clear ZY;go_wp2
 go_ret
 rw[<-Zy.o];exact⟨rfl,ZI.o⟩
theorem zRV (m:Mod) (hm:Zs m=0):∀x∈m.vars,x.name.size<=12:=by
 intro v hv;obtain⟨i,hi⟩:=Wm.1 hv;have h1:=(RH m hm).2.2.2.1;have h2:=Im _ h1 (varE (m.vars.take i) v) (by
  have hl:i<m.vars.length:=(ZN.1 hi).1;refine Zj.2 ⟨i,W6.2 hl,?_⟩;rw[ZO,hi];rfl)
 unfold varE at h2
 split at h2
 ·rename_i hn
  unfold WZ at hn;rw[ZB] at hn;have:=((xp _ _).1 hn.1).2.2.2.2.2;unfold XT at this;rw[if_pos rfl] at this
  split at this
  ·cases this
  omega
 cases h2
theorem zRW (x:Int) (h:-1000<=x/\x<=1000):(PM x).size<=100:=by
 have:=Lib.itoa_length_le x (by omega) (by omega)
 have e:(PM x).size=(Lib.itoa x).length:=by unfold PM;simp[ByteArray.size]
 omega
theorem zO7 (x:Int) (h:-1000000<=x/\x<=1000000):(PM x).size<=100:=by
 have:=Lib.itoa_length_le x (by omega) (by omega)
 have e:(PM x).size=(Lib.itoa x).length:=by unfold PM;simp[ByteArray.size]
 omega
theorem fP (m:Mod) (hm:Zs m=0) (hg:m.goal=1∨m.goal=2):∀(N:Nat) (R:Int×List Int×Sk) (b:List Int),zFW m R<N->(R.1=1->Sol m R.2.1)->(b=[]∨Sol m b)->(zGS m R b).values=[]∨Sol m (zGS m R b).values
 | 0,R,b,h,_,_=>by omega
 | N+1,R,b,h,hs,hb=>by
   rw[yi m hm hg R b hs]
   split
   ·rename_i h1
    exact fP m hm hg N _ _ (by have:=yj m hm hg R h1 (hs h1);omega) (λh=>(J3 m hm _ h).1) (Or.inr (hs h1))
   split
   ·exact Or.inl rfl
   split
   ·exact hb
   exact hb
theorem zO8 (m:Mod) (hm:Zs m=0) (fuel:Int):(So m fuel).1.values=[]∨Sol m (So m fuel).1.values:=by
 unfold So;by_cases hg:m.goal=0
 ·rw[if_pos hg]
  unfold I7;rw[if_pos hm]
  split
  ·exact Or.inl rfl
  split
  ·exact Or.inl rfl
  obtain⟨_,n2,_,n4,n5⟩:=yW m hm (λ_=>False) _ (Ex fuel) (RO _) (λx _ hf=>hf.elim)
  by_cases h1:(LD m fuel).1=1
  ·exact Or.inr (n2 h1).1
  exact Or.inl (n5 h1)
 rw[if_neg hg,if_pos hm];obtain⟨_,_,yB⟩:=I6 m hm;have hg2:m.goal=1∨m.goal=2:=by omega
 split
 ·exact Or.inl rfl
 exact fP m hm hg2 _ _ _ (RO _) (λh=>(J3 m hm _ h).1) (Or.inl rfl)
theorem zVT (m:Mod) (hm:Zs m=0) (fuel:Int) (hf:¬(fuel<0∨300<fuel)):(So m fuel).2=0:=by
 unfold So;by_cases hg:m.goal=0
 ·rw[if_pos hg]
  unfold I7;rw[if_pos hm,if_neg hf]
  split <;> rfl
 rw[if_neg hg,if_pos hm,if_neg hf]
def fO (at0:Int):ByteArray:=(⟨#[116,101,120,116,32]⟩:ByteArray)++PM at0++(⟨#[10]⟩:ByteArray)
def D3 (s:ByteArray) (fuel:Int):ByteArray×Int :=
 if 4000<s.size then (⟨#[]⟩,2) else if fuel<0∨300<fuel then (⟨#[]⟩,3)
 else if (Xb s).2.2=0 then (D4 (Xb s).1 (So (Xb s).1 fuel).1,0) else (fO (Xb s).2.1,0)
theorem zO9 (s:ByteArray) (h:(Xb s).2.2=0):Zs (Xb s).1=0:=by
 obtain⟨⟨ts,a,e⟩,hs⟩:∃x,YR s=x:=⟨_,rfl⟩;by_cases he:e=0
 ·subst he
  obtain⟨⟨m,x,e2⟩,hr⟩:∃y,Sn s.size ts=y:=⟨_,rfl⟩;by_cases V3:e2=0
  ·subst V3
   by_cases hc:Zs m=0
   ·rw[g_ hs hr hc];exact hc
   rw[g9 hs hr hc] at h;exact absurd h hc
  rw[g8 hs hr V3] at h;exact absurd h V3
 rw[gZ hs he] at h;exact absurd h he
theorem zRX (s:ByteArray) (hs:s.size<=maxLen) (fuel:Int) (VL:¬4000<s.size->-1000000<=(Xb s).2.1/\(Xb s).2.1<=1000000) (w:World) (hT:TabT w) (hP:TabP w) :
 Calls prog 56 #[.string s,.int .i64 fuel] w λe w'=>e=.returned (.tuple #[.string (D3 s fuel).1,.int .i64 (D3 s fuel).2])/\Bw w w':=by
 have HT:Hid (∀w',Bw w w'->TabT w'):=λw' h=>hT.below h
 have HP:Hid (∀w',Bw w w'->TabP w'):=λw' h=>hP.below h
 have HS:=hI hs;have yw:=hI VL;obtain⟨R,hR⟩:∃R,D3 s fuel=R:=⟨_,rfl⟩;rw[hR];unfold D3 at hR;have HR:=(show Hid _ from hR)
 clear hR hT hP hs VL;by_cases h4:4000<s.size
 ·have hR:=HR.o
  rw[if_pos h4] at hR;have HN:Hid (((⟨#[]⟩:ByteArray),(2:Int))=R):=hR;have Mb:(4000:Int)<(s.size:Int):=by omega
  clear hR HR;go_enter func56,ntmps56
  go_wp2
  go_ret2
  rw[<-HN.o];exact⟨rfl,Z6 _ _⟩
 have Mb:¬(4000:Int)<(s.size:Int):=by omega
 by_cases hf:fuel<0∨300<fuel
 ·have hR:=HR.o
  rw[if_neg h4,if_pos hf] at hR;have HN:Hid (((⟨#[]⟩:ByteArray),(3:Int))=R):=hR;clear hR HR;by_cases R7:fuel<0
  ·clear hf
   go_enter func56,ntmps56
   go_wp2
   go_ret2
   rw[<-HN.o];exact⟨rfl,Z6 _ _⟩
  have W9:300<fuel:=by rcases hf with h | h;exact absurd h R7;exact h
  clear hf;go_enter func56,ntmps56
  go_wp2
  go_ret2
  rw[<-HN.o];exact⟨rfl,Z6 _ _⟩
 have hR:=HR.o;rw[if_neg h4,if_neg hf] at hR;have Zy:=(show Hid _ from hR)
 have R7:¬fuel<0:=λh=>hf (Or.inl h)
 have W9:¬300<fuel:=λh=>hf (Or.inr h)
 have OU:=hI hf;have NH:=yw.o h4;have NQ:Hid ((Xb s).2.2=0->Zs (Xb s).1=0):=zO9 s;obtain⟨⟨m,at0,er⟩,hp⟩:∃P,Xb s=P:=⟨_,rfl⟩;have He:Hid (Xb s=(m,at0,er)):=hp;rw[hp] at Zy NH NQ;simp only at NH;clear hR HR hp hf yw;go_enter func56,ntmps56
 go_wp2_with fail
 refine (gX s HS.o _).mono ?_;rintro e w1 ⟨vs,cs,rfl,Y0,Z5⟩;rw[He.o] at Y0 ⊢
 dsimp only at Y0 ⊢
 have Y3:Hid (∀w',Bw w1 w'->MArg w' vs cs m):=λw' h=>MArg.below h Y0.marg
 have ZU:=hI Z5;obtain⟨⟨a1,c1,rfl,_,_⟩,⟨a2,c2,rfl,_,_⟩⟩:=Y0.marg;unfold modV;clear Y0 Z5;by_cases he:er=0
 ·have hR:=Zy.o
  rw[if_pos he] at hR;have Pd:Hid (Zs m=0):=NQ.o he;subst he;have HN:Hid ((D4 m (So m fuel).1,(0:Int))=R):=hR;clear hR Zy NQ;have Wa:=(show Hid _ from zO8 m Pd.o fuel)
  have UK:Hid ((So m fuel).2=0):=zVT m Pd.o fuel OU.o;obtain⟨⟨⟨RV,RX,RP⟩,RE⟩,hB⟩:∃B,So m fuel=B:=⟨_,rfl⟩;have Ws:Hid (So m fuel=(⟨RV,RX,RP⟩,RE)):=hB;rw[hB] at Wa UK HN;have hre:RE=0:=UK.o;subst hre;clear hB;go_wp2_with fail
  have Yt:Bw w1 (w1.alloc (.cells #[.slice a1 m.vars.length c1,.slice a2 m.cons.length c2,.int .i64 m.goal,.int .i64 m.var] 25)):=Z4 _ _;have Ml:=heap_alloc_new w1 (.cells #[.slice a1 m.vars.length c1,.slice a2 m.cons.length c2,.int .i64 m.goal,.int .i64 m.var] 25);refine (iO m fuel (.slice a1 m.vars.length c1) (.slice a2 m.cons.length c2) _ (Y3.o _ Yt) (HT.o _ (ZU.o.trans (Yt.mono ZU.o.size)))).mono ?_;rintro e w2 ⟨vv,pp,rfl,hq,ZY⟩;rw[Ws.o] at hq ⊢
  dsimp only at hq ⊢
  obtain⟨⟨ax,cx,rfl⟩,ap,np,cp,rfl⟩:=hq.forms;have YW:Hid (w2.heap[w1.heap.size]? = some (.cells #[.slice a1 m.vars.length c1,.slice a2 m.cons.length c2,.int .i64 m.goal,.int .i64 m.var] 25)):=(ZY.block _ (by simp)).trans Ml
  have PQ:Hid (Bw w1 w2):=Yt.trans (ZY.mono (by simp))
  have HX:Hid (∀Y,Bw w2 Y->IArg Y (.slice ax RX.length cx) RX):=λY hY=>IArg.below hY (Dc hq.val)
  simp only;clear ZY Yt Ml hq;have k0:=Z_ YW.o 0 _ rfl;have k1:=Z_ YW.o 1 _ rfl;have k2:=Z_ YW.o 2 _ rfl;have k3:=Z_ YW.o 3 _ rfl;have kl:=(Z8.1 YW.o).1;go_wp2_with fail
  have qt:Bw w2 (w2.alloc (.cells #[.int .i64 RV,.slice ax RX.length cx,.slice ap np cp] 53)):=Z4 _ _;have Fm:=PQ.o.trans (qt.mono PQ.o.size);have PZ:=hI (ZU.o.trans (Fm.mono ZU.o.size));have VO:∀x∈RX,-1000<=x/\x<=1000:=λx hx=>by
   rcases Wa.o with h | h
   ·have h:RX=[]:=h
    rw[h] at hx;cases hx
   obtain⟨i,hi⟩:=Wm.1 hx;have KK:=(ZN.1 hi).1;have h1:RX.length=m.vars.length:=h.1.1;have h2:=h.1.2 i (by omega)
   have h3:=Ae m Pd.o i (by omega)
   have h4:Zx RX (i:Int)=x:=by unfold Zx;rw[YK,ZO,hi];rfl
   change (ZF m.vars i).lo<=Zx RX (i:Int)/\Zx RX (i:Int)<=(ZF m.vars i).hi at h2
   omega
  have Zr:RX.length<=m.vars.length:=by
   rcases Wa.o with h | h
   ·have h:RX=[]:=h
    rw[h];simp
   have h1:RX.length=m.vars.length:=h.1.1;omega
  refine (zVS m ⟨RV,RX,RP⟩ (λx hx=>by have:=zRV m Pd.o x hx;omega) Zr ((RH m Pd.o).2.1) VO (λx hx=>zRW x (VO x hx)) (.slice a1 m.vars.length c1) (.slice a2 m.cons.length c2) _ ap np cp _ (Y3.o _ Fm) (HX.o _ qt) (HP.o _ PZ.o)).mono ?_
  rintro e w3 ⟨rfl,ZG⟩;have ZM:=hI (PZ.o.trans (ZG.mono PZ.o.size));clear ZG qt Fm VO Zr;go_wp2
  go_ret2
  rw[<-HN.o];exact⟨rfl,ZM.o⟩
 have hR:=Zy.o;rw[if_neg he] at hR;have HN:Hid ((fO at0,(0:Int))=R):=hR;have Qo:(er != 0)=true:=by simpa using he
 have XQ:Hid (∀Y,Bw w Y->Calls prog 108 #[.int .i64 at0] Y λe w'=>e=.returned (.string (PM at0))/\Bw Y w'):=λY hY=>fY at0 NH Y (HP.o _ hY)
 have qu:=zO7 at0 NH;obtain⟨ix,Vn⟩:∃ix,PM at0=ix:=⟨_,rfl⟩;unfold fO at HN;rw[Vn] at XQ qu HN;have z1:¬(9223372036854775807<5+ix.size):=by omega
 have z2:¬(9223372036854775807<5+ix.size+1):=by omega
 clear hR Zy he Vn;go_wp2_with fail
 refine (XQ.o _ (ZU.o.alloc ZU.o.size _)).mono ?_;rintro e w2 ⟨rfl,ZY⟩;have ZI:Hid (Bw w w2):=(ZU.o.alloc ZU.o.size _).trans (ZY.mono (by have:=ZU.o.size;simp;omega))
 clear ZY;go_wp2
 go_ret2
 rw[<-HN.o];exact⟨rfl,ZI.o⟩
def Og:ByteArray:=⟨([118,97,114,32,120,58,32,48,46,46,50,59,10,118,97,114,32,121,58,32,48,46,46,50,59,10,99,111,110,32,108,101,32].append [91,49,44,32,45,49,93,32,91,120,44,32,121,93,32,45,49,59,10,115,111,108,118,101,32,108,101,97,115,116,32,121,59,10]).toArray⟩
theorem xI:Xb Og=(twoM,0,0):=by kernel_rfl
def fN:ByteArray:=⟨#[98,101,115,116,10,120,32,61,32,48,10,121,32,61,32,49,10]⟩
theorem zRY (P:List MStep):D4 twoM ⟨1,[0,1],P⟩=fN:=by
 unfold D4;rw[if_neg (show ¬((1:Int)=2) by decide),if_neg (show ¬((1:Int)=3) by decide)]
 kernel_rfl
theorem zNh:D3 Og 20=(fN,0):=by
 obtain⟨P,hP,_⟩:=iE;unfold D3;rw[if_neg (by decide),if_neg (by decide),xI,if_pos rfl,hP]
 simp only;rw[zRY]
theorem zW6:allA twoM [0,1]=(true,0):=by
 unfold allA;rw[if_pos K2]
 kernel_rfl
theorem zW7:U9 twoM [0,1]=([⟨1,1,0⟩],0):=by
 unfold U9;rw[if_pos K2]
 kernel_rfl
def Fl:List MStep:=[⟨1,0,[⟨1,3,1⟩,⟨1,3,2⟩]⟩,⟨2,0,[]⟩]
theorem zXF:R2.2.2.proof=Fl:=by kernel_rfl
theorem fM (P:List MStep) (hP:So twoM 20=(⟨1,[0,1],P⟩,0)):P=Fl:=by
 rw[iG,iF,zXF] at hP
 injection hP with h _
 injection h with _ _ h
 exact h.symm
theorem zWh (A:List Nat):QS twoM A ⟨1,0,[⟨1,3,1⟩,⟨1,3,2⟩]⟩=true:=by
 unfold QS;rw[if_pos rfl];show TI twoM.vars (XB twoM.vars twoC) _=true;rw[iJ]
 decide +kernel
theorem fL (n:Int) (b:Bool) (h1:Q' twoM [[⟨1,1,n⟩]] Fl=0) (h2:QS twoM ([[⟨1,1,n⟩]].map (zAH twoM.vars)++[zAH twoM.vars [⟨1,3,1⟩,⟨1,3,2⟩]]) ⟨2,0,[]⟩=b):R0 twoM [[⟨1,1,n⟩]] Fl=(b,0):=by
 unfold R0;rw[if_pos h1,if_pos (by decide)]
 unfold Fl U2;rw[zWh];unfold U2;rw[h2];cases b <;> rfl
theorem zVU:R0 twoM [[⟨1,1,0⟩]] Fl=(true,0):=fL 0 true (by unfold Q';rw[if_pos K2];decide +kernel) (by decide +kernel)
theorem zVV:R0 twoM [[⟨1,1,1⟩]] Fl=(false,0):=fL 1 false (by unfold Q';rw[if_pos K2];decide +kernel) (by decide +kernel)
theorem zNi (P:List MStep) (hP:So twoM 20=(⟨1,[0,1],P⟩,0)):QE Og [0,1] P=(true,0):=by
 rw[fM P hP];unfold QE Mq;rw[xI,if_pos rfl,if_neg (by decide),zW7,if_pos rfl]
 simp only[zVU,if_true];exact zW6
theorem zTq (P:List MStep) (hP:So twoM 20=(⟨1,[0,1],P⟩,0)):QE Og [0,2] P=(false,0):=by
 rw[fM P hP];unfold QE Mq;rw[xI,if_pos rfl,if_neg (by decide),zXE,if_pos rfl]
 simp[zVV]
end Go.Proofs.YtndcpnlaadikoaaGreatDoor
