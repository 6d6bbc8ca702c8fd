/- What the proof leans on, part 4. -/
import Derived.Test.YtndcpnlaadikoaaGreatDoorPartAc
import Derived.Lib.SmallJoins
set_option maxRecDepth 100000
set_option maxHeartbeats 1600000
open Go.Proofs.Tryz
namespace Go.Proofs.YtndcpnlaadikoaaGreatDoor
open Go.RowKit
def varL (m:Mod):List Int:=(List.range m.vars.length).map λi=>varE (m.vars.take i) (m.vars.getD i ⟨ByteArray.empty,0,0⟩)
theorem pM (m:Mod) (k:Nat) (t:MVar) (h:m.vars[k]? = some t):(varL m)[k]? = some (varE (m.vars.take k) t):=by
 have hk:k<m.vars.length:=(ZN.1 h).1;unfold varL;rw[YN,Qy hk];simp[List.getD,h]
theorem pL (m:Mod):(varL m).length=m.vars.length:=by simp[varL]
def conL (m:Mod):List Int:=m.cons.map (conE m.vars.length)
theorem eH (m:Mod) (k:Nat) (t:MCon) (h:m.cons[k]? = some t):(conL m)[k]? = some (conE m.vars.length t):=by simp[conL,h]
theorem JE (m:Mod) (vs cs:Value) (w:World) (hm:MArg w vs cs m) :
 Calls prog 59 #[modV vs cs m] w λe w'=>e=.returned (.int .i64 (Zs m))/\Bw w w':=by
 have Y3:Hid (∀w':World,Bw w w'->MArg w' vs cs m):=λw' h=>MArg.below h hm
 obtain⟨⟨a1,c1,rfl,WS,VR⟩,⟨a2,c2,rfl,Yn,Yq⟩⟩:=hm;obtain⟨R,hR⟩:∃R,Zs m=R:=⟨_,rfl⟩;rw[hR];unfold maxLen at WS Yn;obtain⟨K5,WS⟩:=WS;obtain⟨Nq,Yn⟩:=Yn;clear VR Yq;unfold modV;by_cases h0:m.vars.length=0
 ·have HE:Hid (R=1):=by rw[<-hR];unfold Zs;rw[if_pos h0];rfl
  have g0:((m.vars.length:Int)==0)=true:=by simp[h0]
  clear hR h0;go_enter func59,ntmps59
  go_wp2
  go_ret
  exact⟨Zm HE.o.symm,Z4 _ _⟩
 have g0:((m.vars.length:Int)==0)=false:=by simpa using h0
 by_cases h6:6<m.vars.length
 ·have HE:Hid (R=2):=by rw[<-hR];unfold Zs;rw[if_neg h0,if_pos (Or.inl h6)];rfl
  clear hR h0;go_enter func59,ntmps59
  go_wp2
  go_ret
  exact⟨Zm HE.o.symm,Z4 _ _⟩
 by_cases h8:8<m.cons.length
 ·have HE:Hid (R=2):=by rw[<-hR];unfold Zs;rw[if_neg h0,if_pos (Or.inr h8)];rfl
  clear hR h0;go_enter func59,ntmps59
  go_wp2
  go_ret
  exact⟨Zm HE.o.symm,Z4 _ _⟩
 have HE:Hid (R=if Y4 (varL m)=0 then (if Y4 (conL m)=0 then Oe m else Y4 (conL m)) else Y4 (varL m)):=by
  rw[<-hR];unfold Zs;rw[if_neg h0,if_neg (by omega)];rfl
 clear hR h0;go_enter func59,ntmps59
 go_wp2
 obtain⟨w0,Qk⟩:∃w0:World,w0=w.alloc (.cells #[.slice a1 m.vars.length c1,.slice a2 m.cons.length c2,.int .i64 m.goal,.int .i64 m.var] 25):=⟨_,rfl⟩;rw[<-Qk];have Zt:Hid (Bw w w0):=by rw[Qk];exact Z4 _ _
 have eG:Hid (w0.heap.size=w.heap.size+1):=by show _=_;rw[Qk];simp
 have HD:Hid (w0.cell? ⟨w.heap.size,0,none⟩=some (.slice a1 m.vars.length c1)/\w0.cell? ⟨w.heap.size,1,none⟩=some (.slice a2 m.cons.length c2)/\w0.cell? ⟨w.heap.size,2,none⟩=some (.int .i64 m.goal)/\w0.cell? ⟨w.heap.size,3,none⟩=some (.int .i64 m.var)):=by
  rw[Qk];exact⟨by simp,by simp,by simp,by simp⟩
 clear Qk;go_loopw [25] (λi wr=>∃k:Nat,k<=m.vars.length/\i=.int .i64 k/\Hid (Y4 ((varL m).take k)=0)/\Bw w0 wr) (λi _=>m.vars.length - (intOf i).toNat)
 case atStart=>exact⟨0,by omega,rfl,rfl,Z6 _ _⟩
 obtain⟨k,hk,rfl,Xy,Z3⟩:=hrel;have Rz:w.heap.size<w0.heap.size:=by rw[eG.o];omega
 have d0:=(Z3.cell (p:=⟨w.heap.size,0,none⟩) Rz).trans HD.o.1;have d1:=(Z3.cell (p:=⟨w.heap.size,1,none⟩) Rz).trans HD.o.2.1;have d2:=(Z3.cell (p:=⟨w.heap.size,2,none⟩) Rz).trans HD.o.2.2.1;have d3:=(Z3.cell (p:=⟨w.heap.size,3,none⟩) Rz).trans HD.o.2.2.2;have ZW:Hid (Bw w wr):=Zt.o.trans (Z3.mono (by omega))
 by_cases Z7:k<m.vars.length
 ·obtain⟨t,ht⟩:∃t,m.vars[k]? = some t:=⟨m.vars[k],by simp[Z7]⟩
  have HG:Hid ((varL m)[k]? = some (varE (m.vars.take k) t)):=pM m k t ht;have HT:=hI ht;clear ht;go_wp2_with fail
  refine (eO m.vars _ k t _ (Y3.o _ ZW.o).1 HT.o).mono ?_;rintro e w1 ⟨rfl,Z5⟩;obtain⟨er,Yy⟩:∃er,varE (m.vars.take k) t=er:=⟨_,rfl⟩;have DR:Hid ((varL m)[k]? = some er):=by rw[<-Yy];exact HG.o
  rw[Yy];clear Yy;have Ig:Bw w0 w1:=Z3.trans (Z5.mono Z3.size);by_cases he:er=0
  ·subst he
   have HN:Hid (Y4 ((varL m).take (k+1))=0):=JG _ k Xy.o DR.o;clear Z5;go_wp2
   go_roundw
   case rel=>exact⟨k+1,by omega,by go_num,HN,Ig⟩
   case measure=>simp[intOf];omega
  have HN:Hid (R=er):=by
   have hf:=L_ (varL m) k er Xy.o DR.o he;rw[HE.o,hf,if_neg he];rfl
  have V3:(er != 0)=true:=by simpa using he
  clear Z5 he;go_wp2
  go_ret
  exact⟨Zm HN.o.symm,Zt.o.trans (Ig.mono (by omega))⟩
 have HV:Hid (Y4 (varL m)=0):=by
  have:=Xy.o;rw[Zi (by rw[pL];omega)] at this;exact this
 have K4:=hI Z3;obtain⟨wo,rfl⟩:∃wo:World,wo=wr:=⟨_,rfl⟩;go_wp2
 clear hk Xy Z3 Z7 d0 d1 d2 d3;go_loopw [39] (λi wr=>∃k:Nat,k<=m.cons.length/\i=.int .i64 k/\Hid (Y4 ((conL m).take k)=0)/\Bw w0 wr) (λi _=>m.cons.length - (intOf i).toNat)
 case atStart=>exact⟨0,by omega,rfl,rfl,K4.o⟩
 obtain⟨k,hk,rfl,Xy,Z3⟩:=hrel;have d0:=(Z3.cell (p:=⟨w.heap.size,0,none⟩) Rz).trans HD.o.1;have d1:=(Z3.cell (p:=⟨w.heap.size,1,none⟩) Rz).trans HD.o.2.1;have d2:=(Z3.cell (p:=⟨w.heap.size,2,none⟩) Rz).trans HD.o.2.2.1;have d3:=(Z3.cell (p:=⟨w.heap.size,3,none⟩) Rz).trans HD.o.2.2.2;have ZI:Hid (Bw w wr):=Zt.o.trans (Z3.mono (by omega))
 by_cases Z7:k<m.cons.length
 ·obtain⟨t,ht⟩:∃t,m.cons[k]? = some t:=⟨m.cons[k],by simp[Z7]⟩
  have HG:Hid ((conL m)[k]? = some (conE m.vars.length t)):=eH m k t ht;obtain⟨a2',c2',Zf,_,Tb⟩:=(Y3.o _ ZI.o).2;obtain⟨b,off,vv,vc,vr,vl,ha,hb,e0,e1,e2,e3,e4,e5,QV⟩:=Tb k t ht;have PI:a2=some ⟨b,off,none⟩:=by cases Zf;exact ha
  subst PI;have UD:=hI QV;obtain⟨⟨q1,r1,rfl,_,_⟩,⟨q2,r2,rfl,_,_⟩,⟨q3,r3,rfl,_,_⟩,⟨q4,r4,rfl,_,_⟩⟩:=QV;have Y':=Z3.size;have hlw:w.heap.size<wr.heap.size:=by omega
  clear ht Zf Tb ha;go_wp2_with fail
  refine (eJ t _ _ _ _ _ _ (KArg.below (Z4 _ _) UD.o)).mono ?_;rintro e w1 ⟨rfl,Z5⟩;obtain⟨er,Yy⟩:∃er,conE m.vars.length t=er:=⟨_,rfl⟩;have DR:Hid ((conL m)[k]? = some er):=by rw[<-Yy];exact HG.o
  rw[Yy];clear Yy;have Ig:Bw w0 w1:=(Z3.alloc Y' _).trans (Z5.mono (by simp;omega))
  by_cases he:er=0
  ·subst he
   have HN:Hid (Y4 ((conL m).take (k+1))=0):=JG _ k Xy.o DR.o;clear Z5;go_wp2
   go_roundw
   case rel=>exact⟨k+1,by omega,by go_num,HN,Ig⟩
   case measure=>simp[intOf];omega
  have HN:Hid (R=er):=by
   have hf:=L_ (conL m) k er Xy.o DR.o he;rw[HE.o,HV.o,if_pos rfl,hf,if_neg he];rfl
  have V3:(er != 0)=true:=by simpa using he
  clear Z5 he;go_wp2
  go_ret
  exact⟨Zm HN.o.symm,Zt.o.trans (Ig.mono (by omega))⟩
 have HN:Hid (R=Oe m):=by
  have XN:Y4 (conL m)=0:=by have:=Xy.o;rw[Zi (by simp[conL];omega)] at this;exact this
  rw[HE.o,HV.o,if_pos rfl,XN,if_pos rfl];rfl
 go_wp2_with fail
 refine (eI m _ _ _ (Y3.o _ ZI.o)).mono ?_;rintro e w3 ⟨rfl,ZG⟩;go_wp2
 go_ret
 exact⟨Zm HN.o.symm,ZI.o.trans (ZG.mono ZI.o.size)⟩
open Go.ChangeShapes Go.WideShapes Go.ChangeAt Go.RowKit Go.Deep
section
variable {H:Type} {enc:TypeId×Value->H} {w:World} {base:Nat} {spare:Nat->Bool} {held:Bool}
theorem xg {α:Type} [Inhabited α] {t e:TypeId} {size:Nat} (ht:prog.underlying t=some (.slice e)) (hc:prog.cellsOf e=size) (Y':0<size) (cellsOf:α->List Value) (good:α->Prop)
 (AE:∀(n:Nat) (cs':List Value) (x':DataW H×List MemPlace),DataW.trod enc prog w base spare held n e cs'=some x'->∃a:α,cs'=cellsOf a/\good a)
 {fuel:Nat} {cs:List Value} {x:DataW H×List MemPlace} (h:DataW.trod enc prog w base spare held fuel t cs=some x) :
 ∃(l:List α) (a:Option Addr) (c:Nat),cs=[.slice a l.length c]/\(l.length<=c/\c<=maxLen)/\∀(i:Nat) (y:α),l[i]? = some y->good y/\∃b off,a=some ⟨b,off,none⟩/\b<w.heap.size/\∀(j:Nat) (u:Value),(cellsOf y)[j]? = some u->w.cell? ⟨b,off+(i * size+j),none⟩=some u:=by
 rcases open_slice ht h with ⟨Wx,_⟩ | ⟨a,len,cap,m,n,D,Pl,Wx,_,hl,QU,K3,_,hx⟩
 ·exact⟨[],none,0,Wx,⟨Z2 _,YI _⟩,λi y h=>by simp at h⟩
 have Fb:len<=m:=by rw[K3];split <;> omega
 have each:∀i,i<len->∃y:α,good y/\(cellsOf y).length=size/\∀j u,(cellsOf y)[j]? = some u->w.cell? (a.add (i * size+j))=some u:=by
  intro i hi;obtain⟨cs',eF,eE⟩:=hx i (by omega)
  obtain⟨y,rfl,hg⟩:=AE n cs' _ eE;obtain⟨_,Zr,Vi⟩:=World.cells?_some eF;rw[hc] at Zr;refine⟨y,hg,Zr,λj u hj=>?_⟩
  have eD:j<(cellsOf y).length:=(ZN.1 hj).1;have:=Vi j (by rw[hc,<-Zr];exact eD)
  rw[hc,add_add] at this;rw[this];exact hj
 obtain⟨f,hf⟩:=choose_lt each;refine⟨(List.range len).map f,some a,cap,by simpa using Wx,⟨by simpa using hl,QU⟩,λi y hy=>?_⟩
 have hi:i<len:=by have:=(ZN.1 hy).1;simpa using this
 have eC:y=f i:=by simp[hi] at hy;exact hy.symm
 subst eC;obtain⟨hg,Zr,Vi⟩:=hf i hi;obtain⟨_,pK,Ie⟩:=hf 0 (by omega)
 obtain⟨u0,eB⟩:∃u0,(cellsOf (f 0))[0]? = some u0:=⟨(cellsOf (f 0))[0]'(by omega),by simp⟩
 have xf:=Ie 0 u0 eB;have PH:a.spot=none:=by simpa[Addr.add] using World.cell?_spot xf
 have Id:a.block<w.heap.size:=by simpa[Addr.add] using World.block_lt_of_cell? w _ xf
 refine⟨hg,a.block,a.off,?_,Id,λj u hj=>?_⟩
 ·obtain⟨b,off,spot⟩:=a;simp only at PH;subst PH;rfl
 have:=Vi j u hj;obtain⟨b,off,spot⟩:=a;simp only at PH;subst PH;rwa [add_plain] at this
theorem xe:prog.cellsOf 3=1:=by kernel_rfl
theorem pJ:prog.cellsOf 76=3:=by kernel_rfl
theorem fx {fuel:Nat} {cs:List Value} {x:DataW H×List MemPlace} (h:DataW.trod enc prog w base spare held fuel 42 cs=some x) :
 ∃v l,cs=[v]/\IArg w v l:=by
 obtain⟨l,a,c,Wx,hm,hr⟩:=xg (α:=Int) underlying42 xe (by decide) (λz=>[.int .i64 z]) (λ_=>True)
  (λn cs' x' h'=>by obtain⟨z,hz,_,_⟩:=DataW.trod_int underlying3 h';exact⟨z,hz,trivial⟩) h
 refine⟨_,l,Wx,a,c,rfl,hm,λi z hz=>?_⟩
 obtain⟨_,b,off,ha,hb,hc⟩:=hr i z hz;have:=hc 0 _ rfl;exact⟨b,off,ha,hb,by simpa using this⟩
theorem eA {n:Nat} {cs:List Value} {x:DataW H×List MemPlace} (h:DataW.trod enc prog w base spare held n 76 cs=some x) :
 ∃t:MLit,cs=[.int .i64 t.var,.int .i64 t.op,.int .i64 t.n]:=by
 obtain⟨y0,y1,y2,m,_,hl,h0,h1,h2⟩:=trod_struct3 underlying76 h;rw[pJ] at hl;obtain⟨k,hk,_,_⟩:=DataW.trod_int underlying3 h0;obtain⟨p,hp,_,_⟩:=DataW.trod_int underlying3 h1;obtain⟨s,hs,_,_⟩:=DataW.trod_int underlying3 h2
 match cs,hl with
 | [c0,c1,c2],_ =>
   change List.take (prog.cellsOf 3) [c0,c1,c2]=_ at hk
   change List.take (prog.cellsOf 3) [c1,c2]=_ at hp
   change List.take (prog.cellsOf 3) [c2]=_ at hs
   rw[xe] at hk hp hs;simp at hk hp hs;exact⟨⟨k,p,s⟩,by rw[hk,hp,hs]⟩
end
def twoM:Mod:=⟨[⟨⟨#[120]⟩,0,2⟩,⟨⟨#[121]⟩,0,2⟩],[⟨1,[0,1],[1,-1],-1,[],[]⟩],1,1⟩
theorem K2:Zs twoM=0:=by kernel_rfl
theorem pI (w:World) (o1 o2 o3 o4 o5:Obj) :
 (((((w.alloc o1).alloc o2).alloc o3).alloc o4).alloc o5).heap[w.heap.size+1]? = some o2/\(((((w.alloc o1).alloc o2).alloc o3).alloc o4).alloc o5).heap[w.heap.size+1+1]? = some o3 /\
 (((((w.alloc o1).alloc o2).alloc o3).alloc o4).alloc o5).heap[w.heap.size+1+1+1]? = some o4/\(((((w.alloc o1).alloc o2).alloc o3).alloc o4).alloc o5).heap[w.heap.size+1+1+1+1]? = some o5:=by
 refine⟨?_,?_,?_,?_⟩
 all_goals
  show (((((w.heap.push _).push _).push _).push _).push _)[_]? = _;simp only[Array.getElem?_push,Array.size_push]
  repeat first | rw[if_pos (by omega)] | rw[if_neg (by omega)]
 all_goals rfl
theorem ez (w:World) :
 Calls prog 37 #[] w λe w'=>∃vs cs,e=.returned (modV vs cs twoM)/\MArg w' vs cs twoM/\Bw w w':=by
 go_enter func37,ntmps37
 go_wp2
 refine bodyPost_ret (v:=modV (.slice (some ⟨w.heap.size+1,0,none⟩) 2 2) (.slice (some ⟨w.heap.size+1+1+1+1,0,none⟩) 1 1) twoM) (by simp[results,results37,go_sem,modV,twoM]) rfl ⟨_,_,rfl,⟨?_,?_⟩,?_⟩
 ·refine⟨_,_,rfl,⟨by decide,by unfold maxLen;decide⟩,λi t ht=>?_⟩
  have hb:=(pI w (.cells #[.slice (some ⟨w.heap.size+1,0,none⟩) 2 2,.slice (some ⟨w.heap.size+1+1+1+1,0,none⟩) 1 1,.int .i64 1,.int .i64 1] 25) (.cells #[.string ⟨#[120]⟩,.int .i64 0,.int .i64 2,.string ⟨#[121]⟩,.int .i64 0,.int .i64 2] 67) (.cells #[.int .i64 0,.int .i64 1] 3) (.cells #[.int .i64 1,.int .i64 (-1)] 3) (.cells #[.int .i64 1,.slice (some ⟨w.heap.size+1+1,0,none⟩) 2 2,.slice (some ⟨w.heap.size+1+1+1,0,none⟩) 2 2,.int .i64 (-1),.slice none 0 0,.slice none 0 0] 69)).1
  match i,ht with
  | 0,ht=>cases ht;exact⟨by unfold maxLen;decide,_,_,rfl,by simp,by rw[Lib.cell_of_heap hb];rfl,by rw[Lib.cell_of_heap hb];rfl,by rw[Lib.cell_of_heap hb];rfl⟩
  | 1,ht=>cases ht;exact⟨by unfold maxLen;decide,_,_,rfl,by simp,by rw[Lib.cell_of_heap hb];rfl,by rw[Lib.cell_of_heap hb];rfl,by rw[Lib.cell_of_heap hb];rfl⟩
 ·refine⟨_,_,rfl,⟨by decide,by unfold maxLen;decide⟩,λi t ht=>?_⟩
  obtain⟨_,ZY,ZG,Zd⟩:=pI w (.cells #[.slice (some ⟨w.heap.size+1,0,none⟩) 2 2,.slice (some ⟨w.heap.size+1+1+1+1,0,none⟩) 1 1,.int .i64 1,.int .i64 1] 25) (.cells #[.string ⟨#[120]⟩,.int .i64 0,.int .i64 2,.string ⟨#[121]⟩,.int .i64 0,.int .i64 2] 67) (.cells #[.int .i64 0,.int .i64 1] 3) (.cells #[.int .i64 1,.int .i64 (-1)] 3) (.cells #[.int .i64 1,.slice (some ⟨w.heap.size+1+1,0,none⟩) 2 2,.slice (some ⟨w.heap.size+1+1+1,0,none⟩) 2 2,.int .i64 (-1),.slice none 0 0,.slice none 0 0] 69)
  match i,ht with
  | 0,ht =>
    cases ht
    refine⟨_,_,.slice (some ⟨w.heap.size+1+1,0,none⟩) 2 2,.slice (some ⟨w.heap.size+1+1+1,0,none⟩) 2 2,.slice none 0 0,.slice none 0 0,rfl,by simp,by rw[Lib.cell_of_heap Zd];rfl,by rw[Lib.cell_of_heap Zd];rfl,by rw[Lib.cell_of_heap Zd];rfl,by rw[Lib.cell_of_heap Zd];rfl,by rw[Lib.cell_of_heap Zd];rfl,by rw[Lib.cell_of_heap Zd];rfl,?_⟩
    refine⟨⟨_,_,rfl,⟨by decide,by unfold maxLen;decide⟩,λi z hz=>?_⟩,⟨_,_,rfl,⟨by decide,by unfold maxLen;decide⟩,λi z hz=>?_⟩,⟨_,_,rfl,⟨by decide,by unfold maxLen;decide⟩,λi z hz=>by simp at hz⟩,⟨_,_,rfl,⟨by decide,by unfold maxLen;decide⟩,λi z hz=>by simp at hz⟩⟩
    ·match i,hz with
     | 0,hz=>cases hz;exact⟨_,_,rfl,by simp,by rw[Lib.cell_of_heap ZY];rfl⟩
     | 1,hz=>cases hz;exact⟨_,_,rfl,by simp,by rw[Lib.cell_of_heap ZY];rfl⟩
    match i,hz with
    | 0,hz=>cases hz;exact⟨_,_,rfl,by simp,by rw[Lib.cell_of_heap ZG];rfl⟩
    | 1,hz=>cases hz;exact⟨_,_,rfl,by simp,by rw[Lib.cell_of_heap ZG];rfl⟩
 exact (((((Z6 _ _).alloc (Z2 _) _).alloc (by simp) _).alloc (by simp;omega) _).alloc (by simp;omega) _).alloc (by simp;omega) _
abbrev Sto:=List (List Int)
def xd (v:MVar) (n:Int):Bool:=decide (v.lo<=n)&&decide (n<=v.hi)
def K1:List Int->Bool
 | a :: b :: r=>decide (a<b)&&K1 (b :: r)
 | _=>true
def AD (vs:List MVar) (s:Sto):Bool:=(vs.zip s).all λp=>p.2.all (xd p.1)
def DQ (vs:List MVar) (s:Sto):Int :=
 if s.length=vs.length then (if AD vs s then (if s.all K1 then 0 else 4) else 3) else 1
def hasB (l:List Int) (n:Int):Bool:=l.any (λk=>n==k)
def zAI (s:Sto):Bool:=s.any λr=>decide (r.length=0)
def Qj (lo hi:Int):List Int:=(List.range (hi+1 - lo).toNat).map λ(k:Nat)=>lo+(k:Int)
def Ym (vs:List MVar):Sto:=vs.map λv=>Qj v.lo v.hi
theorem DP (l:List Int) (n:Int):hasB l n=true↔n∈l:=by
 unfold hasB;rw[Yh]
 constructor
 ·rintro ⟨k,hk,he⟩;rwa [beq_iff_eq.1 he]
 intro h;exact⟨n,h,by simp⟩
theorem pH (l:List Int):K1 l=true↔l.Pairwise (·<·):=by
 induction l with
 | nil=>simp[K1]
 | cons a r ih =>
   cases r with
   | nil=>simp[K1]
   | cons b r =>
     simp only[K1,ZB,decide_eq_true_eq];rw[ih]
     constructor
     ·rintro ⟨V2,hp⟩
      refine RU.2 ⟨λc hc=>?_,hp⟩
      rcases YJ.1 hc with rfl | hc
      ·exact V2
      have:=(RU.1 hp).1 c hc;omega
     intro hp;exact⟨(RU.1 hp).1 b (Zk ..),(RU.1 hp).2⟩
theorem xb {α β:Type} (p:α×β->Bool):∀(a:List α) (b:List β),(a.zip b).all p=true↔∀(i:Nat) x y,a[i]? = some x->b[i]? = some y->p (x,y)=true
 | [],b=>by simp
 | x :: a,[]=>by simp
 | x :: a,y :: b=>by
   rw[List.zip_cons_cons,List.all_cons,ZB,xb p a b]
   constructor
   ·rintro ⟨h0,h1⟩ i u v hu hv
    cases i with
    | zero=>simp at hu hv;subst hu;subst hv;exact h0
    | succ i=>exact h1 i u v (by simpa using hu) (by simpa using hv)
   intro h;exact⟨h 0 x y rfl rfl,λi u v hu hv=>h (i+1) u v (by simpa using hu) (by simpa using hv)⟩
theorem xa (vs:List MVar) (s:Sto):DQ vs s=0↔s.length=vs.length/\AD vs s=true/\s.all K1=true:=by
 unfold DQ;by_cases h1:s.length=vs.length
 ·cases h2:AD vs s <;> cases h3:s.all K1 <;> simp[h1]
 simp[h1]
def V0 (s:Sto) (p:Nat->Int->Bool):Sto:=s.mapIdx λk r=>r.filter (p k)
theorem Vs (s:Sto) (p:Nat->Int->Bool):(V0 s p).length=s.length:=by simp[V0]
theorem K0 (s:Sto) (p:Nat->Int->Bool) (k:Nat) (r:List Int) (h:s[k]? = some r):(V0 s p)[k]? = some (r.filter (p k)):=by
 simp[V0,h]
theorem OX (s:Sto) (p:Nat->Int->Bool) (k:Nat) (q:List Int) (h:(V0 s p)[k]? = some q):∃r,s[k]? = some r/\q=r.filter (p k):=by
 have hk:k<s.length:=by rw[<-Vs s p];exact (ZN.1 h).1
 refine⟨s[k],by simp[hk],?_⟩
 rw[K0 s p k s[k] (by simp[hk])] at h
 exact (Zl h).symm
theorem AC (s t:Sto) (hl:s.length=t.length) (h:∀(k:Nat) r q,s[k]? = some r->t[k]? = some q->r=q):s=t:=by
 apply RS;intro k;by_cases hk:k<s.length
 ·have h1:s[k]? = some s[k]:=by simp[hk]
  have h2:t[k]? = some (t[k]'(by omega)):=by simp[show k<t.length by omega]
  rw[h1,h2,h k _ _ h1 h2]
 rw[V7 (by omega),V7 (by omega)]
def litE (vs:List MVar) (l:MLit):Int :=
 if l.var<0∨(vs.length:Int)<=l.var then 5 else if l.op<1∨4<l.op then 7 else if l.n < -1000∨1000<l.n then 3 else 0
def ey:MLit:=⟨0,0,0⟩
def w_ (r:List Int) (l:MLit):Nat:=(r.filter λx=>litV x l).length
def JD (s:Sto) (l:MLit):List Int:=s.getD l.var.toNat []
theorem ex (vs:List MVar) (l:MLit):litE vs l=0↔(0<=l.var/\l.var<vs.length)/\(1<=l.op/\l.op<=4)/\(-1000<=l.n/\l.n<=1000):=by
 unfold litE
 split
 ·constructor
  ·intro h;cases h
  intro h;omega
 split
 ·constructor
  ·intro h;cases h
  intro h;omega
 split
 ·constructor
  ·intro h;cases h
  intro h;omega
 constructor
 ·intro _;omega
 intro _;rfl
abbrev Cla:=List MLit
def claB (c:Cla) (vals:List Int):Bool:=c.any λl=>litV (vals.getD l.var.toNat 0) l
def claE (vs:List MVar) (c:Cla):Int:=if 40<c.length then 2 else Y4 (c.map (litE vs))
def oneB (c:Cla) (k:Nat) (z:Int):Bool:=c.any λl=>decide (l.var=(k:Int))&&litV z l
def Sg (s:Sto) (c:Cla):Cla:=c.filter λl=>decide (w_ (JD s l) l≠0)
def Ry (vs:List MVar) (l:List Cla):Int:=if 600<l.length then 2 else Y4 (l.map (claE vs))
def Wb (s:Sto) (l:MLit):Bool:=(JD s l).any λz=>litV z l
def Wi (s:Sto) (c:Cla):Sto :=
 if zAI s then s
 else match Sg s c with
  | []=>V0 s λ_ _=>false
  | l0 :: rest=>if rest.all (λl=>decide (l.var=l0.var)) then V0 s (λk z=>decide ((k:Int)≠l0.var) || oneB c k z) else s
def Vr (s:Sto) (c:Cla):Sto:=V0 s λk z=>!oneB c k z
theorem ew (r:List Int) (l:MLit):w_ r l≠0↔∃x∈r,litV x l=true:=by
 unfold w_;rw[Ne,Xo,ND]
 constructor
 ·intro h
  apply Xz;intro hn;exact h λx hx hl=>hn ⟨x,hx,hl⟩
 rintro ⟨x,hx,hl⟩ h;exact h x hx hl
theorem pG (s:Sto) (c:Cla) (l:MLit):l∈Sg s c↔l∈c/\∃x∈JD s l,litV x l=true:=by
 unfold Sg;rw[WC,decide_eq_true_eq,ew]
theorem AB (c:Cla) (k:Nat) (z:Int):oneB c k z=true↔∃l∈c,l.var=(k:Int)/\litV z l=true:=by
 unfold oneB;rw[Yh];exact⟨fun⟨l,h1,h2⟩=>⟨l,h1,by simpa using h2⟩,fun⟨l,h1,h2⟩=>⟨l,h1,by simpa using h2⟩⟩
theorem eu (c:Cla) (vals:List Int):claB c vals=true↔∃l∈c,litV (vals.getD l.var.toNat 0) l=true:=by unfold claB;rw[Yh]
def Fa (s:Sto) (c:Cla):Prop:=∀l∈c,0<=l.var/\l.var<(s.length:Int)
def SubS (t s:Sto):Prop:=t.length=s.length/\∀(k:Nat) r q,t[k]? = some r->s[k]? = some q->∀x∈r,x∈q
theorem SubS.refl (s:Sto):SubS s s:=⟨rfl,λk r q hr hq x hx=>by rw[hr] at hq;cases hq;exact hx⟩
theorem SubS.trans {a b c:Sto} (h:SubS a b) (k:SubS b c):SubS a c:=by
 refine⟨h.1.trans k.1,λi r q hr hq x hx=>?_⟩
 have hi:i<b.length:=by rw[<-h.1];exact (ZN.1 hr).1
 have e:b[i]? = some b[i]:=by simp[hi]
 exact k.2 i _ q e hq x (h.2 i r _ hr e x hx)
theorem pF (s:Sto) (p:Nat->Int->Bool):SubS (V0 s p) s:=by
 refine⟨Vs _ _,λk r q hr hq x hx=>?_⟩
 obtain⟨a,ha,rfl⟩:=OX _ _ _ _ hr;rw[hq] at ha;cases ha;exact (WC.1 hx).1
theorem pE (s:Sto) (c:Cla):SubS (Wi s c) s:=by
 unfold Wi
 split
 ·exact SubS.refl _
 split
 ·exact pF _ _
 split
 ·exact pF _ _
 exact SubS.refl _
theorem et {t s:Sto} (h:SubS t s) (l:MLit):∀x∈JD t l,x∈JD s l:=by
 intro x hx;unfold JD at *;rw[ZO] at *;cases hq:t[l.var.toNat]? with
 | none=>rw[hq] at hx;cases hx
 | some r =>
   rw[hq] at hx;have hi:l.var.toNat<s.length:=by rw[<-h.1];exact (ZN.1 hq).1
   have e:s[l.var.toNat]? = some s[l.var.toNat]:=by simp[hi]
   rw[e];exact h.2 _ _ _ hq e x hx
theorem ep (s t:Sto) (c:Cla) (h:SubS t s) (ht:zAI t=false) (hs:zAI s=false):SubS (Wi t c) (Wi s c):=by
 have Np:∀l∈Sg t c,l∈Sg s c:=λl hl=>by
  rw[pG] at *;obtain⟨h1,x,hx,h2⟩:=hl;exact⟨h1,x,et h l x hx,h2⟩
 unfold Wi;rw[ht,hs,if_neg (by simp),if_neg (by simp)]
 match Ic:Sg s c with
 | [] =>
   have AA:Sg t c=[]:=by
    rcases hq:Sg t c with _ | ⟨a,r⟩
    ·rfl
    have:=Np a (by rw[hq];exact Zk ..)
    rw[Ic] at this;cases this
   rw[AA];simp only;refine⟨by rw[Vs,Vs];exact h.1,λk r q hr hq x hx=>?_⟩
   obtain⟨a,ha,rfl⟩:=OX _ _ _ _ hr;simp at hx
 | l0 :: rest =>
   simp only;by_cases hall:rest.all (λl=>decide (l.var=l0.var))=true
   ·rw[if_pos hall]
    have hv:∀l∈Sg s c,l.var=l0.var:=λl hl=>by
     rw[Ic] at hl;rcases YJ.1 hl with rfl | h
     ·rfl
     simpa using W8.1 hall l h
    match AA:Sg t c with
    | [] =>
      simp only;refine⟨by rw[Vs,Vs];exact h.1,λk r q hr hq x hx=>?_⟩
      obtain⟨a,ha,rfl⟩:=OX _ _ _ _ hr;simp at hx
    | a :: r =>
      simp only;have ha:a.var=l0.var:=hv a (Np a (by rw[AA];exact Zk ..))
      have DO:r.all (λl=>decide (l.var=a.var))=true:=by
       rw[W8];intro l hl;have:=hv l (Np l (by rw[AA];exact Y2 _ hl))
       simp[this,ha]
      rw[if_pos DO,ha];refine⟨by rw[Vs,Vs];exact h.1,λk r q hr hq x hx=>?_⟩
      obtain⟨b,hb,rfl⟩:=OX _ _ _ _ hr;obtain⟨d,hd,rfl⟩:=OX _ _ _ _ hq;obtain⟨h1,h2⟩:=WC.1 hx;exact WC.2 ⟨h.2 k b d hb hd x h1,h2⟩
   rw[if_neg hall];have:=pE t c;unfold Wi at this;rw[ht,if_neg (by simp)] at this
   exact this.trans h
theorem pD (s:Sto) (p:Nat->Int->Bool) (h:∀(k:Nat) r z,s[k]? = some r->z∈r->p k z=true):V0 s p=s:=by
 refine AC _ _ (Vs _ _) λk r q hr hq=>?_
 obtain⟨a,ha,rfl⟩:=OX _ _ _ _ hr;rw[hq] at ha;cases ha;exact Lc.2 λz hz=>h k _ z hq hz
theorem DN (s:Sto) (c:Cla) (l:MLit):l∈Sg s c↔l∈c/\Wb s l=true:=by
 rw[pG];unfold Wb;rw[Yh]
theorem pC (s:Sto) (c:Cla) (hf:zAI s=false) (h:c.any (Wb s)=false):Wi s c=V0 s λ_ _=>false:=by
 have hn:Sg s c=[]:=by
  rcases hq:Sg s c with _ | ⟨a,r⟩
  ·rfl
  obtain⟨h1,h2⟩:=(DN s c a).1 (by rw[hq];exact Zk ..)
  have:c.any (Wb s)=true:=Yh.2 ⟨a,h1,h2⟩;rw[h] at this;cases this
 unfold Wi;rw[hf,if_neg (by simp),hn]
theorem pB (s:Sto) (c:Cla) (hf:zAI s=false) (t:MLit) (ht:t∈c) (hl:Wb s t=true) :
 Wi s c=if c.any (λl=>!decide (l.var=t.var)&&Wb s l) then s else V0 s (λk z=>decide ((k:Int)≠t.var) || oneB c k z):=by
 have hm:t∈Sg s c:=(DN s c t).2 ⟨ht,hl⟩;unfold Wi;rw[hf,if_neg (by simp)]
 match hq:Sg s c with
 | []=>rw[hq] at hm;cases hm
 | l0 :: rest =>
   simp only;by_cases hall:rest.all (λl=>decide (l.var=l0.var))=true
   ·have hv:∀l∈Sg s c,l.var=l0.var:=λl hl=>by
     rw[hq] at hl;rcases YJ.1 hl with rfl | h
     ·rfl
     simpa using W8.1 hall l h
    have Xy:c.any (λl=>!decide (l.var=t.var)&&Wb s l)=false:=by
     rw[Ty];intro l Az hx;simp only[ZB,SQ,decide_eq_false_iff_not] at hx;exact hx.1 ((hv l ((DN s c l).2 ⟨Az,hx.2⟩)).trans (hv t hm).symm)
    rw[if_pos hall,Xy,hv t hm];rfl
   rw[if_neg hall];have wZ:c.any (λl=>!decide (l.var=t.var)&&Wb s l)=true:=by
    have h1:∃l∈rest,l.var≠l0.var:=by
     apply Xz;intro hn;apply hall;rw[W8];intro l hl;by_cases e:l.var=l0.var
     ·simp[e]
     exact absurd ⟨l,hl,e⟩ hn
    obtain⟨l,WS,ZP⟩:=h1;have Fb:l∈Sg s c:=by rw[hq];exact Y2 _ WS
    have eo:l0∈Sg s c:=by rw[hq];exact Zk ..
    rw[Yh];by_cases e:l.var=t.var
    ·have:l0.var≠t.var:=λe2=>ZP (e.trans e2.symm)
     obtain⟨a1,a2⟩:=(DN s c l0).1 eo;exact⟨l0,a1,by simp[this,a2]⟩
    obtain⟨a1,a2⟩:=(DN s c l).1 Fb;exact⟨l,a1,by simp[e,a2]⟩
   rw[wZ];rfl
theorem pA (s:Sto) (c:Cla) (hf:zAI s=false) (t:MLit) (ht:t∈c) (hl:Wb s t=true) (h:c.any (λl=>!decide (l.var=t.var)&&Wb s l)=true):Wi s c=s:=by
 rw[pB s c hf t ht hl,h,if_pos rfl]
theorem wY (s:Sto) (c:Cla) (hf:zAI s=false) (t:MLit) (ht:t∈c) (hl:Wb s t=true) (h:c.any (λl=>!decide (l.var=t.var)&&Wb s l)=false) :
 Wi s c=V0 s (λk z=>decide ((k:Int)≠t.var) || oneB c k z):=by
 rw[pB s c hf t ht hl,h,if_neg (by simp)]
def Ts (s:Sto):Sto:=s.map λ_=>[]
def nrmS (s:Sto):Sto:=if zAI s then Ts s else s
theorem wX (s:Sto):(Ts s).length=s.length:=by simp[Ts]
theorem pz (s:Sto) (k:Nat) (r:List Int) (h:(Ts s)[k]? = some r):r=[]:=by
 unfold Ts at h;rw[YN] at h;obtain⟨_,_,rfl⟩:=QB.1 h;rfl
theorem wW (s:Sto):(nrmS s).length=s.length:=by unfold nrmS;split <;> simp[Ts]
theorem Ay (s:Sto):zAI s=true↔∃k:Nat,s[k]? = some []:=by
 unfold zAI;rw[Yh]
 constructor
 ·rintro ⟨r,hr,h⟩
  obtain⟨k,hk⟩:=Wm.1 hr;have:r=[]:=Xf (by simpa using h)
  exact⟨k,by rw[hk,this]⟩
 rintro ⟨k,hk⟩;exact⟨[],Zz hk,rfl⟩
theorem py (s:Sto) (h:zAI s=true):zAI (Ts s)=true:=by
 obtain⟨k,hk⟩:=(Ay s).1 h;refine (Ay _).2 ⟨k,?_⟩;unfold Ts;rw[YN,hk];rfl
theorem em (s:Sto):zAI (nrmS s)=zAI s:=by
 unfold nrmS;cases h:zAI s
 ·simp[h]
 rw[if_pos rfl];exact py s h
theorem ek (s:Sto):Ts (Ts s)=Ts s:=by simp[Ts]
theorem Ax (s:Sto):SubS (nrmS s) s:=by
 unfold nrmS
 split
 ·refine⟨wX s,λk r q hr hq x hx=>?_⟩
  rw[pz s k r hr] at hx;cases hx
 exact SubS.refl _
theorem Ib {t s:Sto} (h:SubS t s) (hs:zAI s=true):zAI t=true:=by
 obtain⟨k,hk⟩:=(Ay s).1 hs;refine (Ay t).2 ⟨k,?_⟩;have hi:k<t.length:=by rw[h.1];exact (ZN.1 hk).1
 have e:t[k]? = some t[k]:=by simp[hi]
 have:t[k]=[]:=by
  rcases hq:t[k] with _ | ⟨a,r⟩
  ·rfl
  have:=h.2 k _ _ e hk a (by rw[hq];exact Zk ..)
  cases this
 rw[e,this]
theorem Aw {t s:Sto} (hl:t.length=s.length):SubS (Ts t) s:=by
 refine⟨by rw[wX,hl],λk r q hr hq x hx=>?_⟩
 rw[pz t k r hr] at hx;cases hx
theorem ej {t s:Sto} (h:SubS t s):SubS (nrmS t) (nrmS s):=by
 cases ht:zAI t
 ·have hs:zAI s=false:=by
   cases hs:zAI s
   ·rfl
   rw[Ib h hs] at ht;cases ht
  unfold nrmS;rw[ht,hs];exact h
 have:nrmS t=Ts t:=by unfold nrmS;rw[ht,if_pos rfl]
 rw[this];exact Aw (by rw[wW];exact h.1)
def zC4 (t s:Sto):Prop:=t.length=s.length/\∀(k:Nat) r q,t[k]? = some r->s[k]? = some q->r.Sublist q
theorem zC4.refl (s:Sto):zC4 s s:=⟨rfl,λk r q hr hq=>by rw[hr] at hq;cases hq;exact List.Sublist.refl _⟩
theorem zC4.trans {a b c:Sto} (h:zC4 a b) (k:zC4 b c):zC4 a c:=by
 refine⟨h.1.trans k.1,λi r q hr hq=>?_⟩
 have hi:i<b.length:=by rw[<-h.1];exact (ZN.1 hr).1
 have e:b[i]? = some b[i]:=by simp[hi]
 exact (h.2 i r _ hr e).trans (k.2 i _ q e hq)
theorem px (s:Sto) (p:Nat->Int->Bool):zC4 (V0 s p) s:=by
 refine⟨Vs _ _,λk r q hr hq=>?_⟩
 obtain⟨a,ha,rfl⟩:=OX _ _ _ _ hr;rw[hq] at ha;cases ha;exact List.filter_sublist
theorem wV (s:Sto) (c:Cla):zC4 (Wi s c) s:=by
 unfold Wi
 split
 ·exact zC4.refl _
 split
 ·exact px _ _
 split
 ·exact px _ _
 exact zC4.refl _
def T5 (s:Sto):Nat:=(s.map List.length).sum
theorem pw:∀(t s:Sto),zC4 t s->T5 t<=T5 s/\(T5 t=T5 s->t=s)
 | [],[],_=>⟨Z2 _,λ_=>rfl⟩
 | [],b :: s,h=>by have:=h.1;simp at this
 | a :: t,[],h=>by have:=h.1;simp at this
 | a :: t,b :: s,h=>by
   have h0:=h.2 0 a b rfl rfl;have ih:=pw t s ⟨by simpa using h.1,λk r q hr hq=>h.2 (k+1) r q (by simpa using hr) (by simpa using hq)⟩
   have hl:=h0.length_le;have e1:T5 (a :: t)=a.length+T5 t:=by simp[T5]
   have e2:T5 (b :: s)=b.length+T5 s:=by simp[T5]
   refine⟨by omega,λhe=>?_⟩
   have ha:a=b:=h0.eq_of_length (by omega)
   have ht:t=s:=ih.2 (by omega)
   rw[ha,ht]
structure StepOk (f:Sto->Sto):Prop where
 dec:∀s,SubS (f s) s
 row:∀s,zC4 (f s) s
 mono:∀s t,SubS t s->zAI t=false->zAI s=false->SubS (f t) (f s)
 stay:∀s,zAI s=true->f s=s
theorem ei {f:Sto->Sto} (hf:StepOk f) {t s:Sto} (h:SubS t s):SubS (nrmS (f t)) (nrmS (f s)):=by
 cases ht:zAI t
 ·cases hs:zAI s
  ·exact ej (hf.mono s t h ht hs)
  rw[Ib h hs] at ht;cases ht
 rw[hf.stay t ht];have:nrmS t=Ts t:=by unfold nrmS;rw[ht,if_pos rfl]
 rw[this];exact Aw (by rw[wW,(hf.dec s).1];exact h.1)
def Av (fs:List (Sto->Sto)) (s u:Sto):Prop:=SubS u (nrmS s)/\nrmS u=u/\∀f∈fs,SubS u (nrmS (f u))
def JC (fs:List (Sto->Sto)) (s t:Sto):Prop:=SubS t s/\∀u,Av fs s u->SubS u t
def DM (fs:List (Sto->Sto)) (s t:Sto):Prop:=Av fs s t/\∀u,Av fs s u->SubS u t
theorem eh (fs:List (Sto->Sto)) (s:Sto):JC fs s s:=⟨SubS.refl _,λ_ hu=>hu.1.trans (Ax s)⟩
theorem eg {fs:List (Sto->Sto)} {s t:Sto} (h:JC fs s t) (f:Sto->Sto) (hf:f∈fs) (JB:StepOk f):JC fs s (f t) :=
 ⟨(JB.dec t).trans h.1,λu hu=>((hu.2.2 f hf).trans (ei JB (h.2 u hu))).trans (Ax _)⟩
theorem pu {fs:List (Sto->Sto)} {s t:Sto} (h:JC fs s t) (hf:zAI t=true) (JB:∀f∈fs,StepOk f):DM fs s (Ts t):=by
 have hc:=py t hf;have hn:nrmS (Ts t)=Ts t:=by unfold nrmS;rw[hc,if_pos rfl,ek]
 refine⟨⟨Aw (by rw[wW];exact h.1.1),hn,λf Ye=>?_⟩,λu hu=>?_⟩
 ·rw[(JB f Ye).stay _ hc,hn];exact SubS.refl _
 have h1:=h.2 u hu;have h2:=Ib h1 hf;have h3:u=Ts u:=by
  have:=hu.2.1;unfold nrmS at this;rw[h2,if_pos rfl] at this;exact this.symm
 rw[h3];exact Aw (by rw[wX];exact h1.1)
theorem ef {fs:List (Sto->Sto)} {s t:Sto} (h:JC fs s t) (hf:zAI t=false) (hs:∀f∈fs,f t=t):DM fs s t:=by
 have hn:nrmS t=t:=by unfold nrmS;rw[hf,if_neg (by simp)]
 have ee:zAI s=false:=by
  cases hq:zAI s
  ·rfl
  rw[Ib h.1 hq] at hf;cases hf
 have ed:nrmS s=s:=by unfold nrmS;rw[ee,if_neg (by simp)]
 exact⟨⟨by rw[ed];exact h.1,hn,λf Ye=>by rw[hs f Ye,hn];exact SubS.refl _⟩,h.2⟩
theorem pr (c:Cla):StepOk λs=>Wi s c where
 dec s:=pE s c
 row s:=wV s c
 mono s t h ht hs:=ep s t c h ht hs
 stay s h:=by unfold Wi;rw[h,if_pos rfl]
theorem wU (l:MLit) (x:Int) (w:World) :
 Calls prog 172 #[.agg #[.int .i64 l.var,.int .i64 l.op,.int .i64 l.n],.int .i64 x] w λe w'=>e=.returned (.bool (litV x l))/\Bw w w':=by
 obtain⟨R,hR⟩:∃R,litV x l=R:=⟨_,rfl⟩;rw[hR];have hE:R=if l.op=1 then decide (x<=l.n) else if l.op=2 then decide (l.n<=x) else if l.op=3 then x==l.n else if l.op=4 then x != l.n else false:=by
  rw[<-hR];rfl
 clear hR;by_cases q1:l.op=1
 ·have HE:Hid (R=decide (x<=l.n)):=by rw[hE,if_pos q1];rfl
  rw[q1];clear hE q1;go_enter func172,ntmps172
  go_wp2
  go_ret
  exact⟨ZD HE.o.symm,Z4 _ _⟩
 by_cases q2:l.op=2
 ·have HE:Hid (R=decide (l.n<=x)):=by rw[hE,if_neg q1,if_pos q2];rfl
  rw[q2];clear hE q1 q2;go_enter func172,ntmps172
  go_wp2
  go_ret
  exact⟨ZD HE.o.symm,Z4 _ _⟩
 by_cases q3:l.op=3
 ·have HE:Hid (R=(x==l.n)):=by rw[hE,if_neg q1,if_neg q2,if_pos q3];rfl
  rw[q3];clear hE q1 q2 q3;go_enter func172,ntmps172
  go_wp2
  go_ret
  exact⟨ZD HE.o.symm,Z4 _ _⟩
 by_cases q4:l.op=4
 ·have HE:Hid (R=(x != l.n)):=by rw[hE,if_neg q1,if_neg q2,if_neg q3,if_pos q4];rfl
  rw[q4];clear hE q1 q2 q3 q4;go_enter func172,ntmps172
  go_wp2
  go_ret
  exact⟨ZD HE.o.symm,Z4 _ _⟩
 have HE:Hid (R=false):=by rw[hE,if_neg q1,if_neg q2,if_neg q3,if_neg q4];rfl
 have g1:(l.op==1)=false:=by simpa using q1
 have g2:(l.op==2)=false:=by simpa using q2
 have g3:(l.op==3)=false:=by simpa using q3
 have g4:(l.op==4)=false:=by simpa using q4
 clear hE q1 q2 q3 q4;go_enter func172,ntmps172
 go_wp2
 go_ret
 exact⟨ZD HE.o.symm,Z4 _ _⟩
end Go.Proofs.YtndcpnlaadikoaaGreatDoor
