/- What the proof leans on, part 30. -/
import Derived.Test.YtdjbejlbmaiocagGreatDoorPartBc
import Derived.Test.YtdjbejlbmaiocagGreatDoorPartAf
import Derived.Test.YtdjbejlbmaiocagGreatDoorPartAb
import Derived.Test.YtdjbejlbmaiocagGreatDoorPartAr
import Derived.Defers
import Derived.Recover
import Derived.Test.YtdjbejlbmaiocagGreatDoorPartAe
namespace Go.Proofs.YtdjbejlbmaiocagGreatDoor
open Go.RowKit
theorem zQX (w:World) (v o n:Int) (B:Nat) (hB:B=w.heap.size):LArg (w.alloc (.cells #[.int .i64 v,.int .i64 o,.int .i64 n] 88)) (.slice (some ⟨B,0,none⟩) 1 1) [⟨v,o,n⟩]:=by
 subst hB
 refine⟨_,1,rfl,⟨by simp,by unfold maxLen;omega⟩,fun i t ht=>?_⟩
 match i,ht with
 | 0,ht =>
   cases ht
   exact⟨_,0,rfl,by simp,World.cell?_alloc_at _ _ _ 0 (by simp),World.cell?_alloc_at _ _ _ 1 (by simp),World.cell?_alloc_at _ _ _ 2 (by simp)⟩
theorem zGs (w:World) (a b:Int) (B:Nat) (hB:B=w.heap.size):IArg (w.alloc (.cells #[.int .i64 a,.int .i64 b] 3)) (.slice (some ⟨B,0,none⟩) 2 2) [a,b]:=by
 subst hB
 refine⟨_,2,rfl,⟨by simp,by unfold maxLen;omega⟩,fun i z hz=>?_⟩
 match i,hz with
 | 0,hz =>
   cases hz
   exact⟨_,0,rfl,by simp,World.cell?_alloc_at _ _ _ 0 (by simp)⟩
 | 1,hz =>
   cases hz
   exact⟨_,0,rfl,by simp,World.cell?_alloc_at _ _ _ 1 (by simp)⟩
theorem zNj {w w':World} (h:∃n,w'=w.drewN n):Below w.heap.size w w':=by
 obtain⟨n,rfl⟩:=h
 exact⟨rfl,rfl,rfl,Nat.le_refl _,fun _ _=>rfl⟩
set_option maxHeartbeats 3200000 in
set_option maxRecDepth 100000 in
theorem zOl (w:World) (hT:TabT w) :
 Calls Tryz.prog 11 #[] w fun e w'=>e=.returned (.bool true)∧Below w.heap.size w w':=by
 have HT:Hid (∀w',Below w.heap.size w w'→TabT w'):=fun w' h=>hT.below h
 obtain⟨P,hP,hPl⟩:=zMh
 have HP:Hid (zB0 twoM 20=(⟨1,[0,1],P⟩,0)):=hP
 clear hT hP
 go_enter Tryz.func11,Tryz.ntmps11
 go_wp2_with fail
 refine (zEM _).mono ?_
 rintro e w1 ⟨vs,cs,rfl,hm,hb1⟩
 have HM:Hid (MArg w1 vs cs twoM):=hm
 have HA1:Hid (Below w.heap.size w w1):=hb1
 clear hm hb1
 go_wp2_with fail
 refine (zIA twoM [0,2] vs cs _ _ (MArg.below (zAA _ _) HM.out) (zGs w1 0 2 _ rfl)).mono ?_
 rintro e w2 ⟨x,rfl,hx,hb2⟩
 rw[zTg] at hx ⊢
 dsimp only at hx ⊢
 have HX:Hid (∀Y,Below w2.heap.size w2 Y→LArg Y x [⟨1,1,1⟩]):=fun Y hY=>LArg.below hY hx.arg
 have HA2:Hid (Below w.heap.size w w2):=(HA1.out.alloc HA1.out.size _).trans (hb2.mono (by have:=HA1.out.size;simp;omega))
 obtain⟨ax,cx,hxe⟩:=zAB (show w2.ownsRow _ _ _ _ _ _ from hx)
 subst hxe
 clear hx hb2 HM
 go_wp2_with fail
 refine (zEM _).mono ?_
 rintro e w3 ⟨vs,cs,rfl,hm,hb3⟩
 have HM:Hid (MArg w3 vs cs twoM):=hm
 have HX3:Hid (Below w2.heap.size w2 w3):=hb3
 have HA3:Hid (Below w.heap.size w w3):=HA2.out.trans (hb3.mono HA2.out.size)
 clear hm hb3
 go_wp2_with fail
 refine (zHN twoM 20 vs cs _ HM.out (HT.out _ HA3.out)).mono ?_
 rintro e w4 ⟨vv,pp,rfl,hq,hb4⟩
 rw[HP.out] at hq ⊢
 dsimp only at hq ⊢
 obtain⟨L,hst,hLe⟩:=hq.prf
 simp only at hLe
 have hLl:0<L.length:=by have:=congrArg List.length hLe;rw[List.length_map] at this;omega
 obtain⟨av,cv,rfl⟩:=zAB hq.val
 obtain⟨ap,cp,rfl⟩:=zAB hst.1
 have HV:Hid (∀Y,Below w4.heap.size w4 Y→IArg Y (.slice av [0,1].length cv) [0,1]):=fun Y hY=>IArg.below hY (zDY hq.val)
 have HX4:Hid (Below w2.heap.size w2 w4):=HX3.out.trans (hb4.mono HX3.out.size)
 have HA4:Hid (Below w.heap.size w w4):=HA3.out.trans (hb4.mono HA3.out.size)
 have hLl2:(0:Int)<(L.length:Int):=by omega
 have hLl3:¬L=[]:=fun h=>by rw[h] at hLl;cases hLl
 clear hq hb4 hst hLe HM HP hPl
 go_wp2_with fail
 have hb5:Below w4.heap.size w4 (w4.alloc (.cells #[.int .i64 1,.slice av 2 cv,.slice ap L.length cp] 29)):=zAA _ _
 have hbl5:=heap_alloc_new w4 (.cells #[.int .i64 1,.slice av 2 cv,.slice ap L.length cp] 29)
 obtain⟨W5,hW5⟩:∃W5,w4.alloc (.cells #[.int .i64 1,.slice av 2 cv,.slice ap L.length cp] 29)=W5:=⟨_,rfl⟩
 have hsz5:W5.heap.size=w4.heap.size+1:=by rw[←hW5];simp
 rw[hW5] at hb5 hbl5 ⊢
 refine (zGQ [⟨1,1,1⟩] _ _ _ (HX.out _ ((HX4.out.trans (hb5.mono HX4.out.size)).alloc (by have:=HX4.out.size;omega) _)) (zQX W5 1 1 1 _ hsz5.symm)).mono ?_
 rintro e w6 ⟨rfl,hd6⟩
 have hB6:Below W5.heap.size W5 w6:=(zAA _ _).trans ((zNj hd6).mono (by simp))
 have HBL6:Hid (w6.heap[w4.heap.size]? = some (.cells #[.int .i64 1,.slice av 2 cv,.slice ap L.length cp] 29)):=(hB6.block _ (by omega)).trans hbl5
 have HB6:Hid (Below w4.heap.size w4 w6):=hb5.trans (hB6.mono (by omega))
 have k0:=blk9 HBL6.out 0 _ rfl
 have k1:=blk9 HBL6.out 1 _ rfl
 have k2:=blk9 HBL6.out 2 _ rfl
 have kl:=(Array.getElem?_eq_some_iff.1 HBL6.out).1
 clear hd6 hB6 hsz5 hW5 hb5 hbl5
 go_wp2_with fail
 refine (zDA [0,1] [0,1] _ _ _ (HV.out _ (HB6.out.alloc HB6.out.size _)) (zGs w6 0 1 _ rfl)).mono ?_
 rintro e w7 ⟨rfl,hd7⟩
 have hB7:Below w6.heap.size w6 w7:=(zAA _ _).trans ((zNj hd7).mono (by simp))
 have j2:=(hB7.cell (p:=⟨w4.heap.size,2,none⟩) kl).trans k2
 have jl:w4.heap.size<w7.heap.size:=Nat.lt_of_lt_of_le kl hB7.size
 have HB7:Hid (Below w.heap.size w w7):=HA4.out.trans ((HB6.out.trans (hB7.mono HB6.out.size)).mono HA4.out.size)
 rw[show (decide (([0,1]:List Int)=[0,1]))=true from rfl]
 clear hd7 hB7 k0 k1 k2
 go_wp2
 go_ret
 exact⟨rfl,HB7.out⟩
def zLF (t:Tok):Prop:=t.text.size≤4000∧(t.kind=2→(1≤t.text.size∧t.text.size≤4)∧∀c∈t.text.data.toList,48≤c.toNat∧c.toNat≤57)
inductive PR (α:Type) where
 | ok (a:α) (rest:List Tok)
 | bad (place e:Int)
def PR.bind {α β:Type} (p:PR α) (f:α→List Tok→PR β):PR β :=
 match p with
 | .ok a r=>f a r
 | .bad x e=>.bad x e
def zAI (en:Int):List Tok→Tok
 | []=>⟨0,en,ByteArray.empty⟩
 | t :: _=>t
def zBZ (en:Int) (fits:Bool) (l:List Tok):PR Tok:=if fits then .ok (zAI en l) l.tail else .bad (zAI en l).place 1
def zAN (en:Int) (s:ByteArray) (l:List Tok):PR Tok:=zBZ en ((zAI en l).text.toList==s.toList) l
def zFQ (s:ByteArray):Bool:=zAE ⟨[⟨s,0,0⟩],[],0,0⟩==0
def zCL (en:Int) (l:List Tok):PR ByteArray:=(zBZ en (zFQ (zAI en l).text) l).bind fun t r=>.ok t.text r
def idxA:List ByteArray→ByteArray→Nat→Int
 | [],_,_=>-1
 | x :: r,n,k=>if n.toList==x.toList then (k:Int) else idxA r n (k+1)
def zCI (en:Int) (texts:List ByteArray) (l:List Tok):PR Int :=
 (zBZ en (decide (0≤idxA texts (zAI en l).text 0)&&((zAI en l).kind != 0)) l).bind fun _ r=>.ok (idxA texts (zAI en l).text 0) r
def digV (l:List UInt8):Int:=l.foldl (fun n c=>n * 10+((c.toNat:Int) - 48)) 0
def zAJ (en:Int) (l:List Tok):PR Int :=
 if (zAI en l).text.toList==[45] then
  (zAN en ⟨#[45]⟩ l).bind fun _ l=>(zBZ en (((zAI en l).kind==2)&&(!((zAI en l).text.toList==[48]))) l).bind fun t r=>.ok (-1 * digV t.text.data.toList) r
 else (zBZ en ((zAI en l).kind==2) l).bind fun t r=>.ok (1 * digV t.text.data.toList) r
def zBg:List ByteArray→ByteArray→Int×Bool
 | [],_=>(0,false)
 | n :: r,s=>if (zBg r s).2 then ((zBg r s).1+1,true) else if n.data.toList=s.data.toList then (0,true) else (0,false)
def zAh (en:Int) (names:List ByteArray) (l:List Tok):PR Int :=
 if (zBg names (zAI en l).text).2 then (zBZ en true l).bind fun _ r=>.ok (zBg names (zAI en l).text).1 r
 else if zFQ (zAI en l).text then .bad (zAI en l).place 5 else .bad (zAI en l).place 1
theorem zIE (s n:ByteArray):∀l:List ByteArray,zBg (l++[n]) s=if n.data.toList=s.data.toList then ((l.length:Int),true) else zBg l s
 | []=>by
   simp[zBg]
 | m :: l=>by
   have ih:=zIE s n l
   simp only[List.cons_append,zBg,ih]
   by_cases h:n.data.toList=s.data.toList
   ·rw[if_pos h,if_pos h]
    simp
   ·rw[if_neg h,if_neg h]
theorem zHB:∀l:List ByteArray,(∀n∈l,n.data.toList≠[])→zBg l ByteArray.empty=(0,false)
 | [],_=>rfl
 | n :: l,h=>by
   have ih:=zHB l fun m hm=>h m (List.mem_cons_of_mem _ hm)
   simp only[zBg,ih]
   rw[if_neg (by simp),if_neg (show ¬n.data.toList=ByteArray.empty.data.toList from h n (List.mem_cons_self ..))]
def zB1 {α:Type} (en:Int) (item:List Tok→PR α):Nat→List α→List Tok→PR (List α)
 | 0,_,_=>.bad 0 0
 | f+1,acc,l =>
   if (zAI en l).text.toList==[44] then (zAN en ⟨#[44]⟩ l).bind fun _ l=>(item l).bind fun x l=>zB1 en item f (acc++[x]) l
   else (zAN en ⟨#[93]⟩ l).bind fun _ l=>.ok acc l
def zAZ {α:Type} (en:Int) (item:List Tok→PR α) (l:List Tok):PR (List α) :=
 (zAN en ⟨#[91]⟩ l).bind fun _ l =>
   if (zAI en l).text.toList==[93] then (zAN en ⟨#[93]⟩ l).bind fun _ l=>.ok [] l
   else (item l).bind fun x l=>zB1 en item (l.length+1) [x] l
def Eats {α:Type} (item:List Tok→PR α):Prop:=∀l x r,item l=.ok x r→r.length≤l.length
theorem PR.bind_ok {α β:Type} {p:PR α} {f:α→List Tok→PR β} {b:β} {r:List Tok} (h:p.bind f=.ok b r):∃a q,p=.ok a q∧f a q=.ok b r:=by
 cases p with
 | ok a q=>exact⟨a,q,rfl,h⟩
 | bad x e=>cases h
theorem zDd (en:Int) (l:List Tok) (fits:Bool) (t:Tok) (r:List Tok) (h:zBZ en fits l=.ok t r):r=l.tail:=by
 unfold zBZ at h
 split at h
 ·cases h;rfl
 ·cases h
theorem zQY {α:Type} (en:Int) (g:List Tok→Bool) (f:Tok→List Tok→α):Eats fun l=>(zBZ en (g l) l).bind fun t r=>.ok (f t r) r:=by
 intro l x r h
 obtain⟨t,q,h1,h2⟩:=PR.bind_ok h
 have:=zDd en l _ t q h1
 cases h2
 rw[this]
 simp
theorem zE2 (en:Int) (names:List ByteArray):Eats (zAh en names):=by
 intro l x r h
 unfold zAh at h
 split at h
 ·obtain⟨t,q,h1,h2⟩:=PR.bind_ok h
  have:=zDd en l _ t q h1
  cases h2
  rw[this];simp
 ·split at h <;> cases h
theorem zE3 (en:Int) (s:ByteArray):Eats (zAN en s):=by
 intro l x r h
 rw[zDd en l _ x r h];simp
theorem zCT (en:Int):Eats (zAJ en):=by
 intro l x r h
 unfold zAJ at h
 split at h
 ·obtain⟨t,q,h1,h2⟩:=PR.bind_ok h
  obtain⟨t2,q2,h3,h4⟩:=PR.bind_ok h2
  have e1:=zE3 en _ l t q h1
  have e2:=zDd en q _ t2 q2 h3
  cases h4
  rw[e2];simp;omega
 ·obtain⟨t2,q2,h3,h4⟩:=PR.bind_ok h
  have e2:=zDd en l _ t2 q2 h3
  cases h4
  rw[e2];simp
theorem zLG {α:Type} (en:Int) (item:List Tok→PR α) (hi:Eats item):∀(f:Nat) (acc:List α),Eats (zB1 en item f acc)
 | 0,acc=>fun l x r h=>by cases h
 | f+1,acc=>fun l x r h=>by
   unfold zB1 at h
   split at h
   ·obtain⟨t,q,h1,h2⟩:=PR.bind_ok h
    obtain⟨t2,q2,h3,h4⟩:=PR.bind_ok h2
    have e1:=zE3 en _ l t q h1
    have e2:=hi q t2 q2 h3
    have e3:=zLG en item hi f _ q2 x r h4
    omega
   ·obtain⟨t,q,h1,h2⟩:=PR.bind_ok h
    have e1:=zE3 en _ l t q h1
    cases h2
    exact e1
theorem zE4 {α:Type} (en:Int) (item:List Tok→PR α) (hi:Eats item):Eats (zAZ en item):=by
 intro l x r h
 unfold zAZ at h
 obtain⟨t,q,h1,h2⟩:=PR.bind_ok h
 have e1:=zE3 en _ l t q h1
 split at h2
 ·obtain⟨t2,q2,h3,h4⟩:=PR.bind_ok h2
  have e2:=zE3 en _ q t2 q2 h3
  cases h4
  omega
 ·obtain⟨t2,q2,h3,h4⟩:=PR.bind_ok h2
  have e2:=hi q t2 q2 h3
  have e3:=zLG en item hi _ _ q2 x r h4
  omega
def opWL:List ByteArray:=[⟨#[]⟩,⟨#[60,61]⟩,⟨#[62,61]⟩,⟨#[61,61]⟩,⟨#[33,61]⟩]
def zCk:List ByteArray:=[⟨#[97,110,121]⟩,⟨#[108,101,97,115,116]⟩,⟨#[109,111,115,116]⟩]
def zFR:List ByteArray:=[⟨#[]⟩,⟨#[108,101]⟩,⟨#[101,113]⟩,⟨#[110,101]⟩,⟨#[100,105,102,102,101,114]⟩,⟨#[101,108,101,109,101,110,116]⟩,⟨#[116,97,98,108,101]⟩,⟨#[116,105,109,101,115]⟩,⟨#[109,97,120]⟩,⟨#[99,108,97,117,115,101]⟩,⟨#[105,102,102]⟩]
def litP (en:Int) (names:List ByteArray) (l:List Tok):PR MLit :=
 (zAh en names l).bind fun v l=>(zCI en opWL l).bind fun op l=>(zAJ en l).bind fun n l=>.ok ⟨v,op,n⟩ l
theorem zJT (en:Int) (texts:List ByteArray):Eats (zCI en texts):=by
 intro l x r h
 unfold zCI at h
 obtain⟨t,q,h1,h2⟩:=PR.bind_ok h
 have:=zDd en l _ t q h1
 cases h2
 rw[this];simp
theorem zKF (en:Int) (names:List ByteArray):Eats (litP en names):=by
 intro l x r h
 unfold litP at h
 obtain⟨t,q,h1,h2⟩:=PR.bind_ok h
 obtain⟨t2,q2,h3,h4⟩:=PR.bind_ok h2
 obtain⟨t3,q3,h5,h6⟩:=PR.bind_ok h4
 have e1:=zE2 en names l t q h1
 have e2:=zJT en opWL q t2 q2 h3
 have e3:=zCT en q2 t3 q3 h5
 cases h6
 omega
def varW:ByteArray:=⟨#[118,97,114]⟩
def colW:ByteArray:=⟨#[58]⟩
def zCF:ByteArray:=⟨#[46,46]⟩
def zA5:ByteArray:=⟨#[59]⟩
def conW:ByteArray:=⟨#[99,111,110]⟩
def zBo:ByteArray:=⟨#[115,111,108,118,101]⟩
def zDz (en:Int) (l:List Tok):PR MVar :=
 (zAN en varW l).bind fun _ l=>(zCL en l).bind fun n l=>(zAN en colW l).bind fun _ l=>(zAJ en l).bind fun lo l=>(zAN en zCF l).bind fun _ l=>(zAJ en l).bind fun hi l=>(zAN en zA5 l).bind fun _ l=>.ok ⟨n,lo,hi⟩ l
def zLH (en:Int) (names:List ByteArray) (l:List Tok):PR (Int×Int) :=
 (zAN en zBo l).bind fun _ l=>(zCI en zCk l).bind fun g l =>
   if g=0 then (zAN en zA5 l).bind fun _ l=>.ok (g,0) l
   else (zAh en names l).bind fun v l=>(zAN en zA5 l).bind fun _ l=>.ok (g,v) l
def zBQ (en:Int) (names:List ByteArray) (k:Int) (l:List Tok):PR MCon :=
 if k=1∨k=2∨k=3 then (zAZ en (zAJ en) l).bind fun cs l=>(zAZ en (zAh en names) l).bind fun vs l=>(zAJ en l).bind fun n l=>.ok ⟨k,vs,cs,n,[],[]⟩ l
 else if k=4 then (zAZ en (zAh en names) l).bind fun vs l=>.ok ⟨k,vs,[],0,[],[]⟩ l
 else if k=5 then (zAZ en (zAJ en) l).bind fun cs l=>(zAh en names l).bind fun a l=>(zAh en names l).bind fun b l=>.ok ⟨k,[a,b],cs,0,[],[]⟩ l
 else if k=6 then (zAZ en (zAh en names) l).bind fun vs l=>(zAZ en (zAZ en (zAJ en)) l).bind fun rs l=>.ok ⟨k,vs,[],0,rs,[]⟩ l
 else if k=7 then (zAh en names l).bind fun a l=>(zAh en names l).bind fun b l=>(zAh en names l).bind fun c l=>.ok ⟨k,[a,b,c],[],0,[],[]⟩ l
 else if k=8 then (zAh en names l).bind fun a l=>(zAZ en (zAh en names) l).bind fun vs l=>.ok ⟨k,[a]++vs,[],0,[],[]⟩ l
 else if k=9 then (zAZ en (litP en names) l).bind fun ls l=>.ok ⟨k,[],[],0,[],ls⟩ l
 else if k=10 then (zAh en names l).bind fun a l=>(litP en names l).bind fun t l=>.ok ⟨k,[a],[],0,[],[t]⟩ l
 else .ok ⟨k,[],[],0,[],[]⟩ l
def conP (en:Int) (names:List ByteArray) (l:List Tok):PR MCon :=
 (zAN en conW l).bind fun _ l=>(zCI en zFR l).bind fun k l=>(zBQ en names k l).bind fun c l=>(zAN en zA5 l).bind fun _ l=>.ok c l
def zGt (en:Int):Nat→List MVar→List Tok→PR (List MVar)
 | 0,_,_=>.bad 0 0
 | f+1,acc,l=>if (zAI en l).text.toList==[118,97,114] then (zDz en l).bind fun v l=>zGt en f (acc++[v]) l else .ok acc l
def zFr (en:Int) (names:List ByteArray):Nat→List MCon→List Tok→PR (List MCon)
 | 0,_,_=>.bad 0 0
 | f+1,acc,l=>if (zAI en l).text.toList==[99,111,110] then (conP en names l).bind fun c l=>zFr en names f (acc++[c]) l else .ok acc l
def zJU (en:Int) (l:List Tok):PR Mod :=
 (zGt en (l.length+1) [] l).bind fun vs l=>(zFr en (vs.map MVar.name) (l.length+1) [] l).bind fun cs l=>(zLH en (vs.map MVar.name) l).bind fun g l =>
   if 0<l.length then .bad (zAI en l).place 1 else .ok ⟨vs,cs,g.1,g.2⟩ l
def TArg (N:Nat) (w:World) (v:Value) (l:List Tok):Prop :=
 ∃a c,v=.slice a l.length c∧(l.length≤c∧c≤maxLen)∧(l.length≤4000∧∀t∈l,zLF t)∧∀(i:Nat) (t:Tok),l[i]? = some t→∃b off,a=some ⟨b,off,none⟩∧b<N∧w.cell? ⟨b,off+i * 3,none⟩=some (.int .i64 t.kind)∧w.cell? ⟨b,off+i * 3+1,none⟩=some (.int .i64 t.place)∧w.cell? ⟨b,off+i * 3+2,none⟩=some (.string t.text)
def Rd (N R M:Nat) (en:Int) (w:World) (l:List Tok):Prop :=
 (N≤R∧N≤w.heap.size∧M≠R)∧∃v,w.heap[R]? = some (.cells #[v,.int .i64 en,.map (some M)] 177)∧TArg N w v l
theorem TArg.old {N:Nat} {w w':World} {v:Value} {l:List Tok} (h:TArg N w v l) (hc:∀p:Addr,p.block<N→w'.cell? p=w.cell? p):TArg N w' v l:=by
 obtain⟨a,c,hv,hm,ht,hr⟩:=h
 refine⟨a,c,hv,hm,ht,fun i t hi=>?_⟩
 obtain⟨b,off,ha,hlt,c0,c1,c2⟩:=hr i t hi
 exact⟨b,off,ha,hlt,(hc ⟨b,off+i * 3,none⟩ hlt).trans c0,(hc ⟨b,off+i * 3+1,none⟩ hlt).trans c1,(hc ⟨b,off+i * 3+2,none⟩ hlt).trans c2⟩
theorem Rd.len {N R M:Nat} {en:Int} {w:World} {l:List Tok} (h:Rd N R M en w l):l.length≤4000:=by
 obtain⟨_,v,_,_,_,_,_,ht,_⟩:=h
 exact ht.1
theorem Rd.set {N R M:Nat} {en:Int} {w:World} {l:List Tok} (h:Rd N R M en w l) {p:Addr} (hp:p.block≠R) (hN:N≤p.block) (u:Value):Rd N R M en (w.setCell p u) l:=by
 obtain⟨⟨h1,h2,h3⟩,v,hR,ht⟩:=h
 exact⟨⟨h1,by simpa using h2,h3⟩,v,(Below.heap_setCell _ _ _ _ (Ne.symm hp)).trans hR,ht.old fun q hq=>World.cell?_of_block (Below.heap_setCell _ _ _ _ (by omega))⟩
theorem Rd.put {N R M:Nat} {en:Int} {w:World} {l r:List Tok} {v:Value} (h:Rd N R M en w l) (hv:TArg N w v r):Rd N R M en (w.setCell ⟨R,0,none⟩ v) r:=by
 obtain⟨⟨h1,h2,h3⟩,v0,hR,_⟩:=h
 refine⟨⟨h1,by simpa using h2,h3⟩,v,?_,hv.old fun q hq=>World.cell?_of_block (Below.heap_setCell _ _ _ _ (by simp only;omega))⟩
 rw[heap_setCell_same w R 0 _ _ v hR]
 rfl
def tokA (t:Tok):Value:=.agg #[.int .i64 t.kind,.int .i64 t.place,.string t.text]
set_option maxHeartbeats 800000 in
set_option maxRecDepth 100000 in
theorem zAS (N R M:Nat) (en:Int) (w:World) (l:List Tok) (h:Rd N R M en w l) :
 Calls Tryz.prog 175 #[.pointer (some ⟨R,0,none⟩)] w fun e w'=>e=.returned (tokA (zAI en l))∧Below w.heap.size w w':=by
 obtain⟨⟨_,hNw,_⟩,v,hR,a,c,rfl,hm,_,hr⟩:=h
 have c0:w.cell? ⟨R,0,none⟩=some (.slice a l.length c):=by rw[Lib.cell_of_heap hR];rfl
 have c1:w.cell? ⟨R,1,none⟩=some (.int .i64 en):=by rw[Lib.cell_of_heap hR];rfl
 have hRl:R<w.heap.size:=(Array.getElem?_eq_some_iff.1 hR).1
 unfold maxLen at hm
 obtain⟨hm1,hm⟩:=hm
 cases l with
 | nil =>
   clear hr hR
   go_enter Tryz.func175,Tryz.ntmps175
   go_wp2
   refine bodyPost_ret (by simp[results,Tryz.results175,go_sem, *];try rfl) rfl ⟨rfl,?_⟩
   exact zAA _ _
 | cons t r =>
   obtain⟨b,off,rfl,hb,g0,g1,g2⟩:=hr 0 t rfl
   simp only[Nat.zero_mul,Nat.add_zero] at g0 g1 g2
   have hbw:b<w.heap.size:=by omega
   have hlen:((t :: r).length:Int)=(r.length:Int)+1:=by simp
   clear hr hR
   go_enter Tryz.func175,Tryz.ntmps175
   go_wp2
   refine bodyPost_ret (by simp[results,Tryz.results175,go_sem, *];try rfl) rfl ⟨rfl,?_⟩
   exact zAA _ _
theorem zTH (t:Tok) (w:World):Sem.run Tryz.prog (Instr.field 158 (.agg #[.int .i64 t.kind,.int .i64 t.place,.string t.text]) 0) w=.ok (.int .i64 t.kind) w:=by kernel_rfl
theorem zTy (t:Tok) (w:World):Sem.run Tryz.prog (Instr.field 158 (.agg #[.int .i64 t.kind,.int .i64 t.place,.string t.text]) 1) w=.ok (.int .i64 t.place) w:=by kernel_rfl
theorem zFs (t:Tok) (w:World):Sem.run Tryz.prog (Instr.field 158 (.agg #[.int .i64 t.kind,.int .i64 t.place,.string t.text]) 2) w=.ok (.string t.text) w:=by kernel_rfl
set_option maxHeartbeats 800000 in
set_option maxRecDepth 100000 in
theorem zGu (N R M:Nat) (en er:Int) (w:World) (l:List Tok) (h:Rd N R M en w l) :
 Calls Tryz.prog 179 #[.pointer (some ⟨R,0,none⟩),.int .i64 er] w fun e w'=>e=.panicked [{ v:=.iface 172 (.agg #[.int .i64 (zAI en l).place,.int .i64 er]),recovered:=false }]∧Below w.heap.size w w':=by
 have hf1:=zTy (zAI en l)
 go_enter Tryz.func179,Tryz.ntmps179
 go_wp2_with fail
 refine (zAS N R M en _ l h).mono ?_
 rintro e w1 ⟨rfl,hb1⟩
 unfold tokA
 go_wp2
 exact⟨rfl,rfl,hb1⟩
def zCU {α:Type} (p:PR α) (G:α→Value→World→Prop) (N R M:Nat) (en:Int) (X:Nat→Prop) (w:World) (e:Ending) (w':World):Prop :=
 match p with
 | .ok a r=>∃v,e=.returned v∧G a v w'∧Rd N R M en w' r∧Fr X w w'
 | .bad x er=>e=.panicked [{ v:=.iface 172 (.agg #[.int .i64 x,.int .i64 er]),recovered:=false }]∧Fr X w w'
theorem Rd.below {N R M:Nat} {en:Int} {w w':World} {l:List Tok} (h:Rd N R M en w l) (hb:Below w.heap.size w w'):Rd N R M en w' l:=by
 obtain⟨⟨h1,h2,h3⟩,v,hR,a,c,hv,hm,ht,hr⟩:=h
 have hRl:R<w.heap.size:=(Array.getElem?_eq_some_iff.1 hR).1
 refine⟨⟨h1,Nat.le_trans h2 hb.size,h3⟩,v,(hb.block R hRl).trans hR,a,c,hv,hm,ht,fun i t hi=>?_⟩
 obtain⟨b,off,ha,hlt,c0,c1,c2⟩:=hr i t hi
 have hbw:b<w.heap.size:=by omega
 exact⟨b,off,ha,hlt,(hb.cell (p:=⟨b,off+i * 3,none⟩) hbw).trans c0,(hb.cell (p:=⟨b,off+i * 3+1,none⟩) hbw).trans c1,(hb.cell (p:=⟨b,off+i * 3+2,none⟩) hbw).trans c2⟩
theorem zQZ {N R M B:Nat} {en:Int} {w1:World} {l r:List Tok} {v x y z:Value} {o:Obj} (h:Rd N R M en w1 l) (hv:TArg N w1 v r) (hne:B≠R) (hN:N≤B) :
 Rd N R M en (((((w1.setCell ⟨R,0,none⟩ v).setCell ⟨B,0,none⟩ x).setCell ⟨B,1,none⟩ y).setCell ⟨B,2,none⟩ z).alloc o) r :=
 ((((h.put hv).set (p:=⟨B,0,none⟩) hne hN _).set (p:=⟨B,1,none⟩) hne hN _).set (p:=⟨B,2,none⟩) hne hN _).below (zAA _ _)
theorem zQa {R:Nat} {w w1:World} {v x y z:Value} {o:Obj} (h:Below w.heap.size w w1) :
 Fr (fun k=>k=R) w (((((w1.setCell ⟨R,0,none⟩ v).setCell ⟨w.heap.size,0,none⟩ x).setCell ⟨w.heap.size,1,none⟩ y).setCell ⟨w.heap.size,2,none⟩ z).alloc o) :=
 (((((Fr.below (X:=fun k=>k=R) h).setX (p:=⟨R,0,none⟩) rfl _).setNew (p:=⟨w.heap.size,0,none⟩) (Nat.le_refl _) _).setNew (p:=⟨w.heap.size,1,none⟩) (Nat.le_refl _) _).setNew (p:=⟨w.heap.size,2,none⟩) (Nat.le_refl _) _).alloc _
set_option maxHeartbeats 800000 in
set_option maxRecDepth 100000 in
theorem zCi (N R M:Nat) (en:Int) (fits:Bool) (w:World) (l:List Tok) (h:Rd N R M en w l) (hf:fits=true→l≠[]) :
 Calls Tryz.prog 272 #[.pointer (some ⟨R,0,none⟩),.bool fits] w (zCU (zBZ en fits l) (fun t v _=>v=tokA t) N R M en (fun k=>k=R) w):=by
 cases fits
 ·have HB:Hid (Rd N R M en w l):=h
  go_enter Tryz.func272,Tryz.ntmps272
  go_wp2_with fail
  refine (zGu N R M en 1 _ l (HB.out.below (zAA _ _))).mono ?_
  rintro e w1 ⟨rfl,hb1⟩
  go_wp2
  exact⟨rfl,rfl,Fr.below ((zAA _ _).trans (hb1.mono (by simp)))⟩
 ·have HB:Hid (Rd N R M en w l):=h
  obtain⟨t,r,rfl⟩:∃t r,l=t :: r:=by
   cases l with
   | nil=>exact absurd rfl (hf rfl)
   | cons t r=>exact⟨t,r,rfl⟩
  go_enter Tryz.func272,Tryz.ntmps272
  go_wp2_with fail
  refine (zAS N R M en _ (t :: r) (HB.out.below (zAA _ _))).mono ?_
  rintro e w1 ⟨rfl,hb1⟩
  have HR1:Hid (Rd N R M en w1 (t :: r)):=(HB.out.below (zAA _ _)).below hb1
  obtain⟨⟨_,hNw,_⟩,v,hR,a,c,rfl,hm,ht,hr⟩:=HR1.out
  have c0:w1.cell? ⟨R,0,none⟩=some (.slice a (t :: r).length c):=by rw[Lib.cell_of_heap hR];rfl
  have hRl:R<w1.heap.size:=(Array.getElem?_eq_some_iff.1 hR).1
  have z0:w1.frozen? ⟨R,0,none⟩=false:=by unfold World.frozen?;simp only[hR];simp
  obtain⟨b,off,rfl,hb,_,_,_⟩:=hr 0 t rfl
  unfold maxLen at hm
  obtain⟨hm1,hm⟩:=hm
  have HB1:Hid (Below w.heap.size w w1):=(zAA _ _).trans (hb1.mono (by simp))
  have HW:w1.heap[w.heap.size]? = some (.cells #[.int .i64 0,.int .i64 0,.string ⟨#[]⟩] 158):=(hb1.block _ (by simp)).trans (by show (w.heap.push _)[w.heap.size]? = _;simp)
  have d0:w1.cell? ⟨w.heap.size,0,none⟩=some (.int .i64 0):=by rw[Lib.cell_of_heap HW];rfl
  have d1:w1.cell? ⟨w.heap.size,1,none⟩=some (.int .i64 0):=by rw[Lib.cell_of_heap HW];rfl
  have d2:w1.cell? ⟨w.heap.size,2,none⟩=some (.string ⟨#[]⟩):=by rw[Lib.cell_of_heap HW];rfl
  have y0:w1.frozen? ⟨w.heap.size,0,none⟩=false:=by unfold World.frozen?;simp only[HW];simp
  have y1:w1.frozen? ⟨w.heap.size,1,none⟩=false:=by unfold World.frozen?;simp only[HW];simp
  have y2:w1.frozen? ⟨w.heap.size,2,none⟩=false:=by unfold World.frozen?;simp only[HW];simp
  have hsw:w.heap.size<w1.heap.size:=(Array.getElem?_eq_some_iff.1 HW).1
  have hN0:N≤w.heap.size:=HB.out.1.2.1
  have hne:w.heap.size≠R:=by obtain⟨_,_,hR0,_⟩:=HB.out;have:=(Array.getElem?_eq_some_iff.1 hR0).1;omega
  unfold tokA
  simp only[zAI]
  clear hr hR ht hb1 hf h HW
  go_wp2
  ·have hr0:r=[]:=by
    rcases r with _ | ⟨x,r⟩
    ·rfl
    ·simp at hm1;omega
   have HT:TArg N w1 (.slice (some ⟨b,off,none⟩) r.length 0) r:=by
    subst hr0
    exact⟨_,_,rfl,⟨Nat.le_refl _,Nat.zero_le _⟩,⟨by simp,fun t ht=>by (cases ht)⟩,fun i t hi=>by (simp at hi)⟩
   refine bodyPost_ret (by simp[results,Tryz.results272,go_sem, *];try rfl) rfl ?_
   exact⟨_,rfl,rfl,zQZ HR1.out HT hne hN0,zQa HB1.out⟩
  ·have HT:TArg N w1 (.slice (some ⟨b,off+3,none⟩) r.length (c - 1)) r:=by
    obtain⟨_,v2,hR2,a2,c2,hv2,hm2,ht2,hr2⟩:=HR1.out
    have hv3:v2=.slice (some ⟨b,off,none⟩) (t :: r).length c:=by
     have h1:=c0
     rw[Lib.cell_of_heap hR2] at h1
     exact Option.some.inj h1
    rw[hv2] at hv3
    simp only[Value.slice.injEq] at hv3
    obtain⟨rfl,_,rfl⟩:=hv3
    refine⟨_,_,rfl,⟨by simp at hm1;omega,by unfold maxLen;omega⟩,⟨by have:=ht2.1;simp at this;omega,fun x hx=>ht2.2 x (List.mem_cons_of_mem _ hx)⟩,fun i x hi=>?_⟩
    obtain⟨b',off',ha,hlt,q0,q1,q2⟩:=hr2 (i+1) x (by simpa using hi)
    simp only[Option.some.injEq,Addr.mk.injEq,and_true] at ha
    obtain⟨rfl,rfl⟩:=ha
    refine⟨_,_,rfl,hlt,?_,?_,?_⟩
    ·rw[show off+3+i * 3=off+(i+1) * 3 by omega];exact q0
    ·rw[show off+3+i * 3=off+(i+1) * 3 by omega];exact q1
    ·rw[show off+3+i * 3=off+(i+1) * 3 by omega];exact q2
   refine bodyPost_ret (by simp[results,Tryz.results272,go_sem, *];try rfl) rfl ?_
   exact⟨_,rfl,rfl,zQZ HR1.out HT hne hN0,zQa HB1.out⟩
def zDH (s:ByteArray):Prop:=(ByteArray.empty.toList==s.toList)=false
theorem zE5 (en:Int) (l:List Tok) (s:ByteArray) (hs:zDH s) (h:((zAI en l).text.toList==s.toList)=true):l≠[]:=by
 intro hl
 subst hl
 have h2:(ByteArray.empty.toList==s.toList)=true:=h
 rw[hs] at h2
 cases h2
theorem zCU.fr {α:Type} {p:PR α} {G:α→Value→World→Prop} {N R M:Nat} {en:Int} {X:Nat→Prop} {w0 w w':World} {e:Ending} (h0:Fr X w0 w) (h:zCU p G N R M en X w e w'):zCU p G N R M en X w0 e w':=by
 unfold zCU at *
 cases p with
 | ok a r=>obtain⟨v,h1,h2,h3,h4⟩:=h;exact⟨v,h1,h2,h3,h0.trans h4⟩
 | bad x er=>exact⟨h.1,h0.trans h.2⟩
set_option maxHeartbeats 800000 in
set_option maxRecDepth 100000 in
theorem zAp (N R M:Nat) (en:Int) (s:ByteArray) (hs:zDH s) (w:World) (l:List Tok) (h:Rd N R M en w l) :
 Calls Tryz.prog 236 #[.pointer (some ⟨R,0,none⟩),.string s] w (zCU (zAN en s l) (fun _ v _=>v=.tuple #[]) N R M en (fun k=>k=R) w):=by
 have hf2:=zFs (zAI en l)
 have HB:Hid (Rd N R M en w l):=h
 have HS:Hid (zDH s):=hs
 obtain⟨B,hB⟩:∃B,((zAI en l).text.toList==s.toList)=B:=⟨_,rfl⟩
 have HBB:Hid (((zAI en l).text.toList==s.toList)=B):=hB
 have HP:Hid (zAN en s l=zBZ en B l):=by show _=_;unfold zAN;rw[hB]
 rw[HP.out]
 clear hs hB
 go_enter Tryz.func236,Tryz.ntmps236
 go_wp2_with fail
 refine (zAS N R M en _ l HB.out).mono ?_
 rintro e w1 ⟨rfl,hb1⟩
 have HR1:Hid (Rd N R M en w1 l):=HB.out.below hb1
 have HF1:Hid (Fr (fun k=>k=R) w w1):=Fr.below hb1
 unfold tokA
 go_wp2_with fail
 rw[HBB.out]
 refine (zCi N R M en B w1 l HR1.out (fun hb=>zE5 en l s HS.out (HBB.out.trans hb))).mono ?_
 intro e w2 hp
 have HP2:Hid (zCU (zBZ en B l) (fun t v _=>v=tokA t) N R M en (fun k=>k=R) w e w2):=hp.fr HF1.out
 clear hp hb1 h
 cases B
 ·obtain⟨rfl,hfr⟩:=HP2.out
  go_wp2
  exact⟨rfl,rfl,hfr⟩
 ·obtain⟨v,rfl,rfl,hrd,hfr⟩:=HP2.out
  unfold tokA
  go_wp2
  go_end0
  exact⟨_,rfl,rfl,hrd,hfr⟩
end Go.Proofs.YtdjbejlbmaiocagGreatDoor
