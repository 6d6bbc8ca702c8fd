/- What the proof leans on, part 1. -/
import Derived.Test.YtdjbejlbmaiocafGreatDoorRows
import Derived.WalkKit
import Derived.WalkSpells
import Derived.WalkLawsBesides
namespace Go.Proofs.YtdjbejlbmaiocafGreatDoor
structure Tok where
 kind:Int
 place:Int
 text:ByteArray
def isL (c:UInt8):Bool:=decide (97≤(c.toNat:Int))&&decide ((c.toNat:Int)≤122)
def isD (c:UInt8):Bool:=decide (48≤(c.toNat:Int))&&decide ((c.toNat:Int)≤57)
def isW (c:UInt8):Bool:=isL c || isD c
def zBC (c:UInt8):Bool:=(c.toNat:Int) != 10
def isB (c:UInt8):Bool:=(c.toNat:Int)==32 || ((c.toNat:Int)==9 || (c.toNat:Int)==10)
def zAb (p:UInt8→Bool) (l:List UInt8) (k:Nat):Nat:=k+((l.drop k).takeWhile p).length
def zB4 (l:List UInt8) (k:Nat):UInt8:=l.getD k 0
theorem zBi (p:UInt8→Bool) (l:List UInt8) (k:Nat) (h:∀h:k<l.length,p l[k]=false):zAb p l k=k:=by
 unfold zAb
 by_cases hk:k<l.length
 ·rw[List.drop_eq_getElem_cons hk,List.takeWhile_cons,h hk];simp
 ·rw[List.drop_eq_nil_of_le (by omega)];simp
theorem zC5 (p:UInt8→Bool) (l:List UInt8) (k:Nat) (hk:k<l.length) (h:p l[k]=true):zAb p l k=zAb p l (k+1):=by
 unfold zAb
 rw[List.drop_eq_getElem_cons hk,List.takeWhile_cons,h];simp;omega
theorem zFq (p:UInt8→Bool) (l:List UInt8):(l.takeWhile p).length≤l.length:=by
 induction l with
 | nil=>simp
 | cons a r ih=>rw[List.takeWhile_cons];split <;> simp;omega
theorem zBs (p:UInt8→Bool) (l:List UInt8) (k:Nat) (hk:k≤l.length):k≤zAb p l k∧zAb p l k≤l.length:=by
 unfold zAb
 have:=zFq p (l.drop k)
 simp at this
 omega
theorem zFT (p:UInt8→Bool) (l:List UInt8) (k:Nat) (hk:k<l.length) (h:p l[k]=true):k<zAb p l k:=by
 rw[zC5 p l k hk h];have:=zBs p l (k+1) (by omega);omega
def zCr:Bool→List UInt8→Nat
 | _,[]=>0
 | note,c :: r=>if note || (c.toNat:Int)==37 then 1+zCr (zBC c) r else if isB c then 1+zCr false r else 0
theorem zJt (b:Bool) (l:List UInt8):zCr b l≤l.length:=by
 induction l generalizing b with
 | nil=>simp[zCr]
 | cons c r ih =>
   unfold zCr
   split
   ·have:=ih (zBC c);simp;omega
   ·split
    ·have:=ih false;simp;omega
    ·simp
theorem zHl (l:List UInt8):zCr true l=(l.takeWhile zBC).length+zCr false (l.drop (l.takeWhile zBC).length):=by
 induction l with
 | nil=>simp[zCr]
 | cons c r ih =>
   rw[List.takeWhile_cons]
   cases h:zBC c
   ·have h10:(c.toNat:Int)=10:=by simpa[zBC] using h
    simp only[Bool.false_eq_true,if_false,List.length_nil,Nat.zero_add,List.drop_zero]
    simp[zCr,h,h10,isB]
   ·simp only[if_true,List.length_cons,List.drop_succ_cons]
    simp only[zCr,Bool.true_or,if_true,h]
    rw[ih];omega
def zAL (b:Bool) (l:List UInt8) (k:Nat):Nat:=k+zCr b (l.drop k)
theorem zFr (b:Bool) (l:List UInt8) (k:Nat) (hk:k≤l.length):k≤zAL b l k∧zAL b l k≤l.length:=by
 unfold zAL
 have:=zJt b (l.drop k)
 simp at this
 omega
theorem zEz (b:Bool) (l:List UInt8) (k:Nat) (hk:¬k<l.length):zAL b l k=k:=by
 unfold zAL;rw[List.drop_eq_nil_of_le (by omega)];simp[zCr]
theorem zCO (l:List UInt8) (k:Nat) (hk:k<l.length) (h:isB l[k]=true):zAL false l k=zAL false l (k+1):=by
 unfold zAL
 have h37:((l[k].toNat:Int)==37)=false:=by
  simp only[isB,Bool.or_eq_true,beq_iff_eq] at h
  simp only[beq_eq_false_iff_ne];omega
 rw[List.drop_eq_getElem_cons hk]
 simp only[zCr,h37,h,Bool.false_or,Bool.false_eq_true,if_false,if_true];omega
theorem zGa (b:Bool) (l:List UInt8) (k:Nat) (hk:k<l.length) (h:(b || (l[k].toNat:Int)==37)=true):zAL b l k=zAL (zBC l[k]) l (k+1):=by
 unfold zAL
 rw[List.drop_eq_getElem_cons hk]
 simp only[zCr,h,if_true];omega
theorem zEq (l:List UInt8) (k:Nat) (hk:k<l.length) (h:(l[k].toNat:Int)=37):zAL false l k=zAL false l (zAb zBC l k):=by
 have hn:zBC l[k]=true:=by unfold zBC;rw[h];decide
 rw[zGa false l k hk (by simp[h]),zC5 zBC l k hk hn,hn]
 unfold zAL zAb
 rw[zHl,List.drop_drop];omega
theorem zD7 (l:List UInt8) (k:Nat) (hk:k<l.length) (h:isB l[k]=false) (h37:((l[k].toNat:Int)==37)=false):zAL false l k=k:=by
 unfold zAL
 rw[List.drop_eq_getElem_cons hk]
 simp[zCr,h,h37]
def zGb (l:List UInt8):Bool:=(l.take 2==[46,46]) || ((l.take 2==[60,61]) || ((l.take 2==[62,61]) || ((l.take 2==[61,61]) || (l.take 2==[33,61]))))
def zJu (c:UInt8):Bool:=((c.toNat:Int)==91) || (((c.toNat:Int)==93) || (((c.toNat:Int)==59) || (((c.toNat:Int)==58) || (((c.toNat:Int)==44) || ((c.toNat:Int)==45)))))
def zCs (l:List UInt8):Nat:=if zGb l then 2 else if zJu (zB4 l 0) then 1 else 0
theorem zFs (l:List UInt8) (h:zGb l=true):2≤l.length:=by
 have:(l.take 2).length=2:=by
  simp only[zGb,Bool.or_eq_true,beq_iff_eq] at h
  rcases h with h | h | h | h | h <;> rw[h] <;> rfl
 simp at this;omega
theorem zHI (l:List UInt8) (h:0<l.length):zCs l≤l.length:=by
 unfold zCs
 split
 ·exact zFs l ‹_›
 ·split <;> omega
def zBc (l:List UInt8) (k:Nat):Nat :=
 if isL (zB4 l k) then 1 else if isD (zB4 l k) then 2 else if zCs (l.drop k)=0 then 0 else 3
def zBe (l:List UInt8) (k:Nat):Nat :=
 if isL (zB4 l k) then zAb isW l k else if isD (zB4 l k) then zAb isD l k else k+zCs (l.drop k)
theorem zB5 (l:List UInt8) (k:Nat) (hk:k<l.length):zB4 l k=l[k]:=by simp[zB4,hk]
theorem zHJ (l:List UInt8) (k:Nat) (hk:k<l.length):k≤zBe l k∧zBe l k≤l.length:=by
 unfold zBe
 split
 ·exact zBs _ _ _ (by omega)
 ·split
  ·exact zBs _ _ _ (by omega)
  ·have:=zHI (l.drop k) (by simp;omega);simp at this;omega
theorem zJv (l:List UInt8) (k:Nat) (hk:k<l.length) (h:zBc l k≠0):k<zBe l k:=by
 unfold zBc at h;unfold zBe
 rw[zB5 l k hk] at *
 split
 ·refine zFT _ _ _ hk ?_;rename_i h1;simp[isW,h1]
 ·split
  ·exact zFT _ _ _ hk ‹_›
  ·rename_i h1 h2;simp[h1,h2] at h;omega
def zAm (s:ByteArray) (k:Nat):Tok :=
 if zBc s.data.toList k=0 then ⟨0,0,ByteArray.empty⟩ else ⟨zBc s.data.toList k,k,s.extract k (zBe s.data.toList k)⟩
def zB6 (kind:Int) (t:ByteArray):Int :=
 if kind=1 then (if 12<t.size then 2 else 0) else if kind=2 then (if 4<t.size then 2 else if 1<t.size∧((zB4 t.data.toList 0).toNat:Int)=48 then 1 else 0) else if kind=3 then 0 else 1
def zCt:Nat→ByteArray→Nat→List Tok→List Tok×Nat×Int
 | 0,_,_,acc=>(acc,0,0)
 | f+1,s,k,acc =>
   if zAL false s.data.toList k<s.size then
    if zB6 (zAm s (zAL false s.data.toList k)).kind (zAm s (zAL false s.data.toList k)).text=0 then
     zCt f s (zBe s.data.toList (zAL false s.data.toList k)) (acc++[zAm s (zAL false s.data.toList k)])
    else ([],zAL false s.data.toList k,zB6 (zAm s (zAL false s.data.toList k)).kind (zAm s (zAL false s.data.toList k)).text)
   else (acc,0,0)
def zA0 (s:ByteArray):List Tok×Nat×Int:=if 4000<s.size then ([],0,2) else zCt (s.size+1) s 0 []
theorem zC6 (f:Nat) (s:ByteArray) (k:Nat) (acc:List Tok) (h:¬zAL false s.data.toList k<s.size):zCt f s k acc=(acc,0,0):=by
 cases f with
 | zero=>rfl
 | succ f=>rw[zCt,if_neg h]
theorem zD8 (f:Nat) (s:ByteArray) (k j:Nat) (acc:List Tok) (hj:zAL false s.data.toList k=j) (h:j<s.size) (he:zB6 (zAm s j).kind (zAm s j).text≠0) :
 zCt (f+1) s k acc=([],j,zB6 (zAm s j).kind (zAm s j).text):=by
 rw[zCt,hj,if_pos h,if_neg he]
theorem zCe (f:Nat) (s:ByteArray) (k j:Nat) (acc:List Tok) (hj:zAL false s.data.toList k=j) (h:j<s.size) (he:zB6 (zAm s j).kind (zAm s j).text=0) :
 zCt (f+1) s k acc=zCt f s (zBe s.data.toList j) (acc++[zAm s j]):=by
 rw[zCt,hj,if_pos h,if_pos he]
theorem zE0 (s:ByteArray) (j:Nat) (he:zB6 (zAm s j).kind (zAm s j).text=0):zBc s.data.toList j≠0:=by
 intro h
 unfold zAm at he
 rw[if_pos h] at he
 simp[zB6] at he
theorem zBt (s:ByteArray) (a b:Nat) (h:b≤s.size):(s.extract a b).size=b - a:=by
 simp[ByteArray.size_extract];omega
open Go.RowKit
theorem zAF {k:IntKind} {a b:Int} (h:a=b):Ending.returned (.int k a)=.returned (.int k b):=by rw[h]
theorem zAB {a b:Bool} (h:a=b):Ending.returned (.bool a)=.returned (.bool b):=by rw[h]
theorem zCE (s:ByteArray) (k:Nat) (_h:k<s.size) (h':k<s.data.toList.length):s.data.toList[k]=s[k]:=by rw[Array.getElem_toList];rfl
set_option maxHeartbeats 400000 in
theorem zKy (c:UInt8) (w:World) :
 Calls Tryz.prog 269 #[.int .u8 c.toNat] w fun e w'=>e=.returned (.bool (zBC c))∧w'=w:=by
 unfold zBC
 go_enter Tryz.func269,Tryz.ntmps269
 go_wp2
 go_ret
 exact⟨rfl,rfl⟩
set_option maxHeartbeats 400000 in
theorem zB7 (c:UInt8) (w:World) :
 Calls Tryz.prog 270 #[.int .u8 c.toNat] w fun e w'=>e=.returned (.bool (isL c))∧w'=w:=by
 unfold isL
 go_enter Tryz.func270,Tryz.ntmps270
 go_wp2
 ·go_ret;exact⟨by simp[*],rfl⟩
 ·go_ret;refine⟨by rw[decide_eq_false (by omega)];rfl,rfl⟩
set_option maxHeartbeats 400000 in
theorem zB8 (c:UInt8) (w:World) :
 Calls Tryz.prog 272 #[.int .u8 c.toNat] w fun e w'=>e=.returned (.bool (isD c))∧w'=w:=by
 unfold isD
 go_enter Tryz.func272,Tryz.ntmps272
 go_wp2
 ·go_ret;exact⟨by simp[*],rfl⟩
 ·go_ret;refine⟨by rw[decide_eq_false (by omega)];rfl,rfl⟩
set_option maxHeartbeats 400000 in
theorem zHK (c:UInt8) (w:World) :
 Calls Tryz.prog 271 #[.int .u8 c.toNat] w fun e w'=>e=.returned (.bool (isW c))∧w'=w:=by
 unfold isW
 cases h:isL c
 all_goals
  go_enter Tryz.func271,Tryz.ntmps271
  go_wp2_with (first | (go_at_call 270;refine (zB7 _ _).mono ?_;rintro e w' ⟨rfl,rfl⟩;rw[h]) | (go_at_call 272;refine (zB8 _ _).mono ?_;rintro e w' ⟨rfl,rfl⟩))
  go_ret;exact⟨by simp,rfl⟩
set_option maxHeartbeats 400000 in
theorem zLc (s:ByteArray) (k:Nat) (hk:k≤s.size) (hs:s.size≤maxLen) (w:World) :
 Calls Tryz.prog 268 #[.string s,.int .i64 k,.func (.func 269) #[] #[]] w fun e w'=>e=.returned (.int .i64 (zAb zBC s.data.toList k))∧w'=w:=by
 unfold maxLen at hs
 go_enter Tryz.func268,Tryz.ntmps268
 go_wp2
 go_loop [1] (fun i=>∃m:Nat,m≤s.size∧i=.int .i64 m∧Hid (zAb zBC s.data.toList m=zAb zBC s.data.toList k)) (fun i=>s.size - (intOf i).toNat)
 case atStart=>exact⟨k,hk,rfl,rfl⟩
 case round =>
  obtain⟨m,hm,rfl,hr⟩:=hrel
  by_cases hlt:m<s.size
  ·have hl:m<s.data.toList.length:=by simpa using hlt
   have hget:=zCE s m hlt hl
   cases hp:zBC s[m]
   ·have HE:Hid (zAb zBC s.data.toList m=m):=zBi zBC _ m (fun h=>by rw[hget];exact hp)
    have HP:Hid (zBC s[m]=false):=hp
    clear hp hget
    go_wp2_with fail
    refine (zKy _ _).mono ?_
    rintro e w' ⟨rfl,rfl⟩
    rw[HP.out]
    go_wp2
    go_ret
    exact⟨zAF (by rw[←hr.out,HE.out]),rfl⟩
   ·have HE:Hid (zAb zBC s.data.toList m=zAb zBC s.data.toList (m+1)):=zC5 zBC _ m hl (by rw[hget];exact hp)
    have HP:Hid (zBC s[m]=true):=hp
    clear hp hget
    go_wp2_with fail
    refine (zKy _ _).mono ?_
    rintro e w' ⟨rfl,rfl⟩
    rw[HP.out]
    go_wp2
    go_round
    case rel=>exact⟨m+1,by omega,by go_num,HE.out▸hr.out⟩
    case measure=>simp[intOf];omega
  ·have HE:Hid (zAb zBC s.data.toList m=m):=zBi zBC _ m (fun h=>by simp at h;omega)
   go_wp2
   go_ret
   exact⟨zAF (by rw[←hr.out,HE.out]),rfl⟩
set_option maxHeartbeats 400000 in
theorem zJw (s:ByteArray) (k:Nat) (hk:k≤s.size) (hs:s.size≤maxLen) (w:World) :
 Calls Tryz.prog 268 #[.string s,.int .i64 k,.func (.func 271) #[] #[]] w fun e w'=>e=.returned (.int .i64 (zAb isW s.data.toList k))∧w'=w:=by
 unfold maxLen at hs
 go_enter Tryz.func268,Tryz.ntmps268
 go_wp2
 go_loop [1] (fun i=>∃m:Nat,m≤s.size∧i=.int .i64 m∧Hid (zAb isW s.data.toList m=zAb isW s.data.toList k)) (fun i=>s.size - (intOf i).toNat)
 case atStart=>exact⟨k,hk,rfl,rfl⟩
 case round =>
  obtain⟨m,hm,rfl,hr⟩:=hrel
  by_cases hlt:m<s.size
  ·have hl:m<s.data.toList.length:=by simpa using hlt
   have hget:=zCE s m hlt hl
   cases hp:isW s[m]
   ·have HE:Hid (zAb isW s.data.toList m=m):=zBi isW _ m (fun h=>by rw[hget];exact hp)
    have HP:Hid (isW s[m]=false):=hp
    clear hp hget
    go_wp2_with fail
    refine (zHK _ _).mono ?_
    rintro e w' ⟨rfl,rfl⟩
    rw[HP.out]
    go_wp2
    go_ret
    exact⟨zAF (by rw[←hr.out,HE.out]),rfl⟩
   ·have HE:Hid (zAb isW s.data.toList m=zAb isW s.data.toList (m+1)):=zC5 isW _ m hl (by rw[hget];exact hp)
    have HP:Hid (isW s[m]=true):=hp
    clear hp hget
    go_wp2_with fail
    refine (zHK _ _).mono ?_
    rintro e w' ⟨rfl,rfl⟩
    rw[HP.out]
    go_wp2
    go_round
    case rel=>exact⟨m+1,by omega,by go_num,HE.out▸hr.out⟩
    case measure=>simp[intOf];omega
  ·have HE:Hid (zAb isW s.data.toList m=m):=zBi isW _ m (fun h=>by simp at h;omega)
   go_wp2
   go_ret
   exact⟨zAF (by rw[←hr.out,HE.out]),rfl⟩
set_option maxHeartbeats 400000 in
theorem zId (s:ByteArray) (k:Nat) (hk:k≤s.size) (hs:s.size≤maxLen) (w:World) :
 Calls Tryz.prog 268 #[.string s,.int .i64 k,.func (.func 272) #[] #[]] w fun e w'=>e=.returned (.int .i64 (zAb isD s.data.toList k))∧w'=w:=by
 unfold maxLen at hs
 go_enter Tryz.func268,Tryz.ntmps268
 go_wp2
 go_loop [1] (fun i=>∃m:Nat,m≤s.size∧i=.int .i64 m∧Hid (zAb isD s.data.toList m=zAb isD s.data.toList k)) (fun i=>s.size - (intOf i).toNat)
 case atStart=>exact⟨k,hk,rfl,rfl⟩
 case round =>
  obtain⟨m,hm,rfl,hr⟩:=hrel
  by_cases hlt:m<s.size
  ·have hl:m<s.data.toList.length:=by simpa using hlt
   have hget:=zCE s m hlt hl
   cases hp:isD s[m]
   ·have HE:Hid (zAb isD s.data.toList m=m):=zBi isD _ m (fun h=>by rw[hget];exact hp)
    have HP:Hid (isD s[m]=false):=hp
    clear hp hget
    go_wp2_with fail
    refine (zB8 _ _).mono ?_
    rintro e w' ⟨rfl,rfl⟩
    rw[HP.out]
    go_wp2
    go_ret
    exact⟨zAF (by rw[←hr.out,HE.out]),rfl⟩
   ·have HE:Hid (zAb isD s.data.toList m=zAb isD s.data.toList (m+1)):=zC5 isD _ m hl (by rw[hget];exact hp)
    have HP:Hid (isD s[m]=true):=hp
    clear hp hget
    go_wp2_with fail
    refine (zB8 _ _).mono ?_
    rintro e w' ⟨rfl,rfl⟩
    rw[HP.out]
    go_wp2
    go_round
    case rel=>exact⟨m+1,by omega,by go_num,HE.out▸hr.out⟩
    case measure=>simp[intOf];omega
  ·have HE:Hid (zAb isD s.data.toList m=m):=zBi isD _ m (fun h=>by simp at h;omega)
   go_wp2
   go_ret
   exact⟨zAF (by rw[←hr.out,HE.out]),rfl⟩
set_option maxHeartbeats 400000 in
theorem zHL (t:ByteArray) (ht:0<t.size) (hs:t.size≤maxLen) (w:World) :
 Calls Tryz.prog 273 #[.string t] w fun e w'=>e=.returned (.int .i64 (zCs t.data.toList))∧w'=w:=by
 unfold maxLen at hs
 have he:(t.extract 0 2).toList=t.data.toList.take 2:=by rw[ByteArray.toList_eq];simp
 have hb:zB4 t.data.toList 0=t[0]:=by rw[zB5 _ _ (by simpa using ht)];exact zCE t 0 ht _
 by_cases h2:2≤t.size
 ·go_enter Tryz.func273,Tryz.ntmps273
  go_wp2
  all_goals (go_ret;refine⟨zAF ?_,rfl⟩;simp_all[zCs,zGb,zJu])
 ·have hn:zGb t.data.toList=false:=by
   cases h:zGb t.data.toList
   ·rfl
   ·have:=zFs _ h;simp at this;omega
  go_enter Tryz.func273,Tryz.ntmps273
  go_wp2
  all_goals (go_ret;refine⟨zAF ?_,rfl⟩;simp_all[zCs,zJu])
end Go.Proofs.YtdjbejlbmaiocafGreatDoor
