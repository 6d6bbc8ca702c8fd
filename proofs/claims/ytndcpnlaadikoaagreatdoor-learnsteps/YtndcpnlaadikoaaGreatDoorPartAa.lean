/- What the proof leans on, part 1. -/
import Derived.Test.YtndcpnlaadikoaaGreatDoorRows
import Derived.WalkKit
import Derived.WalkSpells
import Derived.WalkLawsBesides
namespace Go.Proofs.YtndcpnlaadikoaaGreatDoor
structure Tok where
 kind:Int
 place:Int
 text:ByteArray
def isL (c:UInt8):Bool:=decide (97≤(c.toNat:Int))&&decide ((c.toNat:Int)≤122)
def isD (c:UInt8):Bool:=decide (48≤(c.toNat:Int))&&decide ((c.toNat:Int)≤57)
def isW (c:UInt8):Bool:=isL c || isD c
def zBN (c:UInt8):Bool:=(c.toNat:Int) != 10
def isB (c:UInt8):Bool:=(c.toNat:Int)==32 || ((c.toNat:Int)==9 || (c.toNat:Int)==10)
def zAn (p:UInt8→Bool) (l:List UInt8) (k:Nat):Nat:=k+((l.drop k).takeWhile p).length
def zCi (l:List UInt8) (k:Nat):UInt8:=l.getD k 0
theorem zCE (p:UInt8→Bool) (l:List UInt8) (k:Nat) (h:∀h:k<l.length,p l[k]=false):zAn p l k=k:=by
 unfold zAn
 by_cases hk:k<l.length
 ·rw[List.drop_eq_getElem_cons hk,List.takeWhile_cons,h hk];simp
 ·rw[List.drop_eq_nil_of_le (by omega)];simp
theorem zDq (p:UInt8→Bool) (l:List UInt8) (k:Nat) (hk:k<l.length) (h:p l[k]=true):zAn p l k=zAn p l (k+1):=by
 unfold zAn
 rw[List.drop_eq_getElem_cons hk,List.takeWhile_cons,h];simp;omega
theorem zHE (p:UInt8→Bool) (l:List UInt8):(l.takeWhile p).length≤l.length:=by
 induction l with
 | nil=>simp
 | cons a r ih=>rw[List.takeWhile_cons];split <;> simp;omega
theorem zCU (p:UInt8→Bool) (l:List UInt8) (k:Nat) (hk:k≤l.length):k≤zAn p l k∧zAn p l k≤l.length:=by
 unfold zAn
 have:=zHE p (l.drop k)
 simp at this
 omega
theorem zGc (p:UInt8→Bool) (l:List UInt8) (k:Nat) (hk:k<l.length) (h:p l[k]=true):k<zAn p l k:=by
 rw[zDq p l k hk h];have:=zCU p l (k+1) (by omega);omega
def zDb:Bool→List UInt8→Nat
 | _,[]=>0
 | note,c :: r=>if note || (c.toNat:Int)==37 then 1+zDb (zBN c) r else if isB c then 1+zDb false r else 0
theorem zL4 (b:Bool) (l:List UInt8):zDb b l≤l.length:=by
 induction l generalizing b with
 | nil=>simp[zDb]
 | cons c r ih =>
   unfold zDb
   split
   ·have:=ih (zBN c);simp;omega
   ·split
    ·have:=ih false;simp;omega
    ·simp
theorem zJv (l:List UInt8):zDb true l=(l.takeWhile zBN).length+zDb false (l.drop (l.takeWhile zBN).length):=by
 induction l with
 | nil=>simp[zDb]
 | cons c r ih =>
   rw[List.takeWhile_cons]
   cases h:zBN c
   ·have h10:(c.toNat:Int)=10:=by simpa[zBN] using h
    simp only[Bool.false_eq_true,if_false,List.length_nil,Nat.zero_add,List.drop_zero]
    simp[zDb,h,h10,isB]
   ·simp only[if_true,List.length_cons,List.drop_succ_cons]
    simp only[zDb,Bool.true_or,if_true,h]
    rw[ih];omega
def zAT (b:Bool) (l:List UInt8) (k:Nat):Nat:=k+zDb b (l.drop k)
theorem zHF (b:Bool) (l:List UInt8) (k:Nat) (hk:k≤l.length):k≤zAT b l k∧zAT b l k≤l.length:=by
 unfold zAT
 have:=zL4 b (l.drop k)
 simp at this
 omega
theorem zF2 (b:Bool) (l:List UInt8) (k:Nat) (hk:¬k<l.length):zAT b l k=k:=by
 unfold zAT;rw[List.drop_eq_nil_of_le (by omega)];simp[zDb]
theorem zC9 (l:List UInt8) (k:Nat) (hk:k<l.length) (h:isB l[k]=true):zAT false l k=zAT false l (k+1):=by
 unfold zAT
 have h37:((l[k].toNat:Int)==37)=false:=by
  simp only[isB,Bool.or_eq_true,beq_iff_eq] at h
  simp only[beq_eq_false_iff_ne];omega
 rw[List.drop_eq_getElem_cons hk]
 simp only[zDb,h37,h,Bool.false_or,Bool.false_eq_true,if_false,if_true];omega
theorem zIM (b:Bool) (l:List UInt8) (k:Nat) (hk:k<l.length) (h:(b || (l[k].toNat:Int)==37)=true):zAT b l k=zAT (zBN l[k]) l (k+1):=by
 unfold zAT
 rw[List.drop_eq_getElem_cons hk]
 simp only[zDb,h,if_true];omega
theorem zFq (l:List UInt8) (k:Nat) (hk:k<l.length) (h:(l[k].toNat:Int)=37):zAT false l k=zAT false l (zAn zBN l k):=by
 have hn:zBN l[k]=true:=by unfold zBN;rw[h];decide
 rw[zIM false l k hk (by simp[h]),zDq zBN l k hk hn,hn]
 unfold zAT zAn
 rw[zJv,List.drop_drop];omega
theorem zE7 (l:List UInt8) (k:Nat) (hk:k<l.length) (h:isB l[k]=false) (h37:((l[k].toNat:Int)==37)=false):zAT false l k=k:=by
 unfold zAT
 rw[List.drop_eq_getElem_cons hk]
 simp[zDb,h,h37]
def zIN (l:List UInt8):Bool:=(l.take 2==[46,46]) || ((l.take 2==[60,61]) || ((l.take 2==[62,61]) || ((l.take 2==[61,61]) || (l.take 2==[33,61]))))
def zL5 (c:UInt8):Bool:=((c.toNat:Int)==91) || (((c.toNat:Int)==93) || (((c.toNat:Int)==59) || (((c.toNat:Int)==58) || (((c.toNat:Int)==44) || ((c.toNat:Int)==45)))))
def zDc (l:List UInt8):Nat:=if zIN l then 2 else if zL5 (zCi l 0) then 1 else 0
theorem zHG (l:List UInt8) (h:zIN l=true):2≤l.length:=by
 have:(l.take 2).length=2:=by
  simp only[zIN,Bool.or_eq_true,beq_iff_eq] at h
  rcases h with h | h | h | h | h <;> rw[h] <;> rfl
 simp at this;omega
theorem zJC (l:List UInt8) (h:0<l.length):zDc l≤l.length:=by
 unfold zDc
 split
 ·exact zHG l ‹_›
 ·split <;> omega
def zB5 (l:List UInt8) (k:Nat):Nat :=
 if isL (zCi l k) then 1 else if isD (zCi l k) then 2 else if zDc (l.drop k)=0 then 0 else 3
def zB8 (l:List UInt8) (k:Nat):Nat :=
 if isL (zCi l k) then zAn isW l k else if isD (zCi l k) then zAn isD l k else k+zDc (l.drop k)
theorem zCj (l:List UInt8) (k:Nat) (hk:k<l.length):zCi l k=l[k]:=by simp[zCi,hk]
theorem zJD (l:List UInt8) (k:Nat) (hk:k<l.length):k≤zB8 l k∧zB8 l k≤l.length:=by
 unfold zB8
 split
 ·exact zCU _ _ _ (by omega)
 ·split
  ·exact zCU _ _ _ (by omega)
  ·have:=zJC (l.drop k) (by simp;omega);simp at this;omega
theorem zL6 (l:List UInt8) (k:Nat) (hk:k<l.length) (h:zB5 l k≠0):k<zB8 l k:=by
 unfold zB5 at h;unfold zB8
 rw[zCj l k hk] at *
 split
 ·refine zGc _ _ _ hk ?_;rename_i h1;simp[isW,h1]
 ·split
  ·exact zGc _ _ _ hk ‹_›
  ·rename_i h1 h2;simp[h1,h2] at h;omega
def zAt (s:ByteArray) (k:Nat):Tok :=
 if zB5 s.data.toList k=0 then ⟨0,0,ByteArray.empty⟩ else ⟨zB5 s.data.toList k,k,s.extract k (zB8 s.data.toList k)⟩
def zCk (kind:Int) (t:ByteArray):Int :=
 if kind=1 then (if 12<t.size then 2 else 0) else if kind=2 then (if 4<t.size then 2 else if 1<t.size∧((zCi t.data.toList 0).toNat:Int)=48 then 1 else 0) else if kind=3 then 0 else 1
def zDd:Nat→ByteArray→Nat→List Tok→List Tok×Nat×Int
 | 0,_,_,acc=>(acc,0,0)
 | f+1,s,k,acc =>
   if zAT false s.data.toList k<s.size then
    if zCk (zAt s (zAT false s.data.toList k)).kind (zAt s (zAT false s.data.toList k)).text=0 then
     zDd f s (zB8 s.data.toList (zAT false s.data.toList k)) (acc++[zAt s (zAT false s.data.toList k)])
    else ([],zAT false s.data.toList k,zCk (zAt s (zAT false s.data.toList k)).kind (zAt s (zAT false s.data.toList k)).text)
   else (acc,0,0)
def zA9 (s:ByteArray):List Tok×Nat×Int:=if 4000<s.size then ([],0,2) else zDd (s.size+1) s 0 []
theorem zDr (f:Nat) (s:ByteArray) (k:Nat) (acc:List Tok) (h:¬zAT false s.data.toList k<s.size):zDd f s k acc=(acc,0,0):=by
 cases f with
 | zero=>rfl
 | succ f=>rw[zDd,if_neg h]
theorem zE8 (f:Nat) (s:ByteArray) (k j:Nat) (acc:List Tok) (hj:zAT false s.data.toList k=j) (h:j<s.size) (he:zCk (zAt s j).kind (zAt s j).text≠0) :
 zDd (f+1) s k acc=([],j,zCk (zAt s j).kind (zAt s j).text):=by
 rw[zDd,hj,if_pos h,if_neg he]
theorem zDM (f:Nat) (s:ByteArray) (k j:Nat) (acc:List Tok) (hj:zAT false s.data.toList k=j) (h:j<s.size) (he:zCk (zAt s j).kind (zAt s j).text=0) :
 zDd (f+1) s k acc=zDd f s (zB8 s.data.toList j) (acc++[zAt s j]):=by
 rw[zDd,hj,if_pos h,if_pos he]
theorem zF3 (s:ByteArray) (j:Nat) (he:zCk (zAt s j).kind (zAt s j).text=0):zB5 s.data.toList j≠0:=by
 intro h
 unfold zAt at he
 rw[if_pos h] at he
 simp[zCk] at he
theorem zCV (s:ByteArray) (a b:Nat) (h:b≤s.size):(s.extract a b).size=b - a:=by
 simp[ByteArray.size_extract];omega
open Go.RowKit
theorem zAI {k:IntKind} {a b:Int} (h:a=b):Ending.returned (.int k a)=.returned (.int k b):=by rw[h]
theorem zAB {a b:Bool} (h:a=b):Ending.returned (.bool a)=.returned (.bool b):=by rw[h]
theorem zCt (s:ByteArray) (k:Nat) (_h:k<s.size) (h':k<s.data.toList.length):s.data.toList[k]=s[k]:=by rw[Array.getElem_toList];rfl
set_option maxHeartbeats 400000 in
theorem zNA (c:UInt8) (w:World) :
 Calls Tryz.prog 215 #[.int .u8 c.toNat] w fun e w'=>e=.returned (.bool (zBN c))∧w'=w:=by
 unfold zBN
 go_enter Tryz.func215,Tryz.ntmps215
 go_wp2
 go_ret
 exact⟨rfl,rfl⟩
set_option maxHeartbeats 400000 in
theorem zCl (c:UInt8) (w:World) :
 Calls Tryz.prog 216 #[.int .u8 c.toNat] w fun e w'=>e=.returned (.bool (isL c))∧w'=w:=by
 unfold isL
 go_enter Tryz.func216,Tryz.ntmps216
 go_wp2
 ·go_ret;exact⟨by simp[*],rfl⟩
 ·go_ret;refine⟨by rw[decide_eq_false (by omega)];rfl,rfl⟩
set_option maxHeartbeats 400000 in
theorem zCm (c:UInt8) (w:World) :
 Calls Tryz.prog 218 #[.int .u8 c.toNat] w fun e w'=>e=.returned (.bool (isD c))∧w'=w:=by
 unfold isD
 go_enter Tryz.func218,Tryz.ntmps218
 go_wp2
 ·go_ret;exact⟨by simp[*],rfl⟩
 ·go_ret;refine⟨by rw[decide_eq_false (by omega)];rfl,rfl⟩
set_option maxHeartbeats 400000 in
theorem zJE (c:UInt8) (w:World) :
 Calls Tryz.prog 217 #[.int .u8 c.toNat] w fun e w'=>e=.returned (.bool (isW c))∧w'=w:=by
 unfold isW
 cases h:isL c
 all_goals
  go_enter Tryz.func217,Tryz.ntmps217
  go_wp2_with (first | (go_at_call 216;refine (zCl _ _).mono ?_;rintro e w' ⟨rfl,rfl⟩;rw[h]) | (go_at_call 218;refine (zCm _ _).mono ?_;rintro e w' ⟨rfl,rfl⟩))
  go_ret;exact⟨by simp,rfl⟩
set_option maxHeartbeats 400000 in
theorem zNv (s:ByteArray) (k:Nat) (hk:k≤s.size) (hs:s.size≤maxLen) (w:World) :
 Calls Tryz.prog 214 #[.string s,.int .i64 k,.func (.func 215) #[] #[]] w fun e w'=>e=.returned (.int .i64 (zAn zBN s.data.toList k))∧w'=w:=by
 unfold maxLen at hs
 go_enter Tryz.func214,Tryz.ntmps214
 go_wp2
 go_loop [1] (fun i=>∃m:Nat,m≤s.size∧i=.int .i64 m∧Hid (zAn zBN s.data.toList m=zAn zBN s.data.toList k)) (fun i=>s.size - (intOf i).toNat)
 case atStart=>exact⟨k,hk,rfl,rfl⟩
 case round =>
  obtain⟨m,hm,rfl,hr⟩:=hrel
  by_cases hlt:m<s.size
  ·have hl:m<s.data.toList.length:=by simpa using hlt
   have hget:=zCt s m hlt hl
   cases hp:zBN s[m]
   ·have HE:Hid (zAn zBN s.data.toList m=m):=zCE zBN _ m (fun h=>by rw[hget];exact hp)
    have HP:Hid (zBN s[m]=false):=hp
    clear hp hget
    go_wp2_with fail
    refine (zNA _ _).mono ?_
    rintro e w' ⟨rfl,rfl⟩
    rw[HP.out]
    go_wp2
    go_ret
    exact⟨zAI (by rw[←hr.out,HE.out]),rfl⟩
   ·have HE:Hid (zAn zBN s.data.toList m=zAn zBN s.data.toList (m+1)):=zDq zBN _ m hl (by rw[hget];exact hp)
    have HP:Hid (zBN s[m]=true):=hp
    clear hp hget
    go_wp2_with fail
    refine (zNA _ _).mono ?_
    rintro e w' ⟨rfl,rfl⟩
    rw[HP.out]
    go_wp2
    go_round
    case rel=>exact⟨m+1,by omega,by go_num,HE.out▸hr.out⟩
    case measure=>simp[intOf];omega
  ·have HE:Hid (zAn zBN s.data.toList m=m):=zCE zBN _ m (fun h=>by simp at h;omega)
   go_wp2
   go_ret
   exact⟨zAI (by rw[←hr.out,HE.out]),rfl⟩
set_option maxHeartbeats 400000 in
theorem zL7 (s:ByteArray) (k:Nat) (hk:k≤s.size) (hs:s.size≤maxLen) (w:World) :
 Calls Tryz.prog 214 #[.string s,.int .i64 k,.func (.func 217) #[] #[]] w fun e w'=>e=.returned (.int .i64 (zAn isW s.data.toList k))∧w'=w:=by
 unfold maxLen at hs
 go_enter Tryz.func214,Tryz.ntmps214
 go_wp2
 go_loop [1] (fun i=>∃m:Nat,m≤s.size∧i=.int .i64 m∧Hid (zAn isW s.data.toList m=zAn isW s.data.toList k)) (fun i=>s.size - (intOf i).toNat)
 case atStart=>exact⟨k,hk,rfl,rfl⟩
 case round =>
  obtain⟨m,hm,rfl,hr⟩:=hrel
  by_cases hlt:m<s.size
  ·have hl:m<s.data.toList.length:=by simpa using hlt
   have hget:=zCt s m hlt hl
   cases hp:isW s[m]
   ·have HE:Hid (zAn isW s.data.toList m=m):=zCE isW _ m (fun h=>by rw[hget];exact hp)
    have HP:Hid (isW s[m]=false):=hp
    clear hp hget
    go_wp2_with fail
    refine (zJE _ _).mono ?_
    rintro e w' ⟨rfl,rfl⟩
    rw[HP.out]
    go_wp2
    go_ret
    exact⟨zAI (by rw[←hr.out,HE.out]),rfl⟩
   ·have HE:Hid (zAn isW s.data.toList m=zAn isW s.data.toList (m+1)):=zDq isW _ m hl (by rw[hget];exact hp)
    have HP:Hid (isW s[m]=true):=hp
    clear hp hget
    go_wp2_with fail
    refine (zJE _ _).mono ?_
    rintro e w' ⟨rfl,rfl⟩
    rw[HP.out]
    go_wp2
    go_round
    case rel=>exact⟨m+1,by omega,by go_num,HE.out▸hr.out⟩
    case measure=>simp[intOf];omega
  ·have HE:Hid (zAn isW s.data.toList m=m):=zCE isW _ m (fun h=>by simp at h;omega)
   go_wp2
   go_ret
   exact⟨zAI (by rw[←hr.out,HE.out]),rfl⟩
set_option maxHeartbeats 400000 in
theorem zKp (s:ByteArray) (k:Nat) (hk:k≤s.size) (hs:s.size≤maxLen) (w:World) :
 Calls Tryz.prog 214 #[.string s,.int .i64 k,.func (.func 218) #[] #[]] w fun e w'=>e=.returned (.int .i64 (zAn isD s.data.toList k))∧w'=w:=by
 unfold maxLen at hs
 go_enter Tryz.func214,Tryz.ntmps214
 go_wp2
 go_loop [1] (fun i=>∃m:Nat,m≤s.size∧i=.int .i64 m∧Hid (zAn isD s.data.toList m=zAn isD s.data.toList k)) (fun i=>s.size - (intOf i).toNat)
 case atStart=>exact⟨k,hk,rfl,rfl⟩
 case round =>
  obtain⟨m,hm,rfl,hr⟩:=hrel
  by_cases hlt:m<s.size
  ·have hl:m<s.data.toList.length:=by simpa using hlt
   have hget:=zCt s m hlt hl
   cases hp:isD s[m]
   ·have HE:Hid (zAn isD s.data.toList m=m):=zCE isD _ m (fun h=>by rw[hget];exact hp)
    have HP:Hid (isD s[m]=false):=hp
    clear hp hget
    go_wp2_with fail
    refine (zCm _ _).mono ?_
    rintro e w' ⟨rfl,rfl⟩
    rw[HP.out]
    go_wp2
    go_ret
    exact⟨zAI (by rw[←hr.out,HE.out]),rfl⟩
   ·have HE:Hid (zAn isD s.data.toList m=zAn isD s.data.toList (m+1)):=zDq isD _ m hl (by rw[hget];exact hp)
    have HP:Hid (isD s[m]=true):=hp
    clear hp hget
    go_wp2_with fail
    refine (zCm _ _).mono ?_
    rintro e w' ⟨rfl,rfl⟩
    rw[HP.out]
    go_wp2
    go_round
    case rel=>exact⟨m+1,by omega,by go_num,HE.out▸hr.out⟩
    case measure=>simp[intOf];omega
  ·have HE:Hid (zAn isD s.data.toList m=m):=zCE isD _ m (fun h=>by simp at h;omega)
   go_wp2
   go_ret
   exact⟨zAI (by rw[←hr.out,HE.out]),rfl⟩
set_option maxHeartbeats 400000 in
theorem zJF (t:ByteArray) (ht:0<t.size) (hs:t.size≤maxLen) (w:World) :
 Calls Tryz.prog 219 #[.string t] w fun e w'=>e=.returned (.int .i64 (zDc t.data.toList))∧w'=w:=by
 unfold maxLen at hs
 have he:(t.extract 0 2).toList=t.data.toList.take 2:=by rw[ByteArray.toList_eq];simp
 have hb:zCi t.data.toList 0=t[0]:=by rw[zCj _ _ (by simpa using ht)];exact zCt t 0 ht _
 by_cases h2:2≤t.size
 ·go_enter Tryz.func219,Tryz.ntmps219
  go_wp2
  all_goals (go_ret;refine⟨zAI ?_,rfl⟩;simp_all[zDc,zIN,zL5])
 ·have hn:zIN t.data.toList=false:=by
   cases h:zIN t.data.toList
   ·rfl
   ·have:=zHG _ h;simp at this;omega
  go_enter Tryz.func219,Tryz.ntmps219
  go_wp2
  all_goals (go_ret;refine⟨zAI ?_,rfl⟩;simp_all[zDc,zL5])
set_option maxHeartbeats 800000 in
theorem zJG (s:ByteArray) (k:Nat) (hk:k≤s.size) (hs:s.size≤maxLen) (w:World) :
 Calls Tryz.prog 134 #[.string s,.int .i64 k] w fun e w'=>e=.returned (.int .i64 (zAT false s.data.toList k))∧w'=w:=by
 have HS:Hid (s.size≤maxLen):=hs
 unfold maxLen at hs
 go_enter Tryz.func134,Tryz.ntmps134
 go_wp2
 go_loop [1] (fun i=>∃m:Nat,m≤s.size∧i=.int .i64 m∧Hid (zAT false s.data.toList m=zAT false s.data.toList k)) (fun i=>s.size - (intOf i).toNat)
 case atStart=>exact⟨k,hk,rfl,rfl⟩
 case round =>
  obtain⟨m,hm,rfl,hr⟩:=hrel
  by_cases hlt:m<s.size
  ·have hl:m<s.data.toList.length:=by simpa using hlt
   have hget:=zCt s m hlt hl
   cases h1:((s[m].toNat:Int)==32)
   ·cases h2:((s[m].toNat:Int)==9)
    ·cases h3:((s[m].toNat:Int)==10)
     ·cases h4:((s[m].toNat:Int)==37)
      ·have HE:Hid (zAT false s.data.toList m=m):=zE7 _ m hl (by rw[hget];unfold isB;rw[h1,h2,h3];rfl) (by rw[hget];exact h4)
       clear hget
       go_wp2
       go_ret
       exact⟨zAI (by rw[←hr.out,HE.out]),rfl⟩
      ·have HE:Hid (zAT false s.data.toList m=zAT false s.data.toList (zAn zBN s.data.toList m)):=zFq _ m hl (by rw[hget];simpa using h4)
       have hg:m<zAn zBN s.data.toList m:=zGc _ _ _ hl (by rw[hget];unfold zBN;rw[bne,h3];rfl)
       have hle:zAn zBN s.data.toList m≤s.size:=by simpa using (zCU zBN _ _ (Nat.le_of_lt hl)).2
       clear hget
       go_wp2_with fail
       refine (zNv s m hm HS.out _).mono ?_
       rintro e w' ⟨rfl,rfl⟩
       go_wp2
       go_round
       case rel=>exact⟨_,hle,rfl,HE.out▸hr.out⟩
       case measure=>simp[intOf];omega
     ·have HE:Hid (zAT false s.data.toList m=zAT false s.data.toList (m+1)):=zC9 _ m hl (by rw[hget];unfold isB;rw[h3];simp)
      clear hget
      go_wp2
      go_round
      case rel=>exact⟨m+1,by omega,by go_num,HE.out▸hr.out⟩
      case measure=>simp[intOf];omega
    ·have HE:Hid (zAT false s.data.toList m=zAT false s.data.toList (m+1)):=zC9 _ m hl (by rw[hget];unfold isB;rw[h2];simp)
     clear hget
     go_wp2
     go_round
     case rel=>exact⟨m+1,by omega,by go_num,HE.out▸hr.out⟩
     case measure=>simp[intOf];omega
   ·have HE:Hid (zAT false s.data.toList m=zAT false s.data.toList (m+1)):=zC9 _ m hl (by rw[hget];unfold isB;rw[h1];simp)
    clear hget
    go_wp2
    go_round
    case rel=>exact⟨m+1,by omega,by go_num,HE.out▸hr.out⟩
    case measure=>simp[intOf];omega
  ·have HE:Hid (zAT false s.data.toList m=m):=zF2 _ _ m (by simpa using hlt)
   go_wp2
   go_ret
   exact⟨zAI (by rw[←hr.out,HE.out]),rfl⟩
set_option maxHeartbeats 400000 in
theorem zHH (kd a:Int) (t:ByteArray) (hs:t.size≤maxLen) (w:World) :
 Calls Tryz.prog 136 #[.agg #[.int .i64 kd,.int .i64 a,.string t]] w fun e w'=>e=.returned (.int .i64 (zCk kd t))∧Below w.heap.size w w':=by
 unfold maxLen at hs
 by_cases h0:0<t.size
 ·have hb:zCi t.data.toList 0=t[0]:=by rw[zCj _ _ (by simpa using h0)];exact zCt t 0 h0 _
  go_enter Tryz.func136,Tryz.ntmps136
  go_wp2
  all_goals
   go_ret
   refine⟨zAI ?_,(Below.refl _ _).alloc (Nat.le_refl _) _⟩
   simp only[beq_iff_eq,beq_eq_false_iff_ne] at *
   unfold zCk
   repeat' split
   all_goals first | rfl | omega | (rw[hb] at *;omega)
 ·go_enter Tryz.func136,Tryz.ntmps136
  go_wp2
  all_goals
   go_ret
   refine⟨zAI ?_,(Below.refl _ _).alloc (Nat.le_refl _) _⟩
   simp only[beq_iff_eq,beq_eq_false_iff_ne] at *
   unfold zCk
   repeat' split
   all_goals first | rfl | omega
theorem zHI (s:ByteArray) (k:Nat):(s.extract k s.size).data.toList=s.data.toList.drop k:=by
 rw[ByteArray.data_extract,Array.toList_extract]
 simp only[List.extract_eq_take_drop]
 exact List.take_of_length_le (by simp)
set_option maxHeartbeats 400000 in
theorem zIO (s:ByteArray) (k:Nat) (hk:k<s.size) (hs:s.size≤maxLen) (w:World) (hL:isL s[k]=true) :
 Calls Tryz.prog 135 #[.string s,.int .i64 k] w fun e w'=>e=.returned (.agg #[.int .i64 1,.int .i64 k,.string (s.extract k (zAn isW s.data.toList k))])∧Below w.heap.size w w':=by
 have HS:Hid (s.size≤maxLen):=hs
 unfold maxLen at hs
 have hl:k<s.data.toList.length:=by simpa using hk
 have hle:k≤zAn isW s.data.toList k:=(zCU isW _ _ (Nat.le_of_lt hl)).1
 have hle2:zAn isW s.data.toList k≤s.size:=by simpa using (zCU isW _ _ (Nat.le_of_lt hl)).2
 have HL:Hid (isL s[k]=true):=hL
 clear hL
 go_enter Tryz.func135,Tryz.ntmps135
 go_wp2_with fail
 refine (zCl _ _).mono ?_
 rintro e w' ⟨rfl,rfl⟩
 rw[HL.out]
 go_wp2_with fail
 refine (zL7 s k (by omega) HS.out _).mono ?_
 rintro e w' ⟨rfl,rfl⟩
 go_wp2
 exact bodyPost_ret (v:=.agg #[.int .i64 1,.int .i64 k,.string (s.extract k (zAn isW s.data.toList k))]) (by simp[results,Tryz.results135,go_sem]) rfl ⟨rfl,(Below.refl _ _).alloc (Nat.le_refl _) _⟩
set_option maxHeartbeats 400000 in
theorem zJw (s:ByteArray) (k:Nat) (hk:k<s.size) (hs:s.size≤maxLen) (w:World) (hL:isL s[k]=false) (hD:isD s[k]=true) :
 Calls Tryz.prog 135 #[.string s,.int .i64 k] w fun e w'=>e=.returned (.agg #[.int .i64 2,.int .i64 k,.string (s.extract k (zAn isD s.data.toList k))])∧Below w.heap.size w w':=by
 have HS:Hid (s.size≤maxLen):=hs
 unfold maxLen at hs
 have hl:k<s.data.toList.length:=by simpa using hk
 have hle:k≤zAn isD s.data.toList k:=(zCU isD _ _ (Nat.le_of_lt hl)).1
 have hle2:zAn isD s.data.toList k≤s.size:=by simpa using (zCU isD _ _ (Nat.le_of_lt hl)).2
 have HL:Hid (isL s[k]=false):=hL
 have HD:Hid (isD s[k]=true):=hD
 clear hL hD
 go_enter Tryz.func135,Tryz.ntmps135
 go_wp2_with fail
 refine (zCl _ _).mono ?_
 rintro e w' ⟨rfl,rfl⟩
 rw[HL.out]
 go_wp2_with fail
 refine (zCm _ _).mono ?_
 rintro e w' ⟨rfl,rfl⟩
 rw[HD.out]
 go_wp2_with fail
 refine (zKp s k (by omega) HS.out _).mono ?_
 rintro e w' ⟨rfl,rfl⟩
 go_wp2
 exact bodyPost_ret (v:=.agg #[.int .i64 2,.int .i64 k,.string (s.extract k (zAn isD s.data.toList k))]) (by simp[results,Tryz.results135,go_sem]) rfl ⟨rfl,(Below.refl _ _).alloc (Nat.le_refl _) _⟩
set_option maxHeartbeats 400000 in
theorem zKq (s:ByteArray) (k g:Nat) (hk:k<s.size) (hs:s.size≤maxLen) (w:World) (hL:isL s[k]=false) (hD:isD s[k]=false)
 (hg:zDc (s.data.toList.drop k)=g) (h0:0<g) :
 Calls Tryz.prog 135 #[.string s,.int .i64 k] w fun e w'=>e=.returned (.agg #[.int .i64 3,.int .i64 k,.string (s.extract k (k+g))])∧Below w.heap.size w w':=by
 have hsz:(s.extract k s.size).size=s.size - k:=zCV _ _ _ (Nat.le_refl _)
 have HZ:Hid (0<(s.extract k s.size).size∧(s.extract k s.size).size≤maxLen):=⟨by omega,by omega⟩
 unfold maxLen at hs
 have hle:k+g≤s.size:=by have:=zJC (s.data.toList.drop k) (by simp;omega);simp at this;omega
 have HL:Hid (isL s[k]=false):=hL
 have HD:Hid (isD s[k]=false):=hD
 have HG:Hid (zDc (s.extract k s.size).data.toList=g):=by rw[zHI];exact hg
 clear hL hD hg hsz
 go_enter Tryz.func135,Tryz.ntmps135
 go_wp2_with fail
 refine (zCl _ _).mono ?_
 rintro e w' ⟨rfl,rfl⟩
 rw[HL.out]
 go_wp2_with fail
 refine (zCm _ _).mono ?_
 rintro e w' ⟨rfl,rfl⟩
 rw[HD.out]
 go_wp2_with fail
 refine (zJF _ HZ.out.1 HZ.out.2 _).mono ?_
 rintro e w' ⟨rfl,rfl⟩
 rw[HG.out]
 go_wp2
 exact bodyPost_ret (v:=.agg #[.int .i64 3,.int .i64 k,.string (s.extract k (k+g))]) (by simp[results,Tryz.results135,go_sem]) rfl ⟨rfl,(Below.refl _ _).alloc (Nat.le_refl _) _⟩
set_option maxHeartbeats 400000 in
theorem zKr (s:ByteArray) (k:Nat) (hk:k<s.size) (hs:s.size≤maxLen) (w:World) (hL:isL s[k]=false) (hD:isD s[k]=false)
 (hg:zDc (s.data.toList.drop k)=0) :
 Calls Tryz.prog 135 #[.string s,.int .i64 k] w fun e w'=>e=.returned (.agg #[.int .i64 0,.int .i64 0,.string ByteArray.empty])∧Below w.heap.size w w':=by
 have hsz:(s.extract k s.size).size=s.size - k:=zCV _ _ _ (Nat.le_refl _)
 have HZ:Hid (0<(s.extract k s.size).size∧(s.extract k s.size).size≤maxLen):=⟨by omega,by omega⟩
 unfold maxLen at hs
 have HL:Hid (isL s[k]=false):=hL
 have HD:Hid (isD s[k]=false):=hD
 have HG:Hid (zDc (s.extract k s.size).data.toList=0):=by rw[zHI];exact hg
 clear hL hD hg hsz
 go_enter Tryz.func135,Tryz.ntmps135
 go_wp2_with fail
 refine (zCl _ _).mono ?_
 rintro e w' ⟨rfl,rfl⟩
 rw[HL.out]
 go_wp2_with fail
 refine (zCm _ _).mono ?_
 rintro e w' ⟨rfl,rfl⟩
 rw[HD.out]
 go_wp2_with fail
 refine (zJF _ HZ.out.1 HZ.out.2 _).mono ?_
 rintro e w' ⟨rfl,rfl⟩
 rw[HG.out]
 go_wp2
 exact bodyPost_ret (v:=.agg #[.int .i64 0,.int .i64 0,.string ByteArray.empty]) (by simp[results,Tryz.results135,go_sem];rfl) rfl ⟨rfl,(Below.refl _ _).alloc (Nat.le_refl _) _⟩
def tokV (t:Tok):Value:=.agg #[.int .i64 t.kind,.int .i64 t.place,.string t.text]
theorem zJH (s:ByteArray) (k:Nat) (hk:k<s.size) (hs:s.size≤maxLen) (w:World) :
 Calls Tryz.prog 135 #[.string s,.int .i64 k] w fun e w'=>e=.returned (tokV (zAt s k))∧Below w.heap.size w w':=by
 have hl:k<s.data.toList.length:=by simpa using hk
 have hb:zCi s.data.toList k=s[k]:=by rw[zCj _ _ hl];exact zCt s k hk _
 cases hL:isL s[k]
 ·cases hD:isD s[k]
  ·by_cases hg:zDc (s.data.toList.drop k)=0
   ·have e1:zAt s k=⟨0,0,ByteArray.empty⟩:=by unfold zAt zB5;rw[hb,hL,hD,hg];rfl
    rw[e1];exact zKr s k hk hs w hL hD hg
   ·have e1:zAt s k=⟨3,k,s.extract k (k+zDc (s.data.toList.drop k))⟩:=by
     unfold zAt zB5 zB8;rw[hb,hL,hD];simp[hg]
    rw[e1];exact zKq s k _ hk hs w hL hD rfl (by omega)
  ·have e1:zAt s k=⟨2,k,s.extract k (zAn isD s.data.toList k)⟩:=by
    unfold zAt zB5 zB8;rw[hb,hL,hD];simp
   rw[e1];exact zJw s k hk hs w hL hD
 ·have e1:zAt s k=⟨1,k,s.extract k (zAn isW s.data.toList k)⟩:=by
   unfold zAt zB5 zB8;rw[hb,hL];simp
  rw[e1];exact zIO s k hk hs w hL
end Go.Proofs.YtndcpnlaadikoaaGreatDoor
