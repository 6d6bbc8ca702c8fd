/- What the proof leans on, part 1. -/
import Derived.Test.YtdjbejlbmaiocagGreatDoorRows
import Derived.WalkKit
import Derived.WalkSpells
import Derived.WalkLawsBesides
set_option maxRecDepth 100000
set_option maxHeartbeats 1000000
namespace Go.Proofs.YtdjbejlbmaiocagGreatDoor
structure Tok where
 kind:Int
 place:Int
 text:ByteArray
def isL (c:UInt8):Bool:=decide (97≤(c.toNat:Int))&&decide ((c.toNat:Int)≤122)
def isD (c:UInt8):Bool:=decide (48≤(c.toNat:Int))&&decide ((c.toNat:Int)≤57)
def isW (c:UInt8):Bool:=isL c || isD c
def zCA (c:UInt8):Bool:=(c.toNat:Int) != 10
def isB (c:UInt8):Bool:=(c.toNat:Int)==32 || ((c.toNat:Int)==9 || (c.toNat:Int)==10)
def zAq (p:UInt8→Bool) (l:List UInt8) (k:Nat):Nat:=k+((l.drop k).takeWhile p).length
def zBh (l:List UInt8) (k:Nat):UInt8:=l.getD k 0
theorem zB0 (p:UInt8→Bool) (l:List UInt8) (k:Nat) (h:∀h:k<l.length,p l[k]=false):zAq p l k=k:=by
 unfold zAq;by_cases hk:k<l.length
 ·rw[List.drop_eq_getElem_cons hk,List.takeWhile_cons,h hk];simp
 ·rw[List.drop_eq_nil_of_le (by omega)];simp
theorem zDV (p:UInt8→Bool) (l:List UInt8) (k:Nat) (hk:k<l.length) (h:p l[k]=true):zAq p l k=zAq p l (k+1):=by
 unfold zAq;rw[List.drop_eq_getElem_cons hk,List.takeWhile_cons,h];simp;omega
theorem zKo (p:UInt8→Bool) (l:List UInt8):(l.takeWhile p).length≤l.length:=by
 induction l with
 | nil=>simp
 | cons a r ih=>rw[List.takeWhile_cons];split <;> simp;omega
theorem zEH (p:UInt8→Bool) (l:List UInt8) (k:Nat) (hk:k≤l.length):k≤zAq p l k∧zAq p l k≤l.length:=by
 unfold zAq;have:=zKo p (l.drop k);simp at this;omega
theorem zKE (p:UInt8→Bool) (l:List UInt8) (k:Nat) (hk:k<l.length) (h:p l[k]=true):k<zAq p l k:=by
 rw[zDV p l k hk h];have:=zEH p l (k+1) (by omega);omega
def zFw:Bool→List UInt8→Nat
 | _,[]=>0
 | note,c :: r=>if note || (c.toNat:Int)==37 then 1+zFw (zCA c) r else if isB c then 1+zFw false r else 0
theorem zRd (b:Bool) (l:List UInt8):zFw b l≤l.length:=by
 induction l generalizing b with
 | nil=>simp[zFw]
 | cons c r ih =>
   unfold zFw
   split
   ·have:=ih (zCA c);simp;omega
   ·split
    ·have:=ih false;simp;omega
    ·simp
theorem zOI (l:List UInt8):zFw true l=(l.takeWhile zCA).length+zFw false (l.drop (l.takeWhile zCA).length):=by
 induction l with
 | nil=>simp[zFw]
 | cons c r ih =>
   rw[List.takeWhile_cons];cases h:zCA c
   ·have h10:(c.toNat:Int)=10:=by simpa[zCA] using h
    simp only[Bool.false_eq_true,if_false,List.length_nil,Nat.zero_add,List.drop_zero];simp[zFw,h,h10,isB]
   ·simp only[if_true,List.length_cons,List.drop_succ_cons]
    simp only[zFw,Bool.true_or,if_true,h];rw[ih];omega
def zAS (b:Bool) (l:List UInt8) (k:Nat):Nat:=k+zFw b (l.drop k)
theorem zHm (b:Bool) (l:List UInt8) (k:Nat) (hk:k≤l.length):k≤zAS b l k∧zAS b l k≤l.length:=by
 unfold zAS;have:=zRd b (l.drop k);simp at this;omega
theorem zGp (b:Bool) (l:List UInt8) (k:Nat) (hk:¬k<l.length):zAS b l k=k:=by
 unfold zAS;rw[List.drop_eq_nil_of_le (by omega)];simp[zFw]
theorem zEI (l:List UInt8) (k:Nat) (hk:k<l.length) (h:isB l[k]=true):zAS false l k=zAS false l (k+1):=by
 unfold zAS;have h37:((l[k].toNat:Int)==37)=false:=by
  simp only[isB,Bool.or_eq_true,beq_iff_eq] at h;simp only[beq_eq_false_iff_ne];omega
 rw[List.drop_eq_getElem_cons hk];simp only[zFw,h37,h,Bool.false_or,Bool.false_eq_true,if_false,if_true];omega
theorem zFx (b:Bool) (l:List UInt8) (k:Nat) (hk:k<l.length) (h:(b || (l[k].toNat:Int)==37)=true):zAS b l k=zAS (zCA l[k]) l (k+1):=by
 unfold zAS;rw[List.drop_eq_getElem_cons hk];simp only[zFw,h,if_true];omega
theorem zI7 (l:List UInt8) (k:Nat) (hk:k<l.length) (h:(l[k].toNat:Int)=37):zAS false l k=zAS false l (zAq zCA l k):=by
 have hn:zCA l[k]=true:=by unfold zCA;rw[h];decide
 rw[zFx false l k hk (by simp[h]),zDV zCA l k hk hn,hn]
 unfold zAS zAq;rw[zOI,List.drop_drop];omega
theorem zFy (l:List UInt8) (k:Nat) (hk:k<l.length) (h:isB l[k]=false) (h37:((l[k].toNat:Int)==37)=false):zAS false l k=k:=by
 unfold zAS;rw[List.drop_eq_getElem_cons hk];simp[zFw,h,h37]
def zHZ (l:List UInt8):Bool:=(l.take 2==[46,46]) || ((l.take 2==[60,61]) || ((l.take 2==[62,61]) || ((l.take 2==[61,61]) || (l.take 2==[33,61]))))
def zE6 (c:UInt8):Bool:=((c.toNat:Int)==91) || (((c.toNat:Int)==93) || (((c.toNat:Int)==59) || (((c.toNat:Int)==58) || (((c.toNat:Int)==44) || ((c.toNat:Int)==45)))))
def zEp (l:List UInt8):Nat:=if zHZ l then 2 else if zE6 (zBh l 0) then 1 else 0
theorem zHn (l:List UInt8) (h:zHZ l=true):2≤l.length:=by
 have:(l.take 2).length=2:=by
  simp only[zHZ,Bool.or_eq_true,beq_iff_eq] at h;rcases h with h | h | h | h | h <;> rw[h] <;> rfl
 simp at this;omega
theorem zNT (l:List UInt8) (h:0<l.length):zEp l≤l.length:=by
 unfold zEp
 split
 ·exact zHn l ‹_›
 ·split <;> omega
def zAo (l:List UInt8) (k:Nat):Nat :=
 if isL (zBh l k) then 1 else if isD (zBh l k) then 2 else if zEp (l.drop k)=0 then 0 else 3
def zA8 (l:List UInt8) (k:Nat):Nat :=
 if isL (zBh l k) then zAq isW l k else if isD (zBh l k) then zAq isD l k else k+zEp (l.drop k)
theorem zCM (l:List UInt8) (k:Nat) (hk:k<l.length):zBh l k=l[k]:=by simp[zBh,hk]
theorem zFb (l:List UInt8) (k:Nat) (hk:k<l.length):k≤zA8 l k∧zA8 l k≤l.length:=by
 unfold zA8
 split
 ·exact zEH _ _ _ (by omega)
 ·split
  ·exact zEH _ _ _ (by omega)
  ·have:=zNT (l.drop k) (by simp;omega);simp at this;omega
theorem zGI (l:List UInt8) (k:Nat) (hk:k<l.length) (h:zAo l k≠0):k<zA8 l k:=by
 unfold zAo at h;unfold zA8;rw[zCM l k hk] at *
 split
 ·refine zKE _ _ _ hk ?_;rename_i h1;simp[isW,h1]
 ·split
  ·exact zKE _ _ _ hk ‹_›
  ·rename_i h1 h2;simp[h1,h2] at h;omega
def zAj (s:ByteArray) (k:Nat):Tok :=
 if zAo s.data.toList k=0 then ⟨0,0,ByteArray.empty⟩ else ⟨zAo s.data.toList k,k,s.extract k (zA8 s.data.toList k)⟩
def zBE (kind:Int) (t:ByteArray):Int :=
 if kind=1 then (if 12<t.size then 2 else 0) else if kind=2 then (if 4<t.size then 2 else if 1<t.size∧((zBh t.data.toList 0).toNat:Int)=48 then 1 else 0) else if kind=3 then 0 else 1
def zDE:Nat→ByteArray→Nat→List Tok→List Tok×Nat×Int
 | 0,_,_,acc=>(acc,0,0)
 | f+1,s,k,acc =>
   if zAS false s.data.toList k<s.size then
    if zBE (zAj s (zAS false s.data.toList k)).kind (zAj s (zAS false s.data.toList k)).text=0 then
     zDE f s (zA8 s.data.toList (zAS false s.data.toList k)) (acc++[zAj s (zAS false s.data.toList k)])
    else ([],zAS false s.data.toList k,zBE (zAj s (zAS false s.data.toList k)).kind (zAj s (zAS false s.data.toList k)).text)
   else (acc,0,0)
def zAO (s:ByteArray):List Tok×Nat×Int:=if 4000<s.size then ([],0,2) else zDE (s.size+1) s 0 []
theorem zDy (f:Nat) (s:ByteArray) (k:Nat) (acc:List Tok) (h:¬zAS false s.data.toList k<s.size):zDE f s k acc=(acc,0,0):=by
 cases f with
 | zero=>rfl
 | succ f=>rw[zDE,if_neg h]
theorem zCz (f:Nat) (s:ByteArray) (k j:Nat) (acc:List Tok) (hj:zAS false s.data.toList k=j) (h:j<s.size) (he:zBE (zAj s j).kind (zAj s j).text≠0) :
 zDE (f+1) s k acc=([],j,zBE (zAj s j).kind (zAj s j).text):=by
 rw[zDE,hj,if_pos h,if_neg he]
theorem zB1 (f:Nat) (s:ByteArray) (k j:Nat) (acc:List Tok) (hj:zAS false s.data.toList k=j) (h:j<s.size) (he:zBE (zAj s j).kind (zAj s j).text=0) :
 zDE (f+1) s k acc=zDE f s (zA8 s.data.toList j) (acc++[zAj s j]):=by
 rw[zDE,hj,if_pos h,if_pos he]
theorem zEX (s:ByteArray) (j:Nat) (he:zBE (zAj s j).kind (zAj s j).text=0):zAo s.data.toList j≠0:=by
 intro h;unfold zAj at he;rw[if_pos h] at he;simp[zBE] at he
theorem zAx (s:ByteArray) (a b:Nat) (h:b≤s.size):(s.extract a b).size=b - a:=by
 simp[ByteArray.size_extract];omega
open Go.RowKit
theorem zAE {k:IntKind} {a b:Int} (h:a=b):Ending.returned (.int k a)=.returned (.int k b):=by rw[h]
theorem zAC {a b:Bool} (h:a=b):Ending.returned (.bool a)=.returned (.bool b):=by rw[h]
theorem zBT (s:ByteArray) (k:Nat) (_h:k<s.size) (h':k<s.data.toList.length):s.data.toList[k]=s[k]:=by rw[Array.getElem_toList];rfl
theorem zS5 (c:UInt8) (w:World) :
 Calls Tryz.prog 170 #[.int .u8 c.toNat] w fun e w'=>e=.returned (.bool (zCA c))∧w'=w:=by
 unfold zCA;go_enter Tryz.func170,Tryz.ntmps170
 go_wp2
 go_ret
 exact⟨rfl,rfl⟩
theorem zEY (c:UInt8) (w:World) :
 Calls Tryz.prog 171 #[.int .u8 c.toNat] w fun e w'=>e=.returned (.bool (isL c))∧w'=w:=by
 unfold isL;go_enter Tryz.func171,Tryz.ntmps171
 go_wp2
 ·go_ret;exact⟨by simp[*],rfl⟩
 ·go_ret;refine⟨by rw[decide_eq_false (by omega)];rfl,rfl⟩
theorem zEZ (c:UInt8) (w:World) :
 Calls Tryz.prog 173 #[.int .u8 c.toNat] w fun e w'=>e=.returned (.bool (isD c))∧w'=w:=by
 unfold isD;go_enter Tryz.func173,Tryz.ntmps173
 go_wp2
 ·go_ret;exact⟨by simp[*],rfl⟩
 ·go_ret;refine⟨by rw[decide_eq_false (by omega)];rfl,rfl⟩
theorem zNU (c:UInt8) (w:World) :
 Calls Tryz.prog 172 #[.int .u8 c.toNat] w fun e w'=>e=.returned (.bool (isW c))∧w'=w:=by
 unfold isW;cases h:isL c
 all_goals
  go_enter Tryz.func172,Tryz.ntmps172
  go_wp2_with (first | (go_at_call 171;refine (zEY _ _).mono ?_;rintro e w' ⟨rfl,rfl⟩;rw[h]) | (go_at_call 173;refine (zEZ _ _).mono ?_;rintro e w' ⟨rfl,rfl⟩))
  go_ret;exact⟨by simp,rfl⟩
theorem zT2 (s:ByteArray) (k:Nat) (hk:k≤s.size) (hs:s.size≤maxLen) (w:World) :
 Calls Tryz.prog 169 #[.string s,.int .i64 k,.func (.func 170) #[] #[]] w fun e w'=>e=.returned (.int .i64 (zAq zCA s.data.toList k))∧w'=w:=by
 unfold maxLen at hs;go_enter Tryz.func169,Tryz.ntmps169
 go_wp2
 go_loop [1] (fun i=>∃m:Nat,m≤s.size∧i=.int .i64 m∧Hid (zAq zCA s.data.toList m=zAq zCA s.data.toList k)) (fun i=>s.size - (intOf i).toNat)
 case atStart=>exact⟨k,hk,rfl,rfl⟩
 case round =>
  obtain⟨m,hm,rfl,hr⟩:=hrel;by_cases hlt:m<s.size
  ·have hl:m<s.data.toList.length:=by simpa using hlt
   have hget:=zBT s m hlt hl;cases hp:zCA s[m]
   ·have HE:Hid (zAq zCA s.data.toList m=m):=zB0 zCA _ m (fun h=>by rw[hget];exact hp)
    have HP:Hid (zCA s[m]=false):=hp;clear hp hget;go_wp2_with fail
    refine (zS5 _ _).mono ?_;rintro e w' ⟨rfl,rfl⟩;rw[HP.out];go_wp2
    go_ret
    exact⟨zAE (by rw[←hr.out,HE.out]),rfl⟩
   ·have HE:Hid (zAq zCA s.data.toList m=zAq zCA s.data.toList (m+1)):=zDV zCA _ m hl (by rw[hget];exact hp)
    have HP:Hid (zCA s[m]=true):=hp;clear hp hget;go_wp2_with fail
    refine (zS5 _ _).mono ?_;rintro e w' ⟨rfl,rfl⟩;rw[HP.out];go_wp2
    go_round
    case rel=>exact⟨m+1,by omega,by go_num,HE.out▸hr.out⟩
    case measure=>simp[intOf];omega
  ·have HE:Hid (zAq zCA s.data.toList m=m):=zB0 zCA _ m (fun h=>by simp at h;omega)
   go_wp2
   go_ret
   exact⟨zAE (by rw[←hr.out,HE.out]),rfl⟩
theorem zRe (s:ByteArray) (k:Nat) (hk:k≤s.size) (hs:s.size≤maxLen) (w:World) :
 Calls Tryz.prog 169 #[.string s,.int .i64 k,.func (.func 172) #[] #[]] w fun e w'=>e=.returned (.int .i64 (zAq isW s.data.toList k))∧w'=w:=by
 unfold maxLen at hs;go_enter Tryz.func169,Tryz.ntmps169
 go_wp2
 go_loop [1] (fun i=>∃m:Nat,m≤s.size∧i=.int .i64 m∧Hid (zAq isW s.data.toList m=zAq isW s.data.toList k)) (fun i=>s.size - (intOf i).toNat)
 case atStart=>exact⟨k,hk,rfl,rfl⟩
 case round =>
  obtain⟨m,hm,rfl,hr⟩:=hrel;by_cases hlt:m<s.size
  ·have hl:m<s.data.toList.length:=by simpa using hlt
   have hget:=zBT s m hlt hl;cases hp:isW s[m]
   ·have HE:Hid (zAq isW s.data.toList m=m):=zB0 isW _ m (fun h=>by rw[hget];exact hp)
    have HP:Hid (isW s[m]=false):=hp;clear hp hget;go_wp2_with fail
    refine (zNU _ _).mono ?_;rintro e w' ⟨rfl,rfl⟩;rw[HP.out];go_wp2
    go_ret
    exact⟨zAE (by rw[←hr.out,HE.out]),rfl⟩
   ·have HE:Hid (zAq isW s.data.toList m=zAq isW s.data.toList (m+1)):=zDV isW _ m hl (by rw[hget];exact hp)
    have HP:Hid (isW s[m]=true):=hp;clear hp hget;go_wp2_with fail
    refine (zNU _ _).mono ?_;rintro e w' ⟨rfl,rfl⟩;rw[HP.out];go_wp2
    go_round
    case rel=>exact⟨m+1,by omega,by go_num,HE.out▸hr.out⟩
    case measure=>simp[intOf];omega
  ·have HE:Hid (zAq isW s.data.toList m=m):=zB0 isW _ m (fun h=>by simp at h;omega)
   go_wp2
   go_ret
   exact⟨zAE (by rw[←hr.out,HE.out]),rfl⟩
theorem zPU (s:ByteArray) (k:Nat) (hk:k≤s.size) (hs:s.size≤maxLen) (w:World) :
 Calls Tryz.prog 169 #[.string s,.int .i64 k,.func (.func 173) #[] #[]] w fun e w'=>e=.returned (.int .i64 (zAq isD s.data.toList k))∧w'=w:=by
 unfold maxLen at hs;go_enter Tryz.func169,Tryz.ntmps169
 go_wp2
 go_loop [1] (fun i=>∃m:Nat,m≤s.size∧i=.int .i64 m∧Hid (zAq isD s.data.toList m=zAq isD s.data.toList k)) (fun i=>s.size - (intOf i).toNat)
 case atStart=>exact⟨k,hk,rfl,rfl⟩
 case round =>
  obtain⟨m,hm,rfl,hr⟩:=hrel;by_cases hlt:m<s.size
  ·have hl:m<s.data.toList.length:=by simpa using hlt
   have hget:=zBT s m hlt hl;cases hp:isD s[m]
   ·have HE:Hid (zAq isD s.data.toList m=m):=zB0 isD _ m (fun h=>by rw[hget];exact hp)
    have HP:Hid (isD s[m]=false):=hp;clear hp hget;go_wp2_with fail
    refine (zEZ _ _).mono ?_;rintro e w' ⟨rfl,rfl⟩;rw[HP.out];go_wp2
    go_ret
    exact⟨zAE (by rw[←hr.out,HE.out]),rfl⟩
   ·have HE:Hid (zAq isD s.data.toList m=zAq isD s.data.toList (m+1)):=zDV isD _ m hl (by rw[hget];exact hp)
    have HP:Hid (isD s[m]=true):=hp;clear hp hget;go_wp2_with fail
    refine (zEZ _ _).mono ?_;rintro e w' ⟨rfl,rfl⟩;rw[HP.out];go_wp2
    go_round
    case rel=>exact⟨m+1,by omega,by go_num,HE.out▸hr.out⟩
    case measure=>simp[intOf];omega
  ·have HE:Hid (zAq isD s.data.toList m=m):=zB0 isD _ m (fun h=>by simp at h;omega)
   go_wp2
   go_ret
   exact⟨zAE (by rw[←hr.out,HE.out]),rfl⟩
theorem zNV (t:ByteArray) (ht:0<t.size) (hs:t.size≤maxLen) (w:World) :
 Calls Tryz.prog 174 #[.string t] w fun e w'=>e=.returned (.int .i64 (zEp t.data.toList))∧w'=w:=by
 unfold maxLen at hs;have he:(t.extract 0 2).toList=t.data.toList.take 2:=by rw[ByteArray.toList_eq];simp
 have hb:zBh t.data.toList 0=t[0]:=by rw[zCM _ _ (by simpa using ht)];exact zBT t 0 ht _
 by_cases h2:2≤t.size
 ·go_enter Tryz.func174,Tryz.ntmps174
  go_wp2
  all_goals (go_ret;refine⟨zAE ?_,rfl⟩;simp_all[zEp,zHZ,zE6])
 ·have hn:zHZ t.data.toList=false:=by
   cases h:zHZ t.data.toList
   ·rfl
   ·have:=zHn _ h;simp at this;omega
  go_enter Tryz.func174,Tryz.ntmps174
  go_wp2
  all_goals (go_ret;refine⟨zAE ?_,rfl⟩;simp_all[zEp,zE6])
theorem zNW (s:ByteArray) (k:Nat) (hk:k≤s.size) (hs:s.size≤maxLen) (w:World) :
 Calls Tryz.prog 120 #[.string s,.int .i64 k] w fun e w'=>e=.returned (.int .i64 (zAS false s.data.toList k))∧w'=w:=by
 have HS:Hid (s.size≤maxLen):=hs;unfold maxLen at hs;go_enter Tryz.func120,Tryz.ntmps120
 go_wp2
 go_loop [1] (fun i=>∃m:Nat,m≤s.size∧i=.int .i64 m∧Hid (zAS false s.data.toList m=zAS false s.data.toList k)) (fun i=>s.size - (intOf i).toNat)
 case atStart=>exact⟨k,hk,rfl,rfl⟩
 case round =>
  obtain⟨m,hm,rfl,hr⟩:=hrel;by_cases hlt:m<s.size
  ·have hl:m<s.data.toList.length:=by simpa using hlt
   have hget:=zBT s m hlt hl;cases h1:((s[m].toNat:Int)==32)
   ·cases h2:((s[m].toNat:Int)==9)
    ·cases h3:((s[m].toNat:Int)==10)
     ·cases h4:((s[m].toNat:Int)==37)
      ·have HE:Hid (zAS false s.data.toList m=m):=zFy _ m hl (by rw[hget];unfold isB;rw[h1,h2,h3];rfl) (by rw[hget];exact h4)
       clear hget;go_wp2
       go_ret
       exact⟨zAE (by rw[←hr.out,HE.out]),rfl⟩
      ·have HE:Hid (zAS false s.data.toList m=zAS false s.data.toList (zAq zCA s.data.toList m)):=zI7 _ m hl (by rw[hget];simpa using h4)
       have hg:m<zAq zCA s.data.toList m:=zKE _ _ _ hl (by rw[hget];unfold zCA;rw[bne,h3];rfl)
       have hle:zAq zCA s.data.toList m≤s.size:=by simpa using (zEH zCA _ _ (Nat.le_of_lt hl)).2
       clear hget;go_wp2_with fail
       refine (zT2 s m hm HS.out _).mono ?_;rintro e w' ⟨rfl,rfl⟩;go_wp2
       go_round
       case rel=>exact⟨_,hle,rfl,HE.out▸hr.out⟩
       case measure=>simp[intOf];omega
     ·have HE:Hid (zAS false s.data.toList m=zAS false s.data.toList (m+1)):=zEI _ m hl (by rw[hget];unfold isB;rw[h3];simp)
      clear hget;go_wp2
      go_round
      case rel=>exact⟨m+1,by omega,by go_num,HE.out▸hr.out⟩
      case measure=>simp[intOf];omega
    ·have HE:Hid (zAS false s.data.toList m=zAS false s.data.toList (m+1)):=zEI _ m hl (by rw[hget];unfold isB;rw[h2];simp)
     clear hget;go_wp2
     go_round
     case rel=>exact⟨m+1,by omega,by go_num,HE.out▸hr.out⟩
     case measure=>simp[intOf];omega
   ·have HE:Hid (zAS false s.data.toList m=zAS false s.data.toList (m+1)):=zEI _ m hl (by rw[hget];unfold isB;rw[h1];simp)
    clear hget;go_wp2
    go_round
    case rel=>exact⟨m+1,by omega,by go_num,HE.out▸hr.out⟩
    case measure=>simp[intOf];omega
  ·have HE:Hid (zAS false s.data.toList m=m):=zGp _ _ m (by simpa using hlt)
   go_wp2
   go_ret
   exact⟨zAE (by rw[←hr.out,HE.out]),rfl⟩
theorem zKp (kd a:Int) (t:ByteArray) (hs:t.size≤maxLen) (w:World) :
 Calls Tryz.prog 122 #[.agg #[.int .i64 kd,.int .i64 a,.string t]] w fun e w'=>e=.returned (.int .i64 (zBE kd t))∧Below w.heap.size w w':=by
 unfold maxLen at hs;by_cases h0:0<t.size
 ·have hb:zBh t.data.toList 0=t[0]:=by rw[zCM _ _ (by simpa using h0)];exact zBT t 0 h0 _
  go_enter Tryz.func122,Tryz.ntmps122
  go_wp2
  all_goals
   go_ret
   refine⟨zAE ?_,(Below.refl _ _).alloc (Nat.le_refl _) _⟩;simp only[beq_iff_eq,beq_eq_false_iff_ne] at *;unfold zBE
   repeat' split
   all_goals first | rfl | omega | (rw[hb] at *;omega)
 ·go_enter Tryz.func122,Tryz.ntmps122
  go_wp2
  all_goals
   go_ret
   refine⟨zAE ?_,(Below.refl _ _).alloc (Nat.le_refl _) _⟩;simp only[beq_iff_eq,beq_eq_false_iff_ne] at *;unfold zBE
   repeat' split
   all_goals first | rfl | omega
theorem zKq (s:ByteArray) (k:Nat):(s.extract k s.size).data.toList=s.data.toList.drop k:=by
 rw[ByteArray.data_extract,Array.toList_extract];simp only[List.extract_eq_take_drop];exact List.take_of_length_le (by simp)
theorem zML (s:ByteArray) (k:Nat) (hk:k<s.size) (hs:s.size≤maxLen) (w:World) (hL:isL s[k]=true) :
 Calls Tryz.prog 121 #[.string s,.int .i64 k] w fun e w'=>e=.returned (.agg #[.int .i64 1,.int .i64 k,.string (s.extract k (zAq isW s.data.toList k))])∧Below w.heap.size w w':=by
 have HS:Hid (s.size≤maxLen):=hs;unfold maxLen at hs;have hl:k<s.data.toList.length:=by simpa using hk
 have hle:k≤zAq isW s.data.toList k:=(zEH isW _ _ (Nat.le_of_lt hl)).1;have hle2:zAq isW s.data.toList k≤s.size:=by simpa using (zEH isW _ _ (Nat.le_of_lt hl)).2
 have HL:Hid (isL s[k]=true):=hL;clear hL;go_enter Tryz.func121,Tryz.ntmps121
 go_wp2_with fail
 refine (zEY _ _).mono ?_;rintro e w' ⟨rfl,rfl⟩;rw[HL.out];go_wp2_with fail
 refine (zRe s k (by omega) HS.out _).mono ?_
 rintro e w' ⟨rfl,rfl⟩;go_wp2
 exact bodyPost_ret (v:=.agg #[.int .i64 1,.int .i64 k,.string (s.extract k (zAq isW s.data.toList k))]) (by simp[results,Tryz.results121,go_sem]) rfl ⟨rfl,(Below.refl _ _).alloc (Nat.le_refl _) _⟩
theorem zOJ (s:ByteArray) (k:Nat) (hk:k<s.size) (hs:s.size≤maxLen) (w:World) (hL:isL s[k]=false) (hD:isD s[k]=true) :
 Calls Tryz.prog 121 #[.string s,.int .i64 k] w fun e w'=>e=.returned (.agg #[.int .i64 2,.int .i64 k,.string (s.extract k (zAq isD s.data.toList k))])∧Below w.heap.size w w':=by
 have HS:Hid (s.size≤maxLen):=hs;unfold maxLen at hs;have hl:k<s.data.toList.length:=by simpa using hk
 have hle:k≤zAq isD s.data.toList k:=(zEH isD _ _ (Nat.le_of_lt hl)).1;have hle2:zAq isD s.data.toList k≤s.size:=by simpa using (zEH isD _ _ (Nat.le_of_lt hl)).2
 have HL:Hid (isL s[k]=false):=hL;have HD:Hid (isD s[k]=true):=hD;clear hL hD;go_enter Tryz.func121,Tryz.ntmps121
 go_wp2_with fail
 refine (zEY _ _).mono ?_;rintro e w' ⟨rfl,rfl⟩;rw[HL.out];go_wp2_with fail
 refine (zEZ _ _).mono ?_;rintro e w' ⟨rfl,rfl⟩;rw[HD.out];go_wp2_with fail
 refine (zPU s k (by omega) HS.out _).mono ?_
 rintro e w' ⟨rfl,rfl⟩;go_wp2
 exact bodyPost_ret (v:=.agg #[.int .i64 2,.int .i64 k,.string (s.extract k (zAq isD s.data.toList k))]) (by simp[results,Tryz.results121,go_sem]) rfl ⟨rfl,(Below.refl _ _).alloc (Nat.le_refl _) _⟩
theorem zPV (s:ByteArray) (k g:Nat) (hk:k<s.size) (hs:s.size≤maxLen) (w:World) (hL:isL s[k]=false) (hD:isD s[k]=false)
 (hg:zEp (s.data.toList.drop k)=g) (h0:0<g) :
 Calls Tryz.prog 121 #[.string s,.int .i64 k] w fun e w'=>e=.returned (.agg #[.int .i64 3,.int .i64 k,.string (s.extract k (k+g))])∧Below w.heap.size w w':=by
 have hsz:(s.extract k s.size).size=s.size - k:=zAx _ _ _ (Nat.le_refl _);have HZ:Hid (0<(s.extract k s.size).size∧(s.extract k s.size).size≤maxLen):=⟨by omega,by omega⟩
 unfold maxLen at hs;have hle:k+g≤s.size:=by have:=zNT (s.data.toList.drop k) (by simp;omega);simp at this;omega
 have HL:Hid (isL s[k]=false):=hL;have HD:Hid (isD s[k]=false):=hD;have HG:Hid (zEp (s.extract k s.size).data.toList=g):=by rw[zKq];exact hg
 clear hL hD hg hsz;go_enter Tryz.func121,Tryz.ntmps121
 go_wp2_with fail
 refine (zEY _ _).mono ?_;rintro e w' ⟨rfl,rfl⟩;rw[HL.out];go_wp2_with fail
 refine (zEZ _ _).mono ?_;rintro e w' ⟨rfl,rfl⟩;rw[HD.out];go_wp2_with fail
 refine (zNV _ HZ.out.1 HZ.out.2 _).mono ?_;rintro e w' ⟨rfl,rfl⟩;rw[HG.out];go_wp2
 exact bodyPost_ret (v:=.agg #[.int .i64 3,.int .i64 k,.string (s.extract k (k+g))]) (by simp[results,Tryz.results121,go_sem]) rfl ⟨rfl,(Below.refl _ _).alloc (Nat.le_refl _) _⟩
theorem zPW (s:ByteArray) (k:Nat) (hk:k<s.size) (hs:s.size≤maxLen) (w:World) (hL:isL s[k]=false) (hD:isD s[k]=false)
 (hg:zEp (s.data.toList.drop k)=0) :
 Calls Tryz.prog 121 #[.string s,.int .i64 k] w fun e w'=>e=.returned (.agg #[.int .i64 0,.int .i64 0,.string ByteArray.empty])∧Below w.heap.size w w':=by
 have hsz:(s.extract k s.size).size=s.size - k:=zAx _ _ _ (Nat.le_refl _);have HZ:Hid (0<(s.extract k s.size).size∧(s.extract k s.size).size≤maxLen):=⟨by omega,by omega⟩
 unfold maxLen at hs;have HL:Hid (isL s[k]=false):=hL;have HD:Hid (isD s[k]=false):=hD;have HG:Hid (zEp (s.extract k s.size).data.toList=0):=by rw[zKq];exact hg
 clear hL hD hg hsz;go_enter Tryz.func121,Tryz.ntmps121
 go_wp2_with fail
 refine (zEY _ _).mono ?_;rintro e w' ⟨rfl,rfl⟩;rw[HL.out];go_wp2_with fail
 refine (zEZ _ _).mono ?_;rintro e w' ⟨rfl,rfl⟩;rw[HD.out];go_wp2_with fail
 refine (zNV _ HZ.out.1 HZ.out.2 _).mono ?_;rintro e w' ⟨rfl,rfl⟩;rw[HG.out];go_wp2
 exact bodyPost_ret (v:=.agg #[.int .i64 0,.int .i64 0,.string ByteArray.empty]) (by simp[results,Tryz.results121,go_sem];rfl) rfl ⟨rfl,(Below.refl _ _).alloc (Nat.le_refl _) _⟩
def tokV (t:Tok):Value:=.agg #[.int .i64 t.kind,.int .i64 t.place,.string t.text]
theorem zNX (s:ByteArray) (k:Nat) (hk:k<s.size) (hs:s.size≤maxLen) (w:World) :
 Calls Tryz.prog 121 #[.string s,.int .i64 k] w fun e w'=>e=.returned (tokV (zAj s k))∧Below w.heap.size w w':=by
 have hl:k<s.data.toList.length:=by simpa using hk
 have hb:zBh s.data.toList k=s[k]:=by rw[zCM _ _ hl];exact zBT s k hk _
 cases hL:isL s[k]
 ·cases hD:isD s[k]
  ·by_cases hg:zEp (s.data.toList.drop k)=0
   ·have e1:zAj s k=⟨0,0,ByteArray.empty⟩:=by unfold zAj zAo;rw[hb,hL,hD,hg];rfl
    rw[e1];exact zPW s k hk hs w hL hD hg
   ·have e1:zAj s k=⟨3,k,s.extract k (k+zEp (s.data.toList.drop k))⟩:=by
     unfold zAj zAo zA8;rw[hb,hL,hD];simp[hg]
    rw[e1];exact zPV s k _ hk hs w hL hD rfl (by omega)
  ·have e1:zAj s k=⟨2,k,s.extract k (zAq isD s.data.toList k)⟩:=by
    unfold zAj zAo zA8;rw[hb,hL,hD];simp
   rw[e1];exact zOJ s k hk hs w hL hD
 ·have e1:zAj s k=⟨1,k,s.extract k (zAq isW s.data.toList k)⟩:=by
   unfold zAj zAo zA8;rw[hb,hL];simp
  rw[e1];exact zML s k hk hs w hL
theorem Tryz.infoTok:(Tryz.prog.info? 158).map (fun i=>(i.zero,i.size,i.bytes))=some (some (.agg #[.int .i64 0,.int .i64 0,.string ByteArray.empty]),3,32):=by kernel_rfl
def zBH (t:Tok):List Value:=[.int .i64 t.kind,.int .i64 t.place,.string t.text]
def zAr (l:List Tok):List Value:=l.flatMap zBH
theorem zAG {w w':World} {base:Nat} {e:TypeId} {size:Nat} {v:Value} {n:Nat} {xs:List Value} (h:w.ownsRow base e size v n xs) (hb:Below w.heap.size w w'):w'.ownsRow base e size v n xs:=by
 refine⟨h.1,?_⟩;rcases h.2 with hn | ⟨g,cap,cur,hv,hg,hh,r⟩
 ·exact .inl hn
 ·exact .inr ⟨g,cap,cur,hv,hg,by rw[hb.block g (Array.getElem?_eq_some_iff.1 hh).1];exact hh,r⟩
theorem zEa (w:World) (t:Tok):∀(j:Nat) (u:Value),(zBH t)[j]? = some u →
 (w.alloc (.cells #[.int .i64 t.kind,.int .i64 t.place,.string t.text] 158)).cell? ((⟨w.heap.size,0,none⟩:Addr).add j)=some u:=by
 intro j u hj
 match j,hj with
 | 0,hj=>simp[zBH] at hj;subst hj;simp[Addr.add]
 | 1,hj=>simp[zBH] at hj;subst hj;simp[Addr.add]
 | 2,hj=>simp[zBH] at hj;subst hj;simp[Addr.add]
theorem zDz (t:Tok):∀(u:Value),u∈zBH t→u.oneCell'=true:=by
 intro u hu;simp only[zBH,List.mem_cons,List.not_mem_nil,or_false] at hu;rcases hu with rfl | rfl | rfl <;> rfl
theorem zJJ (s:ByteArray) (j:Nat):(zAj s j).text.size≤s.size:=by
 unfold zAj
 split
 ·simp
 ·show (s.extract _ _).size≤_
  rw[ByteArray.size_extract];omega
theorem zRf (s:ByteArray) (hs:s.size≤4000) (w:World) :
 Calls Tryz.prog 68 #[.string s] w fun e w'=>∃v,e=.returned (.tuple #[v,.int .i64 (zAO s).2.1,.int .i64 (zAO s).2.2]) ∧
  w'.ownsRow w.heap.size 158 3 v (zAO s).1.length (zAr (zAO s).1)∧Below w.heap.size w w':=by
 have HS:Hid (s.size≤maxLen):=by show s.size≤maxLen;unfold maxLen;omega
 obtain⟨i0,hi,hz0,hz1,hz2⟩:=info_parts Tryz.infoTok;obtain⟨R,hR⟩:∃R,R=zAO s:=⟨_,rfl⟩;rw[←hR];have HR:Hid (R=zDE (s.size+1) s 0 []):=by rw[hR];unfold zAO;rw[if_neg (by omega)];rfl
 clear hR;have h0:=zHm false s.data.toList 0 (Nat.zero_le _);go_enter Tryz.func68,Tryz.ntmps68
 go_wp2_with fail
 refine (zNW s 0 (Nat.zero_le _) HS.out _).mono ?_;rintro e w ⟨rfl,rfl⟩;go_wp2_with fail
 go_loopw [5,6] (fun v i wr=>∃(k f j:Nat) (acc:List Tok),i=.int .i64 j∧Hid (zAS false s.data.toList k=j)∧Hid (R=zDE f s k acc)∧s.size<k+f∧k≤s.size∧j≤s.size∧k≤j∧acc.length≤k ∧
  wr.ownsRow w.heap.size 158 3 v acc.length (zAr acc)∧Below w.heap.size w wr) (fun _ i _=>s.size - (intOf i).toNat)
 case atStart=>exact⟨0,s.size+1,_,[],rfl,rfl,HR,by omega,by omega,by simpa using h0.2,h0.1,Nat.le_refl _,World.ownsRow_nil _ _ _ _,Below.refl _ _⟩
 case round =>
  obtain⟨k,f,j,acc,rfl,hj,hR,hf,hk,hjs,hkj,hacc,hown,hbw⟩:=hrel;by_cases hlt:j<s.size
  ·have hl:j<s.data.toList.length:=by simpa using hlt
   obtain⟨f,rfl⟩:∃f',f=f'+1:=⟨f - 1,by omega⟩
   obtain⟨t,ht⟩:∃t,t=zAj s j:=⟨_,rfl⟩;have HT:Hid (t=zAj s j):=ht;have htx:t.text.size≤s.size:=by rw[ht];exact zJJ s j
   have HTS:Hid (t.text.size≤maxLen):=Nat.le_trans htx HS.out;have hsz:=hbw.size;clear ht;by_cases he:zBE t.kind t.text=0
   ·have HR2:Hid (R=zDE f s (zA8 s.data.toList j) (acc++[t])):=by rw[hR.out,HT.out];exact zB1 f s k j acc hj.out hlt (by rw[←HT.out];exact he)
    have HER:Hid (zBE t.kind t.text=0):=he;have hkd:zAo s.data.toList j≠0:=zEX s j (by rw[←HT.out];exact he)
    have hen:j<zA8 s.data.toList j:=zGI _ j hl hkd;have hen2:zA8 s.data.toList j≤s.size:=by simpa using (zFb _ j hl).2
    have HTE:Hid (t.text.size=zA8 s.data.toList j - j):=by
     rw[HT.out];unfold zAj;rw[if_neg hkd];exact zAx _ _ _ hen2
    clear he hkd;go_wp2_with fail
    refine (zNX s j hlt HS.out _).mono ?_;rintro e w1 ⟨rfl,hb1⟩;rw[←HT.out];unfold tokV;have hs1:=hb1.size;go_wp2_with fail
    refine (zKp _ _ _ HTS.out _).mono ?_;rintro e w2 ⟨rfl,hb2⟩;rw[HER.out];have hs2:w1.heap.size+1≤w2.heap.size:=by simpa using hb2.size
    have hc0:w2.cell? ⟨w1.heap.size,0,none⟩=some (.int .i64 t.kind):=(hb2.cell (by simp)).trans (by simp)
    have hc1:w2.cell? ⟨w1.heap.size,1,none⟩=some (.int .i64 t.place):=(hb2.cell (by simp)).trans (by simp)
    have hc2:w2.cell? ⟨w1.heap.size,2,none⟩=some (.string t.text):=(hb2.cell (by simp)).trans (by simp)
    have hown2:w2.ownsRow w.heap.size 158 3 u5 acc.length (zAr acc):=zAG ((zAG hown hb1).alloc _) hb2;go_wp2_with (at_builtin;refine wpList_append_own _ rfl _ _ 95 rfl w.heap.size 158 i0 (.agg #[.int .i64 0,.int .i64 0,.string ByteArray.empty]) 3 32 Tryz.underlying95 hi hz0 hz1 hz2 rfl (by decide) _ _ _ rfl (hown2.alloc _) ⟨w2.heap.size,0,none⟩ 1 1 (zBH t) rfl rfl ?c1 ?c2 ?c3 ?c4 ?c5 ?_)
    case c1=>exact zEa w2 t
    case c2=>exact zDz t
    case c3=>unfold maxLen;omega
    case c4=>omega
    case c5=>simp;omega
    intro v3 w3 hown3 hgrow _;have hc3:w3.cell? ⟨w1.heap.size,2,none⟩=some (.string t.text):=hgrow.cell ((World.cell?_alloc_past _ _ _ (by omega)).trans hc2) (by intro h;have hq:=(hown.lt _ h.symm).2;simp only at hq;omega)
    have hb3:Below w.heap.size w w3:=((((hbw.trans (hb1.mono hsz)).alloc (by omega) _).trans (hb2.mono (by simp;omega))).alloc (by omega) _).grown hgrow (by simp;omega) (fun b h=>(hown.lt _ h).1)
    have hown4:w3.ownsRow w.heap.size 158 3 v3 (acc++[t]).length (zAr (acc++[t])):=by
     have e1:zAr (acc++[t])=zAr acc++zBH t:=by simp[zAr]
     rw[e1,List.length_append];exact hown3
    clear hown3 hgrow hown2 hc0 hc1 hc2 hb2 hb1 hown hbw hs1 hs2 hsz;have hjt:(j:Int)+(t.text.size:Int)=((zA8 s.data.toList j:Nat):Int):=by rw[HTE.out];omega
    have HJT:Hid ((j:Int)+(t.text.size:Int)=((zA8 s.data.toList j:Nat):Int)):=hjt;clear hjt;go_wp2_with fail
    rw[HJT.out];refine (zNW s (zA8 s.data.toList j) hen2 HS.out _).mono ?_;rintro e w3 ⟨rfl,rfl⟩;have h5:=zHm false s.data.toList (zA8 s.data.toList j) (by simpa using hen2)
    have h51:=h5.1;have h52:zAS false s.data.toList (zA8 s.data.toList j)≤s.size:=by simpa using h5.2
    clear h5;go_wp2
    go_roundw
    case rel=>exact⟨zA8 s.data.toList j,f,_,acc++[t],rfl,rfl,HR2,by omega,hen2,h52,h51,by simp;omega,hown4,hb3⟩
    case measure=>simp[intOf];omega
   ·have HR2:Hid (R=([],j,zBE t.kind t.text)):=by rw[hR.out,HT.out];exact zCz f s k j acc hj.out hlt (by rw[←HT.out];exact he)
    have he':(zBE t.kind t.text != 0)=true:=by simpa using he
    clear he;obtain⟨er,HER⟩:∃er,Hid (zBE t.kind t.text=er):=⟨_,rfl⟩;rw[HER.out] at HR2 he';go_wp2_with fail
    refine (zNX s j hlt HS.out _).mono ?_;rintro e w1 ⟨rfl,hb1⟩;rw[←HT.out];unfold tokV;have hs1:=hb1.size;go_wp2_with fail
    refine (zKp _ _ _ HTS.out _).mono ?_;rintro e w2 ⟨rfl,hb2⟩;rw[HER.out];go_wp2
    go_ret3
    rw[HR2.out];exact⟨_,rfl,World.ownsRow_nil _ _ _ _,((hbw.trans (hb1.mono hsz)).alloc (by omega) _).trans (hb2.mono (by simp;omega))⟩
  ·have HR2:Hid (R=(acc,0,0)):=by rw[hR.out];exact zDy f s k acc (by rw[hj.out];exact hlt)
   go_wp2
   go_ret3
   rw[HR2.out];exact⟨_,rfl,hown,hbw⟩
end Go.Proofs.YtdjbejlbmaiocagGreatDoor
