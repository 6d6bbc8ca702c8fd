/- What the proof leans on, part 1. -/
import Derived.Test.YtndcpnlaadikoaaGreatDoorRows
import Derived.WalkKit
import Derived.WalkSpells
import Derived.WalkLawsBesides
set_option maxRecDepth 100000
set_option maxHeartbeats 1000000
namespace Go.Proofs.YtndcpnlaadikoaaGreatDoor
structure Tok where
 kind:Int
 place:Int
 text:ByteArray
def isL (c:UInt8):Bool:=decide (97≤(c.toNat:Int))&&decide ((c.toNat:Int)≤122)
def isD (c:UInt8):Bool:=decide (48≤(c.toNat:Int))&&decide ((c.toNat:Int)≤57)
def isW (c:UInt8):Bool:=isL c || isD c
def zB3 (c:UInt8):Bool:=(c.toNat:Int) != 10
def isB (c:UInt8):Bool:=(c.toNat:Int)==32 || ((c.toNat:Int)==9 || (c.toNat:Int)==10)
def zBA (p:UInt8→Bool) (l:List UInt8) (k:Nat):Nat:=k+((l.drop k).takeWhile p).length
def zCz (l:List UInt8) (k:Nat):UInt8:=l.getD k 0
theorem zDC (p:UInt8→Bool) (l:List UInt8) (k:Nat) (h:∀h:k<l.length,p l[k]=false):zBA p l k=k:=by
 unfold zBA;by_cases hk:k<l.length
 ·rw[List.drop_eq_getElem_cons hk,List.takeWhile_cons,h hk];simp
 ·rw[List.drop_eq_nil_of_le (by omega)];simp
theorem zFY (p:UInt8→Bool) (l:List UInt8) (k:Nat) (hk:k<l.length) (h:p l[k]=true):zBA p l k=zBA p l (k+1):=by
 unfold zBA;rw[List.drop_eq_getElem_cons hk,List.takeWhile_cons,h];simp;omega
theorem zJz (p:UInt8→Bool) (l:List UInt8):(l.takeWhile p).length≤l.length:=by
 induction l with
 | nil=>simp
 | cons a r ih=>rw[List.takeWhile_cons];split <;> simp;omega
theorem zDW (p:UInt8→Bool) (l:List UInt8) (k:Nat) (hk:k≤l.length):k≤zBA p l k∧zBA p l k≤l.length:=by
 unfold zBA;have:=zJz p (l.drop k);simp at this;omega
theorem zJO (p:UInt8→Bool) (l:List UInt8) (k:Nat) (hk:k<l.length) (h:p l[k]=true):k<zBA p l k:=by
 rw[zFY p l k hk h];have:=zDW p l (k+1) (by omega);omega
def zFB:Bool→List UInt8→Nat
 | _,[]=>0
 | note,c :: r=>if note || (c.toNat:Int)==37 then 1+zFB (zB3 c) r else if isB c then 1+zFB false r else 0
theorem zQP (b:Bool) (l:List UInt8):zFB b l≤l.length:=by
 induction l generalizing b with
 | nil=>simp[zFB]
 | cons c r ih =>
   unfold zFB
   split
   ·have:=ih (zB3 c);simp;omega
   ·split
    ·have:=ih false;simp;omega
    ·simp
theorem zNS (l:List UInt8):zFB true l=(l.takeWhile zB3).length+zFB false (l.drop (l.takeWhile zB3).length):=by
 induction l with
 | nil=>simp[zFB]
 | cons c r ih =>
   rw[List.takeWhile_cons];cases h:zB3 c
   ·have h10:(c.toNat:Int)=10:=by simpa[zB3] using h
    simp only[Bool.false_eq_true,if_false,List.length_nil,Nat.zero_add,List.drop_zero];simp[zFB,h,h10,isB]
   ·simp only[if_true,List.length_cons,List.drop_succ_cons]
    simp only[zFB,Bool.true_or,if_true,h];rw[ih];omega
def zAU (b:Bool) (l:List UInt8) (k:Nat):Nat:=k+zFB b (l.drop k)
theorem zHB (b:Bool) (l:List UInt8) (k:Nat) (hk:k≤l.length):k≤zAU b l k∧zAU b l k≤l.length:=by
 unfold zAU;have:=zQP b (l.drop k);simp at this;omega
theorem zIW (b:Bool) (l:List UInt8) (k:Nat) (hk:¬k<l.length):zAU b l k=k:=by
 unfold zAU;rw[List.drop_eq_nil_of_le (by omega)];simp[zFB]
theorem zEP (l:List UInt8) (k:Nat) (hk:k<l.length) (h:isB l[k]=true):zAU false l k=zAU false l (k+1):=by
 unfold zAU;have h37:((l[k].toNat:Int)==37)=false:=by
  simp only[isB,Bool.or_eq_true,beq_iff_eq] at h;simp only[beq_eq_false_iff_ne];omega
 rw[List.drop_eq_getElem_cons hk];simp only[zFB,h37,h,Bool.false_or,Bool.false_eq_true,if_false,if_true];omega
theorem zLK (b:Bool) (l:List UInt8) (k:Nat) (hk:k<l.length) (h:(b || (l[k].toNat:Int)==37)=true):zAU b l k=zAU (zB3 l[k]) l (k+1):=by
 unfold zAU;rw[List.drop_eq_getElem_cons hk];simp only[zFB,h,if_true];omega
theorem zIG (l:List UInt8) (k:Nat) (hk:k<l.length) (h:(l[k].toNat:Int)=37):zAU false l k=zAU false l (zBA zB3 l k):=by
 have hn:zB3 l[k]=true:=by unfold zB3;rw[h];decide
 rw[zLK false l k hk (by simp[h]),zFY zB3 l k hk hn,hn]
 unfold zAU zBA;rw[zNS,List.drop_drop];omega
theorem zHC (l:List UInt8) (k:Nat) (hk:k<l.length) (h:isB l[k]=false) (h37:((l[k].toNat:Int)==37)=false):zAU false l k=k:=by
 unfold zAU;rw[List.drop_eq_getElem_cons hk];simp[zFB,h,h37]
def zLL (l:List UInt8):Bool:=(l.take 2==[46,46]) || ((l.take 2==[60,61]) || ((l.take 2==[62,61]) || ((l.take 2==[61,61]) || (l.take 2==[33,61]))))
def zQQ (c:UInt8):Bool:=((c.toNat:Int)==91) || (((c.toNat:Int)==93) || (((c.toNat:Int)==59) || (((c.toNat:Int)==58) || (((c.toNat:Int)==44) || ((c.toNat:Int)==45)))))
def zFC (l:List UInt8):Nat:=if zLL l then 2 else if zQQ (zCz l 0) then 1 else 0
theorem zJ0 (l:List UInt8) (h:zLL l=true):2≤l.length:=by
 have:(l.take 2).length=2:=by
  simp only[zLL,Bool.or_eq_true,beq_iff_eq] at h;rcases h with h | h | h | h | h <;> rw[h] <;> rfl
 simp at this;omega
theorem zMb (l:List UInt8) (h:0<l.length):zFC l≤l.length:=by
 unfold zFC
 split
 ·exact zJ0 l ‹_›
 ·split <;> omega
def zCD (l:List UInt8) (k:Nat):Nat :=
 if isL (zCz l k) then 1 else if isD (zCz l k) then 2 else if zFC (l.drop k)=0 then 0 else 3
def zCL (l:List UInt8) (k:Nat):Nat :=
 if isL (zCz l k) then zBA isW l k else if isD (zCz l k) then zBA isD l k else k+zFC (l.drop k)
theorem zDi (l:List UInt8) (k:Nat) (hk:k<l.length):zCz l k=l[k]:=by simp[zCz,hk]
theorem zG1 (l:List UInt8) (k:Nat) (hk:k<l.length):k≤zCL l k∧zCL l k≤l.length:=by
 unfold zCL
 split
 ·exact zDW _ _ _ (by omega)
 ·split
  ·exact zDW _ _ _ (by omega)
  ·have:=zMb (l.drop k) (by simp;omega);simp at this;omega
theorem zJP (l:List UInt8) (k:Nat) (hk:k<l.length) (h:zCD l k≠0):k<zCL l k:=by
 unfold zCD at h;unfold zCL;rw[zDi l k hk] at *
 split
 ·refine zJO _ _ _ hk ?_;rename_i h1;simp[isW,h1]
 ·split
  ·exact zJO _ _ _ hk ‹_›
  ·rename_i h1 h2;simp[h1,h2] at h;omega
def zBC (s:ByteArray) (k:Nat):Tok :=
 if zCD s.data.toList k=0 then ⟨0,0,ByteArray.empty⟩ else ⟨zCD s.data.toList k,k,s.extract k (zCL s.data.toList k)⟩
def zC3 (kind:Int) (t:ByteArray):Int :=
 if kind=1 then (if 12<t.size then 2 else 0) else if kind=2 then (if 4<t.size then 2 else if 1<t.size∧((zCz t.data.toList 0).toNat:Int)=48 then 1 else 0) else if kind=3 then 0 else 1
def zEI:Nat→ByteArray→Nat→List Tok→List Tok×Nat×Int
 | 0,_,_,acc=>(acc,0,0)
 | f+1,s,k,acc =>
   if zAU false s.data.toList k<s.size then
    if zC3 (zBC s (zAU false s.data.toList k)).kind (zBC s (zAU false s.data.toList k)).text=0 then
     zEI f s (zCL s.data.toList (zAU false s.data.toList k)) (acc++[zBC s (zAU false s.data.toList k)])
    else ([],zAU false s.data.toList k,zC3 (zBC s (zAU false s.data.toList k)).kind (zBC s (zAU false s.data.toList k)).text)
   else (acc,0,0)
def zAv (s:ByteArray):List Tok×Nat×Int:=if 4000<s.size then ([],0,2) else zEI (s.size+1) s 0 []
theorem zEQ (f:Nat) (s:ByteArray) (k:Nat) (acc:List Tok) (h:¬zAU false s.data.toList k<s.size):zEI f s k acc=(acc,0,0):=by
 cases f with
 | zero=>rfl
 | succ f=>rw[zEI,if_neg h]
theorem zFZ (f:Nat) (s:ByteArray) (k j:Nat) (acc:List Tok) (hj:zAU false s.data.toList k=j) (h:j<s.size) (he:zC3 (zBC s j).kind (zBC s j).text≠0) :
 zEI (f+1) s k acc=([],j,zC3 (zBC s j).kind (zBC s j).text):=by
 rw[zEI,hj,if_pos h,if_neg he]
theorem zDj (f:Nat) (s:ByteArray) (k j:Nat) (acc:List Tok) (hj:zAU false s.data.toList k=j) (h:j<s.size) (he:zC3 (zBC s j).kind (zBC s j).text=0) :
 zEI (f+1) s k acc=zEI f s (zCL s.data.toList j) (acc++[zBC s j]):=by
 rw[zEI,hj,if_pos h,if_pos he]
theorem zEr (s:ByteArray) (j:Nat) (he:zC3 (zBC s j).kind (zBC s j).text=0):zCD s.data.toList j≠0:=by
 intro h;unfold zBC at he;rw[if_pos h] at he;simp[zC3] at he
theorem zCo (s:ByteArray) (a b:Nat) (h:b≤s.size):(s.extract a b).size=b - a:=by
 simp[ByteArray.size_extract];omega
open Go.RowKit
theorem zAI {k:IntKind} {a b:Int} (h:a=b):Ending.returned (.int k a)=.returned (.int k b):=by rw[h]
theorem zAD {a b:Bool} (h:a=b):Ending.returned (.bool a)=.returned (.bool b):=by rw[h]
theorem zDy (s:ByteArray) (k:Nat) (_h:k<s.size) (h':k<s.data.toList.length):s.data.toList[k]=s[k]:=by rw[Array.getElem_toList];rfl
theorem zR2 (c:UInt8) (w:World) :
 Calls Tryz.prog 215 #[.int .u8 c.toNat] w fun e w'=>e=.returned (.bool (zB3 c))∧w'=w:=by
 unfold zB3;go_enter Tryz.func215,Tryz.ntmps215
 go_wp2
 go_ret
 exact⟨rfl,rfl⟩
theorem zDk (c:UInt8) (w:World) :
 Calls Tryz.prog 216 #[.int .u8 c.toNat] w fun e w'=>e=.returned (.bool (isL c))∧w'=w:=by
 unfold isL;go_enter Tryz.func216,Tryz.ntmps216
 go_wp2
 ·go_ret;exact⟨by simp[*],rfl⟩
 ·go_ret;refine⟨by rw[decide_eq_false (by omega)];rfl,rfl⟩
theorem zDl (c:UInt8) (w:World) :
 Calls Tryz.prog 218 #[.int .u8 c.toNat] w fun e w'=>e=.returned (.bool (isD c))∧w'=w:=by
 unfold isD;go_enter Tryz.func218,Tryz.ntmps218
 go_wp2
 ·go_ret;exact⟨by simp[*],rfl⟩
 ·go_ret;refine⟨by rw[decide_eq_false (by omega)];rfl,rfl⟩
theorem zMc (c:UInt8) (w:World) :
 Calls Tryz.prog 217 #[.int .u8 c.toNat] w fun e w'=>e=.returned (.bool (isW c))∧w'=w:=by
 unfold isW;cases h:isL c
 all_goals
  go_enter Tryz.func217,Tryz.ntmps217
  go_wp2_with (first | (go_at_call 216;refine (zDk _ _).mono ?_;rintro e w' ⟨rfl,rfl⟩;rw[h]) | (go_at_call 218;refine (zDl _ _).mono ?_;rintro e w' ⟨rfl,rfl⟩))
  go_ret;exact⟨by simp,rfl⟩
theorem zS6 (s:ByteArray) (k:Nat) (hk:k≤s.size) (hs:s.size≤maxLen) (w:World) :
 Calls Tryz.prog 214 #[.string s,.int .i64 k,.func (.func 215) #[] #[]] w fun e w'=>e=.returned (.int .i64 (zBA zB3 s.data.toList k))∧w'=w:=by
 unfold maxLen at hs;go_enter Tryz.func214,Tryz.ntmps214
 go_wp2
 go_loop [1] (fun i=>∃m:Nat,m≤s.size∧i=.int .i64 m∧Hid (zBA zB3 s.data.toList m=zBA zB3 s.data.toList k)) (fun i=>s.size - (intOf i).toNat)
 case atStart=>exact⟨k,hk,rfl,rfl⟩
 case round =>
  obtain⟨m,hm,rfl,hr⟩:=hrel;by_cases hlt:m<s.size
  ·have hl:m<s.data.toList.length:=by simpa using hlt
   have hget:=zDy s m hlt hl;cases hp:zB3 s[m]
   ·have HE:Hid (zBA zB3 s.data.toList m=m):=zDC zB3 _ m (fun h=>by rw[hget];exact hp)
    have HP:Hid (zB3 s[m]=false):=hp;clear hp hget;go_wp2_with fail
    refine (zR2 _ _).mono ?_;rintro e w' ⟨rfl,rfl⟩;rw[HP.out];go_wp2
    go_ret
    exact⟨zAI (by rw[←hr.out,HE.out]),rfl⟩
   ·have HE:Hid (zBA zB3 s.data.toList m=zBA zB3 s.data.toList (m+1)):=zFY zB3 _ m hl (by rw[hget];exact hp)
    have HP:Hid (zB3 s[m]=true):=hp;clear hp hget;go_wp2_with fail
    refine (zR2 _ _).mono ?_;rintro e w' ⟨rfl,rfl⟩;rw[HP.out];go_wp2
    go_round
    case rel=>exact⟨m+1,by omega,by go_num,HE.out▸hr.out⟩
    case measure=>simp[intOf];omega
  ·have HE:Hid (zBA zB3 s.data.toList m=m):=zDC zB3 _ m (fun h=>by simp at h;omega)
   go_wp2
   go_ret
   exact⟨zAI (by rw[←hr.out,HE.out]),rfl⟩
theorem zQR (s:ByteArray) (k:Nat) (hk:k≤s.size) (hs:s.size≤maxLen) (w:World) :
 Calls Tryz.prog 214 #[.string s,.int .i64 k,.func (.func 217) #[] #[]] w fun e w'=>e=.returned (.int .i64 (zBA isW s.data.toList k))∧w'=w:=by
 unfold maxLen at hs;go_enter Tryz.func214,Tryz.ntmps214
 go_wp2
 go_loop [1] (fun i=>∃m:Nat,m≤s.size∧i=.int .i64 m∧Hid (zBA isW s.data.toList m=zBA isW s.data.toList k)) (fun i=>s.size - (intOf i).toNat)
 case atStart=>exact⟨k,hk,rfl,rfl⟩
 case round =>
  obtain⟨m,hm,rfl,hr⟩:=hrel;by_cases hlt:m<s.size
  ·have hl:m<s.data.toList.length:=by simpa using hlt
   have hget:=zDy s m hlt hl;cases hp:isW s[m]
   ·have HE:Hid (zBA isW s.data.toList m=m):=zDC isW _ m (fun h=>by rw[hget];exact hp)
    have HP:Hid (isW s[m]=false):=hp;clear hp hget;go_wp2_with fail
    refine (zMc _ _).mono ?_;rintro e w' ⟨rfl,rfl⟩;rw[HP.out];go_wp2
    go_ret
    exact⟨zAI (by rw[←hr.out,HE.out]),rfl⟩
   ·have HE:Hid (zBA isW s.data.toList m=zBA isW s.data.toList (m+1)):=zFY isW _ m hl (by rw[hget];exact hp)
    have HP:Hid (isW s[m]=true):=hp;clear hp hget;go_wp2_with fail
    refine (zMc _ _).mono ?_;rintro e w' ⟨rfl,rfl⟩;rw[HP.out];go_wp2
    go_round
    case rel=>exact⟨m+1,by omega,by go_num,HE.out▸hr.out⟩
    case measure=>simp[intOf];omega
  ·have HE:Hid (zBA isW s.data.toList m=m):=zDC isW _ m (fun h=>by simp at h;omega)
   go_wp2
   go_ret
   exact⟨zAI (by rw[←hr.out,HE.out]),rfl⟩
theorem zOc (s:ByteArray) (k:Nat) (hk:k≤s.size) (hs:s.size≤maxLen) (w:World) :
 Calls Tryz.prog 214 #[.string s,.int .i64 k,.func (.func 218) #[] #[]] w fun e w'=>e=.returned (.int .i64 (zBA isD s.data.toList k))∧w'=w:=by
 unfold maxLen at hs;go_enter Tryz.func214,Tryz.ntmps214
 go_wp2
 go_loop [1] (fun i=>∃m:Nat,m≤s.size∧i=.int .i64 m∧Hid (zBA isD s.data.toList m=zBA isD s.data.toList k)) (fun i=>s.size - (intOf i).toNat)
 case atStart=>exact⟨k,hk,rfl,rfl⟩
 case round =>
  obtain⟨m,hm,rfl,hr⟩:=hrel;by_cases hlt:m<s.size
  ·have hl:m<s.data.toList.length:=by simpa using hlt
   have hget:=zDy s m hlt hl;cases hp:isD s[m]
   ·have HE:Hid (zBA isD s.data.toList m=m):=zDC isD _ m (fun h=>by rw[hget];exact hp)
    have HP:Hid (isD s[m]=false):=hp;clear hp hget;go_wp2_with fail
    refine (zDl _ _).mono ?_;rintro e w' ⟨rfl,rfl⟩;rw[HP.out];go_wp2
    go_ret
    exact⟨zAI (by rw[←hr.out,HE.out]),rfl⟩
   ·have HE:Hid (zBA isD s.data.toList m=zBA isD s.data.toList (m+1)):=zFY isD _ m hl (by rw[hget];exact hp)
    have HP:Hid (isD s[m]=true):=hp;clear hp hget;go_wp2_with fail
    refine (zDl _ _).mono ?_;rintro e w' ⟨rfl,rfl⟩;rw[HP.out];go_wp2
    go_round
    case rel=>exact⟨m+1,by omega,by go_num,HE.out▸hr.out⟩
    case measure=>simp[intOf];omega
  ·have HE:Hid (zBA isD s.data.toList m=m):=zDC isD _ m (fun h=>by simp at h;omega)
   go_wp2
   go_ret
   exact⟨zAI (by rw[←hr.out,HE.out]),rfl⟩
theorem zMd (t:ByteArray) (ht:0<t.size) (hs:t.size≤maxLen) (w:World) :
 Calls Tryz.prog 219 #[.string t] w fun e w'=>e=.returned (.int .i64 (zFC t.data.toList))∧w'=w:=by
 unfold maxLen at hs;have he:(t.extract 0 2).toList=t.data.toList.take 2:=by rw[ByteArray.toList_eq];simp
 have hb:zCz t.data.toList 0=t[0]:=by rw[zDi _ _ (by simpa using ht)];exact zDy t 0 ht _
 by_cases h2:2≤t.size
 ·go_enter Tryz.func219,Tryz.ntmps219
  go_wp2
  all_goals (go_ret;refine⟨zAI ?_,rfl⟩;simp_all[zFC,zLL,zQQ])
 ·have hn:zLL t.data.toList=false:=by
   cases h:zLL t.data.toList
   ·rfl
   ·have:=zJ0 _ h;simp at this;omega
  go_enter Tryz.func219,Tryz.ntmps219
  go_wp2
  all_goals (go_ret;refine⟨zAI ?_,rfl⟩;simp_all[zFC,zQQ])
theorem zMe (s:ByteArray) (k:Nat) (hk:k≤s.size) (hs:s.size≤maxLen) (w:World) :
 Calls Tryz.prog 134 #[.string s,.int .i64 k] w fun e w'=>e=.returned (.int .i64 (zAU false s.data.toList k))∧w'=w:=by
 have HS:Hid (s.size≤maxLen):=hs;unfold maxLen at hs;go_enter Tryz.func134,Tryz.ntmps134
 go_wp2
 go_loop [1] (fun i=>∃m:Nat,m≤s.size∧i=.int .i64 m∧Hid (zAU false s.data.toList m=zAU false s.data.toList k)) (fun i=>s.size - (intOf i).toNat)
 case atStart=>exact⟨k,hk,rfl,rfl⟩
 case round =>
  obtain⟨m,hm,rfl,hr⟩:=hrel;by_cases hlt:m<s.size
  ·have hl:m<s.data.toList.length:=by simpa using hlt
   have hget:=zDy s m hlt hl;cases h1:((s[m].toNat:Int)==32)
   ·cases h2:((s[m].toNat:Int)==9)
    ·cases h3:((s[m].toNat:Int)==10)
     ·cases h4:((s[m].toNat:Int)==37)
      ·have HE:Hid (zAU false s.data.toList m=m):=zHC _ m hl (by rw[hget];unfold isB;rw[h1,h2,h3];rfl) (by rw[hget];exact h4)
       clear hget;go_wp2
       go_ret
       exact⟨zAI (by rw[←hr.out,HE.out]),rfl⟩
      ·have HE:Hid (zAU false s.data.toList m=zAU false s.data.toList (zBA zB3 s.data.toList m)):=zIG _ m hl (by rw[hget];simpa using h4)
       have hg:m<zBA zB3 s.data.toList m:=zJO _ _ _ hl (by rw[hget];unfold zB3;rw[bne,h3];rfl)
       have hle:zBA zB3 s.data.toList m≤s.size:=by simpa using (zDW zB3 _ _ (Nat.le_of_lt hl)).2
       clear hget;go_wp2_with fail
       refine (zS6 s m hm HS.out _).mono ?_;rintro e w' ⟨rfl,rfl⟩;go_wp2
       go_round
       case rel=>exact⟨_,hle,rfl,HE.out▸hr.out⟩
       case measure=>simp[intOf];omega
     ·have HE:Hid (zAU false s.data.toList m=zAU false s.data.toList (m+1)):=zEP _ m hl (by rw[hget];unfold isB;rw[h3];simp)
      clear hget;go_wp2
      go_round
      case rel=>exact⟨m+1,by omega,by go_num,HE.out▸hr.out⟩
      case measure=>simp[intOf];omega
    ·have HE:Hid (zAU false s.data.toList m=zAU false s.data.toList (m+1)):=zEP _ m hl (by rw[hget];unfold isB;rw[h2];simp)
     clear hget;go_wp2
     go_round
     case rel=>exact⟨m+1,by omega,by go_num,HE.out▸hr.out⟩
     case measure=>simp[intOf];omega
   ·have HE:Hid (zAU false s.data.toList m=zAU false s.data.toList (m+1)):=zEP _ m hl (by rw[hget];unfold isB;rw[h1];simp)
    clear hget;go_wp2
    go_round
    case rel=>exact⟨m+1,by omega,by go_num,HE.out▸hr.out⟩
    case measure=>simp[intOf];omega
  ·have HE:Hid (zAU false s.data.toList m=m):=zIW _ _ m (by simpa using hlt)
   go_wp2
   go_ret
   exact⟨zAI (by rw[←hr.out,HE.out]),rfl⟩
theorem zJ1 (kd a:Int) (t:ByteArray) (hs:t.size≤maxLen) (w:World) :
 Calls Tryz.prog 136 #[.agg #[.int .i64 kd,.int .i64 a,.string t]] w fun e w'=>e=.returned (.int .i64 (zC3 kd t))∧Below w.heap.size w w':=by
 unfold maxLen at hs;by_cases h0:0<t.size
 ·have hb:zCz t.data.toList 0=t[0]:=by rw[zDi _ _ (by simpa using h0)];exact zDy t 0 h0 _
  go_enter Tryz.func136,Tryz.ntmps136
  go_wp2
  all_goals
   go_ret
   refine⟨zAI ?_,(Below.refl _ _).alloc (Nat.le_refl _) _⟩;simp only[beq_iff_eq,beq_eq_false_iff_ne] at *;unfold zC3
   repeat' split
   all_goals first | rfl | omega | (rw[hb] at *;omega)
 ·go_enter Tryz.func136,Tryz.ntmps136
  go_wp2
  all_goals
   go_ret
   refine⟨zAI ?_,(Below.refl _ _).alloc (Nat.le_refl _) _⟩;simp only[beq_iff_eq,beq_eq_false_iff_ne] at *;unfold zC3
   repeat' split
   all_goals first | rfl | omega
theorem zJ2 (s:ByteArray) (k:Nat):(s.extract k s.size).data.toList=s.data.toList.drop k:=by
 rw[ByteArray.data_extract,Array.toList_extract];simp only[List.extract_eq_take_drop];exact List.take_of_length_le (by simp)
theorem zLM (s:ByteArray) (k:Nat) (hk:k<s.size) (hs:s.size≤maxLen) (w:World) (hL:isL s[k]=true) :
 Calls Tryz.prog 135 #[.string s,.int .i64 k] w fun e w'=>e=.returned (.agg #[.int .i64 1,.int .i64 k,.string (s.extract k (zBA isW s.data.toList k))])∧Below w.heap.size w w':=by
 have HS:Hid (s.size≤maxLen):=hs;unfold maxLen at hs;have hl:k<s.data.toList.length:=by simpa using hk
 have hle:k≤zBA isW s.data.toList k:=(zDW isW _ _ (Nat.le_of_lt hl)).1;have hle2:zBA isW s.data.toList k≤s.size:=by simpa using (zDW isW _ _ (Nat.le_of_lt hl)).2
 have HL:Hid (isL s[k]=true):=hL;clear hL;go_enter Tryz.func135,Tryz.ntmps135
 go_wp2_with fail
 refine (zDk _ _).mono ?_;rintro e w' ⟨rfl,rfl⟩;rw[HL.out];go_wp2_with fail
 refine (zQR s k (by omega) HS.out _).mono ?_
 rintro e w' ⟨rfl,rfl⟩;go_wp2
 exact bodyPost_ret (v:=.agg #[.int .i64 1,.int .i64 k,.string (s.extract k (zBA isW s.data.toList k))]) (by simp[results,Tryz.results135,go_sem]) rfl ⟨rfl,(Below.refl _ _).alloc (Nat.le_refl _) _⟩
theorem zNT (s:ByteArray) (k:Nat) (hk:k<s.size) (hs:s.size≤maxLen) (w:World) (hL:isL s[k]=false) (hD:isD s[k]=true) :
 Calls Tryz.prog 135 #[.string s,.int .i64 k] w fun e w'=>e=.returned (.agg #[.int .i64 2,.int .i64 k,.string (s.extract k (zBA isD s.data.toList k))])∧Below w.heap.size w w':=by
 have HS:Hid (s.size≤maxLen):=hs;unfold maxLen at hs;have hl:k<s.data.toList.length:=by simpa using hk
 have hle:k≤zBA isD s.data.toList k:=(zDW isD _ _ (Nat.le_of_lt hl)).1;have hle2:zBA isD s.data.toList k≤s.size:=by simpa using (zDW isD _ _ (Nat.le_of_lt hl)).2
 have HL:Hid (isL s[k]=false):=hL;have HD:Hid (isD s[k]=true):=hD;clear hL hD;go_enter Tryz.func135,Tryz.ntmps135
 go_wp2_with fail
 refine (zDk _ _).mono ?_;rintro e w' ⟨rfl,rfl⟩;rw[HL.out];go_wp2_with fail
 refine (zDl _ _).mono ?_;rintro e w' ⟨rfl,rfl⟩;rw[HD.out];go_wp2_with fail
 refine (zOc s k (by omega) HS.out _).mono ?_
 rintro e w' ⟨rfl,rfl⟩;go_wp2
 exact bodyPost_ret (v:=.agg #[.int .i64 2,.int .i64 k,.string (s.extract k (zBA isD s.data.toList k))]) (by simp[results,Tryz.results135,go_sem]) rfl ⟨rfl,(Below.refl _ _).alloc (Nat.le_refl _) _⟩
theorem zOd (s:ByteArray) (k g:Nat) (hk:k<s.size) (hs:s.size≤maxLen) (w:World) (hL:isL s[k]=false) (hD:isD s[k]=false)
 (hg:zFC (s.data.toList.drop k)=g) (h0:0<g) :
 Calls Tryz.prog 135 #[.string s,.int .i64 k] w fun e w'=>e=.returned (.agg #[.int .i64 3,.int .i64 k,.string (s.extract k (k+g))])∧Below w.heap.size w w':=by
 have hsz:(s.extract k s.size).size=s.size - k:=zCo _ _ _ (Nat.le_refl _);have HZ:Hid (0<(s.extract k s.size).size∧(s.extract k s.size).size≤maxLen):=⟨by omega,by omega⟩
 unfold maxLen at hs;have hle:k+g≤s.size:=by have:=zMb (s.data.toList.drop k) (by simp;omega);simp at this;omega
 have HL:Hid (isL s[k]=false):=hL;have HD:Hid (isD s[k]=false):=hD;have HG:Hid (zFC (s.extract k s.size).data.toList=g):=by rw[zJ2];exact hg
 clear hL hD hg hsz;go_enter Tryz.func135,Tryz.ntmps135
 go_wp2_with fail
 refine (zDk _ _).mono ?_;rintro e w' ⟨rfl,rfl⟩;rw[HL.out];go_wp2_with fail
 refine (zDl _ _).mono ?_;rintro e w' ⟨rfl,rfl⟩;rw[HD.out];go_wp2_with fail
 refine (zMd _ HZ.out.1 HZ.out.2 _).mono ?_;rintro e w' ⟨rfl,rfl⟩;rw[HG.out];go_wp2
 exact bodyPost_ret (v:=.agg #[.int .i64 3,.int .i64 k,.string (s.extract k (k+g))]) (by simp[results,Tryz.results135,go_sem]) rfl ⟨rfl,(Below.refl _ _).alloc (Nat.le_refl _) _⟩
theorem zOe (s:ByteArray) (k:Nat) (hk:k<s.size) (hs:s.size≤maxLen) (w:World) (hL:isL s[k]=false) (hD:isD s[k]=false)
 (hg:zFC (s.data.toList.drop k)=0) :
 Calls Tryz.prog 135 #[.string s,.int .i64 k] w fun e w'=>e=.returned (.agg #[.int .i64 0,.int .i64 0,.string ByteArray.empty])∧Below w.heap.size w w':=by
 have hsz:(s.extract k s.size).size=s.size - k:=zCo _ _ _ (Nat.le_refl _);have HZ:Hid (0<(s.extract k s.size).size∧(s.extract k s.size).size≤maxLen):=⟨by omega,by omega⟩
 unfold maxLen at hs;have HL:Hid (isL s[k]=false):=hL;have HD:Hid (isD s[k]=false):=hD;have HG:Hid (zFC (s.extract k s.size).data.toList=0):=by rw[zJ2];exact hg
 clear hL hD hg hsz;go_enter Tryz.func135,Tryz.ntmps135
 go_wp2_with fail
 refine (zDk _ _).mono ?_;rintro e w' ⟨rfl,rfl⟩;rw[HL.out];go_wp2_with fail
 refine (zDl _ _).mono ?_;rintro e w' ⟨rfl,rfl⟩;rw[HD.out];go_wp2_with fail
 refine (zMd _ HZ.out.1 HZ.out.2 _).mono ?_;rintro e w' ⟨rfl,rfl⟩;rw[HG.out];go_wp2
 exact bodyPost_ret (v:=.agg #[.int .i64 0,.int .i64 0,.string ByteArray.empty]) (by simp[results,Tryz.results135,go_sem];rfl) rfl ⟨rfl,(Below.refl _ _).alloc (Nat.le_refl _) _⟩
def tokV (t:Tok):Value:=.agg #[.int .i64 t.kind,.int .i64 t.place,.string t.text]
theorem zMf (s:ByteArray) (k:Nat) (hk:k<s.size) (hs:s.size≤maxLen) (w:World) :
 Calls Tryz.prog 135 #[.string s,.int .i64 k] w fun e w'=>e=.returned (tokV (zBC s k))∧Below w.heap.size w w':=by
 have hl:k<s.data.toList.length:=by simpa using hk
 have hb:zCz s.data.toList k=s[k]:=by rw[zDi _ _ hl];exact zDy s k hk _
 cases hL:isL s[k]
 ·cases hD:isD s[k]
  ·by_cases hg:zFC (s.data.toList.drop k)=0
   ·have e1:zBC s k=⟨0,0,ByteArray.empty⟩:=by unfold zBC zCD;rw[hb,hL,hD,hg];rfl
    rw[e1];exact zOe s k hk hs w hL hD hg
   ·have e1:zBC s k=⟨3,k,s.extract k (k+zFC (s.data.toList.drop k))⟩:=by
     unfold zBC zCD zCL;rw[hb,hL,hD];simp[hg]
    rw[e1];exact zOd s k _ hk hs w hL hD rfl (by omega)
  ·have e1:zBC s k=⟨2,k,s.extract k (zBA isD s.data.toList k)⟩:=by
    unfold zBC zCD zCL;rw[hb,hL,hD];simp
   rw[e1];exact zNT s k hk hs w hL hD
 ·have e1:zBC s k=⟨1,k,s.extract k (zBA isW s.data.toList k)⟩:=by
   unfold zBC zCD zCL;rw[hb,hL];simp
  rw[e1];exact zLM s k hk hs w hL
theorem Tryz.infoTok:(Tryz.prog.info? 161).map (fun i=>(i.zero,i.size,i.bytes))=some (some (.agg #[.int .i64 0,.int .i64 0,.string ByteArray.empty]),3,32):=by kernel_rfl
def zBZ (t:Tok):List Value:=[.int .i64 t.kind,.int .i64 t.place,.string t.text]
def zBX (l:List Tok):List Value:=l.flatMap zBZ
theorem zAB {w w':World} {base:Nat} {e:TypeId} {size:Nat} {v:Value} {n:Nat} {xs:List Value} (h:w.ownsRow base e size v n xs) (hb:Below w.heap.size w w'):w'.ownsRow base e size v n xs:=by
 refine⟨h.1,?_⟩;rcases h.2 with hn | ⟨g,cap,cur,hv,hg,hh,r⟩
 ·exact .inl hn
 ·exact .inr ⟨g,cap,cur,hv,hg,by rw[hb.block g (Array.getElem?_eq_some_iff.1 hh).1];exact hh,r⟩
theorem zNU (w:World) (t:Tok):∀(j:Nat) (u:Value),(zBZ t)[j]? = some u →
 (w.alloc (.cells #[.int .i64 t.kind,.int .i64 t.place,.string t.text] 161)).cell? ((⟨w.heap.size,0,none⟩:Addr).add j)=some u:=by
 intro j u hj
 match j,hj with
 | 0,hj=>simp[zBZ] at hj;subst hj;simp[Addr.add]
 | 1,hj=>simp[zBZ] at hj;subst hj;simp[Addr.add]
 | 2,hj=>simp[zBZ] at hj;subst hj;simp[Addr.add]
theorem zLN (t:Tok):∀(u:Value),u∈zBZ t→u.oneCell'=true:=by
 intro u hu;simp only[zBZ,List.mem_cons,List.not_mem_nil,or_false] at hu;rcases hu with rfl | rfl | rfl <;> rfl
theorem zIX (s:ByteArray) (j:Nat):(zBC s j).text.size≤s.size:=by
 unfold zBC
 split
 ·simp
 ·show (s.extract _ _).size≤_
  rw[ByteArray.size_extract];omega
theorem zQS (s:ByteArray) (hs:s.size≤4000) (w:World) :
 Calls Tryz.prog 74 #[.string s] w fun e w'=>∃v,e=.returned (.tuple #[v,.int .i64 (zAv s).2.1,.int .i64 (zAv s).2.2]) ∧
  w'.ownsRow w.heap.size 161 3 v (zAv s).1.length (zBX (zAv s).1)∧Below w.heap.size w w':=by
 have HS:Hid (s.size≤maxLen):=by show s.size≤maxLen;unfold maxLen;omega
 obtain⟨i0,hi,hz0,hz1,hz2⟩:=info_parts Tryz.infoTok;obtain⟨R,hR⟩:∃R,R=zAv s:=⟨_,rfl⟩;rw[←hR];have HR:Hid (R=zEI (s.size+1) s 0 []):=by rw[hR];unfold zAv;rw[if_neg (by omega)];rfl
 clear hR;have h0:=zHB false s.data.toList 0 (Nat.zero_le _);go_enter Tryz.func74,Tryz.ntmps74
 go_wp2_with fail
 refine (zMe s 0 (Nat.zero_le _) HS.out _).mono ?_;rintro e w ⟨rfl,rfl⟩;go_wp2_with fail
 go_loopw [5,6] (fun v i wr=>∃(k f j:Nat) (acc:List Tok),i=.int .i64 j∧Hid (zAU false s.data.toList k=j)∧Hid (R=zEI f s k acc)∧s.size<k+f∧k≤s.size∧j≤s.size∧k≤j∧acc.length≤k ∧
  wr.ownsRow w.heap.size 161 3 v acc.length (zBX acc)∧Below w.heap.size w wr) (fun _ i _=>s.size - (intOf i).toNat)
 case atStart=>exact⟨0,s.size+1,_,[],rfl,rfl,HR,by omega,by omega,by simpa using h0.2,h0.1,Nat.le_refl _,World.ownsRow_nil _ _ _ _,Below.refl _ _⟩
 case round =>
  obtain⟨k,f,j,acc,rfl,hj,hR,hf,hk,hjs,hkj,hacc,hown,hbw⟩:=hrel;by_cases hlt:j<s.size
  ·have hl:j<s.data.toList.length:=by simpa using hlt
   obtain⟨f,rfl⟩:∃f',f=f'+1:=⟨f - 1,by omega⟩
   obtain⟨t,ht⟩:∃t,t=zBC s j:=⟨_,rfl⟩;have HT:Hid (t=zBC s j):=ht;have htx:t.text.size≤s.size:=by rw[ht];exact zIX s j
   have HTS:Hid (t.text.size≤maxLen):=Nat.le_trans htx HS.out;have hsz:=hbw.size;clear ht;by_cases he:zC3 t.kind t.text=0
   ·have HR2:Hid (R=zEI f s (zCL s.data.toList j) (acc++[t])):=by rw[hR.out,HT.out];exact zDj f s k j acc hj.out hlt (by rw[←HT.out];exact he)
    have HER:Hid (zC3 t.kind t.text=0):=he;have hkd:zCD s.data.toList j≠0:=zEr s j (by rw[←HT.out];exact he)
    have hen:j<zCL s.data.toList j:=zJP _ j hl hkd;have hen2:zCL s.data.toList j≤s.size:=by simpa using (zG1 _ j hl).2
    have HTE:Hid (t.text.size=zCL s.data.toList j - j):=by
     rw[HT.out];unfold zBC;rw[if_neg hkd];exact zCo _ _ _ hen2
    clear he hkd;go_wp2_with fail
    refine (zMf s j hlt HS.out _).mono ?_;rintro e w1 ⟨rfl,hb1⟩;rw[←HT.out];unfold tokV;have hs1:=hb1.size;go_wp2_with fail
    refine (zJ1 _ _ _ HTS.out _).mono ?_;rintro e w2 ⟨rfl,hb2⟩;rw[HER.out];have hs2:w1.heap.size+1≤w2.heap.size:=by simpa using hb2.size
    have hc0:w2.cell? ⟨w1.heap.size,0,none⟩=some (.int .i64 t.kind):=(hb2.cell (by simp)).trans (by simp)
    have hc1:w2.cell? ⟨w1.heap.size,1,none⟩=some (.int .i64 t.place):=(hb2.cell (by simp)).trans (by simp)
    have hc2:w2.cell? ⟨w1.heap.size,2,none⟩=some (.string t.text):=(hb2.cell (by simp)).trans (by simp)
    have hown2:w2.ownsRow w.heap.size 161 3 u5 acc.length (zBX acc):=zAB ((zAB hown hb1).alloc _) hb2;go_wp2_with (at_builtin;refine wpList_append_own _ rfl _ _ 86 rfl w.heap.size 161 i0 (.agg #[.int .i64 0,.int .i64 0,.string ByteArray.empty]) 3 32 Tryz.underlying86 hi hz0 hz1 hz2 rfl (by decide) _ _ _ rfl (hown2.alloc _) ⟨w2.heap.size,0,none⟩ 1 1 (zBZ t) rfl rfl ?c1 ?c2 ?c3 ?c4 ?c5 ?_)
    case c1=>exact zNU w2 t
    case c2=>exact zLN t
    case c3=>unfold maxLen;omega
    case c4=>omega
    case c5=>simp;omega
    intro v3 w3 hown3 hgrow _;have hc3:w3.cell? ⟨w1.heap.size,2,none⟩=some (.string t.text):=hgrow.cell ((World.cell?_alloc_past _ _ _ (by omega)).trans hc2) (by intro h;have hq:=(hown.lt _ h.symm).2;simp only at hq;omega)
    have hb3:Below w.heap.size w w3:=((((hbw.trans (hb1.mono hsz)).alloc (by omega) _).trans (hb2.mono (by simp;omega))).alloc (by omega) _).grown hgrow (by simp;omega) (fun b h=>(hown.lt _ h).1)
    have hown4:w3.ownsRow w.heap.size 161 3 v3 (acc++[t]).length (zBX (acc++[t])):=by
     have e1:zBX (acc++[t])=zBX acc++zBZ t:=by simp[zBX]
     rw[e1,List.length_append];exact hown3
    clear hown3 hgrow hown2 hc0 hc1 hc2 hb2 hb1 hown hbw hs1 hs2 hsz;have hjt:(j:Int)+(t.text.size:Int)=((zCL s.data.toList j:Nat):Int):=by rw[HTE.out];omega
    have HJT:Hid ((j:Int)+(t.text.size:Int)=((zCL s.data.toList j:Nat):Int)):=hjt;clear hjt;go_wp2_with fail
    rw[HJT.out];refine (zMe s (zCL s.data.toList j) hen2 HS.out _).mono ?_;rintro e w3 ⟨rfl,rfl⟩;have h5:=zHB false s.data.toList (zCL s.data.toList j) (by simpa using hen2)
    have h51:=h5.1;have h52:zAU false s.data.toList (zCL s.data.toList j)≤s.size:=by simpa using h5.2
    clear h5;go_wp2
    go_roundw
    case rel=>exact⟨zCL s.data.toList j,f,_,acc++[t],rfl,rfl,HR2,by omega,hen2,h52,h51,by simp;omega,hown4,hb3⟩
    case measure=>simp[intOf];omega
   ·have HR2:Hid (R=([],j,zC3 t.kind t.text)):=by rw[hR.out,HT.out];exact zFZ f s k j acc hj.out hlt (by rw[←HT.out];exact he)
    have he':(zC3 t.kind t.text != 0)=true:=by simpa using he
    clear he;obtain⟨er,HER⟩:∃er,Hid (zC3 t.kind t.text=er):=⟨_,rfl⟩;rw[HER.out] at HR2 he';go_wp2_with fail
    refine (zMf s j hlt HS.out _).mono ?_;rintro e w1 ⟨rfl,hb1⟩;rw[←HT.out];unfold tokV;have hs1:=hb1.size;go_wp2_with fail
    refine (zJ1 _ _ _ HTS.out _).mono ?_;rintro e w2 ⟨rfl,hb2⟩;rw[HER.out];go_wp2
    go_ret3
    rw[HR2.out];exact⟨_,rfl,World.ownsRow_nil _ _ _ _,((hbw.trans (hb1.mono hsz)).alloc (by omega) _).trans (hb2.mono (by simp;omega))⟩
  ·have HR2:Hid (R=(acc,0,0)):=by rw[hR.out];exact zEQ f s k acc (by rw[hj.out];exact hlt)
   go_wp2
   go_ret3
   rw[HR2.out];exact⟨_,rfl,hown,hbw⟩
end Go.Proofs.YtndcpnlaadikoaaGreatDoor
