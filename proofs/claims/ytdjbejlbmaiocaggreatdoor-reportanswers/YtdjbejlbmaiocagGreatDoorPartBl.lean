/- What the proof leans on, part 38. -/
import Derived.Test.YtdjbejlbmaiocagGreatDoorPartAb
set_option maxRecDepth 100000
set_option maxHeartbeats 1600000
namespace Go.Proofs.YtdjbejlbmaiocagGreatDoor
open Go.RowKit
theorem zKe {v:Value} {k:IntKind} {a b:Int} (h:a=b):Ending.returned (.tuple #[v,.int k a])=.returned (.tuple #[v,.int k b]):=by rw[h]
theorem zA3 (n a b:Int) (w:World) :
 Calls Tryz.prog 44 #[.int .i64 n,.int .i64 a,.int .i64 b] w fun e w'=>e=.returned (.bool (decide (a≤n)&&decide (n≤b)))∧w'=w:=by
 go_enter Tryz.func44,Tryz.ntmps44
 go_wp2
 ·go_ret;exact⟨zAC (by simp[*]),rfl⟩
 ·go_ret;exact⟨zAC (by rw[decide_eq_false (p:=a≤n) (by omega)];rfl),rfl⟩
theorem zCo (c:UInt8) (w:World) :
 Calls Tryz.prog 163 #[.int .u8 c.toNat] w fun e w'=>e=.returned (.bool (isL c))∧w'=w:=by
 have hc:c.toNat<256:=c.toNat_lt;unfold isL;go_enter Tryz.func163,Tryz.ntmps163
 go_wp2_with fail
 refine (zA3 _ _ _ _).mono ?_;rintro e w ⟨rfl,rfl⟩;go_wp2
 go_ret
 exact⟨zAC (by simp),rfl⟩
theorem zBY (c:UInt8) (w:World) :
 Calls Tryz.prog 114 #[.int .u8 c.toNat] w fun e w'=>e=.returned (.bool (isD c))∧w'=w:=by
 have hc:c.toNat<256:=c.toNat_lt;unfold isD;go_enter Tryz.func114,Tryz.ntmps114
 go_wp2_with fail
 refine (zA3 _ _ _ _).mono ?_;rintro e w ⟨rfl,rfl⟩;go_wp2
 go_ret
 exact⟨zAC (by simp),rfl⟩
theorem zRD (s:ByteArray) (k:Nat) (hk:k<s.size) (hs:s.size≤maxLen) (w:World) (hL:isL s[k]=true) :
 Calls Tryz.prog 113 #[.string s,.int .i64 k] w fun e w'=>e=.returned (.tuple #[.int .i64 1,.int .i64 (zAq isW s.data.toList k - k:Nat)])∧w'=w:=by
 unfold maxLen at hs;have hl:k<s.data.toList.length:=by simpa using hk
 have hgo:Hid (zAq isW s.data.toList (k+1)=zAq isW s.data.toList k):=(zDV isW _ k hl (by rw[zBT s k hk hl];simp[isW,hL])).symm
 have HL:Hid (isL s[k]=true):=hL;clear hL;go_enter Tryz.func113,Tryz.ntmps113
 go_wp2_with fail
 refine (zCo _ _).mono ?_;rintro e w ⟨rfl,rfl⟩;rw[HL.out];go_wp2_with fail
 go_loop [7] (fun i=>∃m:Nat,1≤m∧k+m≤s.size∧i=.int .i64 m∧Hid (zAq isW s.data.toList (k+m)=zAq isW s.data.toList k)) (fun i=>s.size - k - (intOf i).toNat)
 case atStart=>exact⟨1,by omega,by omega,rfl,hgo⟩
 case round =>
  obtain⟨m,hm1,hm,rfl,hr⟩:=hrel;have hto:((k:Int)+(m:Int)).toNat=k+m:=by omega
  by_cases hlt:k+m<s.size
  ·have hl2:k+m<s.data.toList.length:=by simpa using hlt
   have hget:=zBT s (k+m) hlt hl2;cases hp:isL s[k+m]
   ·cases hq:isD s[k+m]
    ·have HE:Hid (zAq isW s.data.toList (k+m)=k+m):=zB0 isW _ _ (fun h=>by rw[hget];simp[isW,hp,hq])
     have HP:Hid (isL s[k+m]=false):=hp;have HQ:Hid (isD s[k+m]=false):=hq;clear hp hq hget;go_wp2_with fail
     refine (zCo _ _).mono ?_;rintro e w ⟨rfl,rfl⟩;rw[HP.out];go_wp2_with fail
     refine (zBY _ _).mono ?_;rintro e w ⟨rfl,rfl⟩;rw[HQ.out];go_wp2
     go_ret2
     exact⟨zKe (by rw[←hr.out,HE.out,Nat.add_sub_cancel_left]),rfl⟩
    ·have HE:Hid (zAq isW s.data.toList (k+m)=zAq isW s.data.toList (k+m+1)):=zDV isW _ _ hl2 (by rw[hget];simp[isW,hq])
     have HP:Hid (isL s[k+m]=false):=hp;have HQ:Hid (isD s[k+m]=true):=hq;clear hp hq hget;go_wp2_with fail
     refine (zCo _ _).mono ?_;rintro e w ⟨rfl,rfl⟩;rw[HP.out];go_wp2_with fail
     refine (zBY _ _).mono ?_;rintro e w ⟨rfl,rfl⟩;rw[HQ.out];go_wp2
     go_round
     case rel=>exact⟨m+1,by omega,by omega,by go_num,HE.out▸hr.out⟩
     case measure=>simp[intOf];omega
   ·have HE:Hid (zAq isW s.data.toList (k+m)=zAq isW s.data.toList (k+m+1)):=zDV isW _ _ hl2 (by rw[hget];simp[isW,hp])
    have HP:Hid (isL s[k+m]=true):=hp;clear hp hget;go_wp2_with fail
    refine (zCo _ _).mono ?_;rintro e w ⟨rfl,rfl⟩;rw[HP.out];go_wp2
    go_round
    case rel=>exact⟨m+1,by omega,by omega,by go_num,HE.out▸hr.out⟩
    case measure=>simp[intOf];omega
  ·have HE:Hid (zAq isW s.data.toList (k+m)=k+m):=zB0 isW _ _ (fun h=>by simp at h;omega)
   go_wp2
   go_ret2
   exact⟨zKe (by rw[←hr.out,HE.out,Nat.add_sub_cancel_left]),rfl⟩
theorem zSn (s:ByteArray) (k:Nat) (hk:k<s.size) (hs:s.size≤maxLen) (w:World) (hL:isL s[k]=false) (hD:isD s[k]=true) :
 Calls Tryz.prog 113 #[.string s,.int .i64 k] w fun e w'=>e=.returned (.tuple #[.int .i64 2,.int .i64 (zAq isD s.data.toList k - k:Nat)])∧w'=w:=by
 unfold maxLen at hs;have hl:k<s.data.toList.length:=by simpa using hk
 have hgo:Hid (zAq isD s.data.toList (k+1)=zAq isD s.data.toList k):=(zDV isD _ k hl (by rw[zBT s k hk hl];exact hD)).symm
 have HL:Hid (isL s[k]=false):=hL;have HD:Hid (isD s[k]=true):=hD;clear hL hD;go_enter Tryz.func113,Tryz.ntmps113
 go_wp2_with fail
 refine (zCo _ _).mono ?_;rintro e w ⟨rfl,rfl⟩;rw[HL.out];go_wp2_with fail
 refine (zBY _ _).mono ?_;rintro e w ⟨rfl,rfl⟩;rw[HD.out];go_wp2_with fail
 go_loop [7] (fun i=>∃m:Nat,1≤m∧k+m≤s.size∧i=.int .i64 m∧Hid (zAq isD s.data.toList (k+m)=zAq isD s.data.toList k)) (fun i=>s.size - k - (intOf i).toNat)
 case atStart=>exact⟨1,by omega,by omega,rfl,hgo⟩
 case round =>
  obtain⟨m,hm1,hm,rfl,hr⟩:=hrel;have hto:((k:Int)+(m:Int)).toNat=k+m:=by omega
  by_cases hlt:k+m<s.size
  ·have hl2:k+m<s.data.toList.length:=by simpa using hlt
   have hget:=zBT s (k+m) hlt hl2;cases hp:isD s[k+m]
   ·have HE:Hid (zAq isD s.data.toList (k+m)=k+m):=zB0 isD _ _ (fun h=>by rw[hget];exact hp)
    have HP:Hid (isD s[k+m]=false):=hp;clear hp hget;go_wp2_with fail
    refine (zBY _ _).mono ?_;rintro e w ⟨rfl,rfl⟩;rw[HP.out];go_wp2
    go_ret2
    exact⟨zKe (by rw[←hr.out,HE.out,Nat.add_sub_cancel_left]),rfl⟩
   ·have HE:Hid (zAq isD s.data.toList (k+m)=zAq isD s.data.toList (k+m+1)):=zDV isD _ _ hl2 (by rw[hget];exact hp)
    have HP:Hid (isD s[k+m]=true):=hp;clear hp hget;go_wp2_with fail
    refine (zBY _ _).mono ?_;rintro e w ⟨rfl,rfl⟩;rw[HP.out];go_wp2
    go_round
    case rel=>exact⟨m+1,by omega,by omega,by go_num,HE.out▸hr.out⟩
    case measure=>simp[intOf];omega
  ·have HE:Hid (zAq isD s.data.toList (k+m)=k+m):=zB0 isD _ _ (fun h=>by simp at h;omega)
   go_wp2
   go_ret2
   exact⟨zKe (by rw[←hr.out,HE.out,Nat.add_sub_cancel_left]),rfl⟩
theorem zJ9 (s:ByteArray) (k:Nat):(s.extract k (k+2)).toList=(s.data.toList.drop k).take 2:=by
 rw[ByteArray.toList_eq,ByteArray.data_extract,Array.toList_extract,List.extract_eq_take_drop,Nat.add_sub_cancel_left]
theorem zSo (s:ByteArray) (k:Nat) (hk:k<s.size) (hs:s.size≤maxLen) (w:World) (hL:isL s[k]=false) (hD:isD s[k]=false) (h2:zHZ (s.data.toList.drop k)=true) :
 Calls Tryz.prog 113 #[.string s,.int .i64 k] w fun e w'=>e=.returned (.tuple #[.int .i64 3,.int .i64 2])∧w'=w:=by
 unfold maxLen at hs;have hk2:k+2≤s.size:=by have:=zHn _ h2;simp at this;omega
 have hx:=zJ9 s k;have HL:Hid (isL s[k]=false):=hL;have HD:Hid (isD s[k]=false):=hD;have HX:Hid (((s.extract k (k+2)).toList==[46,46])=true∨((s.extract k (k+2)).toList==[60,61])=true∨((s.extract k (k+2)).toList==[62,61])=true∨((s.extract k (k+2)).toList==[61,61])=true∨((s.extract k (k+2)).toList==[33,61])=true):=by
  rw[hx];show _∨_;simpa only[zHZ,Bool.or_eq_true] using h2
 clear hL hD h2 hx;go_enter Tryz.func113,Tryz.ntmps113
 go_wp2_with fail
 refine (zCo _ _).mono ?_;rintro e w ⟨rfl,rfl⟩;rw[HL.out];go_wp2_with fail
 refine (zBY _ _).mono ?_;rintro e w ⟨rfl,rfl⟩;rw[HD.out];rcases HX.out with h | h | h | h | h
 all_goals
  go_wp2
  all_goals (go_ret2;exact⟨rfl,rfl⟩)
theorem zFj (c:UInt8) (n:Int) (h:(n==(c.toNat:Int))=true) (hn:n=91∨n=93∨n=59∨n=58∨n=44∨n=45):zE6 c=true:=by
 have h':n=(c.toNat:Int):=by simpa using h
 unfold zE6;rw[←h'];rcases hn with rfl | rfl | rfl | rfl | rfl | rfl <;> decide
def zEP (m:Nat) (c:UInt8):Prop :=
 (0<m→((c.toNat:Int)==91)=false)∧(1<m→((c.toNat:Int)==93)=false)∧(2<m→((c.toNat:Int)==59)=false)∧(3<m→((c.toNat:Int)==58)=false)∧(4<m→((c.toNat:Int)==44)=false)∧(5<m→((c.toNat:Int)==45)=false)
theorem zTk (c:UInt8) (_h:zEP 0 c) (hq:((c.toNat:Int)==91)=false):zEP 1 c:=⟨fun _=>hq,fun h'=>by omega,fun h'=>by omega,fun h'=>by omega,fun h'=>by omega,fun h'=>by omega⟩
theorem zTl (c:UInt8) (h:zEP 1 c) (hq:((c.toNat:Int)==93)=false):zEP 2 c:=⟨fun _=>h.1 (by omega),fun _=>hq,fun h'=>by omega,fun h'=>by omega,fun h'=>by omega,fun h'=>by omega⟩
theorem zTm (c:UInt8) (h:zEP 2 c) (hq:((c.toNat:Int)==59)=false):zEP 3 c:=⟨fun _=>h.1 (by omega),fun _=>h.2.1 (by omega),fun _=>hq,fun h'=>by omega,fun h'=>by omega,fun h'=>by omega⟩
theorem zTn (c:UInt8) (h:zEP 3 c) (hq:((c.toNat:Int)==58)=false):zEP 4 c:=⟨fun _=>h.1 (by omega),fun _=>h.2.1 (by omega),fun _=>h.2.2.1 (by omega),fun _=>hq,fun h'=>by omega,fun h'=>by omega⟩
theorem zTo (c:UInt8) (h:zEP 4 c) (hq:((c.toNat:Int)==44)=false):zEP 5 c:=⟨fun _=>h.1 (by omega),fun _=>h.2.1 (by omega),fun _=>h.2.2.1 (by omega),fun _=>h.2.2.2.1 (by omega),fun _=>hq,fun h'=>by omega⟩
theorem zTp (c:UInt8) (h:zEP 5 c) (hq:((c.toNat:Int)==45)=false):zEP 6 c:=⟨fun _=>h.1 (by omega),fun _=>h.2.1 (by omega),fun _=>h.2.2.1 (by omega),fun _=>h.2.2.2.1 (by omega),fun _=>h.2.2.2.2.1 (by omega),fun _=>hq⟩
theorem zRE (c:UInt8) (h:zEP 6 c):zE6 c=false:=by
 obtain⟨g1,g2,g3,g4,g5,g6⟩:=h;unfold zE6;rw[g1 (by omega),g2 (by omega),g3 (by omega),g4 (by omega),g5 (by omega),g6 (by omega)];rfl
theorem zSp (s:ByteArray) (k:Nat) (hk:k<s.size) (hs:s.size≤maxLen) (w:World) (hL:isL s[k]=false) (hD:isD s[k]=false) (h2:zHZ (s.data.toList.drop k)=false) :
 Calls Tryz.prog 113 #[.string s,.int .i64 k] w fun e w'=>e=.returned (.tuple #[.int .i64 (if zE6 s[k] then 3 else 0),.int .i64 (if zE6 s[k] then 1 else 0)])∧w'=w:=by
 unfold maxLen at hs;have hx:=zJ9 s k;have HL:Hid (isL s[k]=false):=hL;have HD:Hid (isD s[k]=false):=hD;have hx5:((s.extract k (k+2)).toList==[46,46])=false∧((s.extract k (k+2)).toList==[60,61])=false∧((s.extract k (k+2)).toList==[62,61])=false∧((s.extract k (k+2)).toList==[61,61])=false∧((s.extract k (k+2)).toList==[33,61])=false:=by
  rw[hx];simpa only[zHZ,Bool.or_eq_false_iff] using h2
 obtain⟨x1,x2,x3,x4,x5⟩:=hx5;clear hL hD h2 hx;obtain⟨r1,hr1⟩:∃r:Int,(if zE6 s[k] then 3 else 0)=r:=⟨_,rfl⟩
 obtain⟨r2,hr2⟩:∃r:Int,(if zE6 s[k] then 1 else 0)=r:=⟨_,rfl⟩
 have HR1:Hid (((if zE6 s[k] then 3 else 0):Int)=r1∧((if zE6 s[k] then 1 else 0):Int)=r2):=⟨hr1,hr2⟩
 rw[hr1,hr2];clear hr1 hr2;go_enter Tryz.func113,Tryz.ntmps113
 go_wp2_with fail
 refine (zCo _ _).mono ?_;rintro e w ⟨rfl,rfl⟩;rw[HL.out];go_wp2_with fail
 refine (zBY _ _).mono ?_;rintro e w ⟨rfl,rfl⟩;rw[HD.out];by_cases hk2:k+2≤s.size
 all_goals
  go_wp2_with fail
  clear x1 x2 x3 x4 x5;go_loop [10] (fun i=>∃(m:Nat) (z:Int),m≤6∧z=m∧i=.int .i64 z∧zEP m s[k]) (fun i=>6 - (intOf i).toNat)
  case atStart=>exact⟨0,0,by omega,rfl,rfl,by refine⟨?_,?_,?_,?_,?_,?_⟩ <;> (intro h;omega)⟩
  case round =>
   obtain⟨m,z,hm,hz,rfl,hns⟩:=hrel;rcases (show m=0∨m=1∨m=2∨m=3∨m=4∨m=5∨m=6 by omega) with rfl | rfl | rfl | rfl | rfl | rfl | rfl
   ·obtain rfl:z=0:=by omega
    clear hz hm;cases hq0:((((⟨#[91,93,59,58,44,45]⟩:ByteArray)[0]'(by decide)).toNat:Int)==(s[k].toNat:Int))
    ·have hq:((91:Int)==(s[k].toNat:Int))=false:=hq0
     go_wp2
     go_round
     case rel=>exact⟨1,1,by omega,rfl,by go_num,zTk _ hns (by rw[←hq];exact BEq.comm)⟩
     case measure=>simp[intOf]
    ·have hq:((91:Int)==(s[k].toNat:Int))=true:=hq0
     have HY:Hid (r1=3∧r2=1):=by rw[←HR1.out.1,←HR1.out.2];rw[zFj _ _ hq (by omega)];exact⟨rfl,rfl⟩
     obtain⟨rfl,rfl⟩:=HY.out;go_wp2
     go_ret2
     exact⟨rfl,rfl⟩
   ·obtain rfl:z=1:=by omega
    clear hz hm;cases hq0:((((⟨#[91,93,59,58,44,45]⟩:ByteArray)[1]'(by decide)).toNat:Int)==(s[k].toNat:Int))
    ·have hq:((93:Int)==(s[k].toNat:Int))=false:=hq0
     go_wp2
     go_round
     case rel=>exact⟨2,2,by omega,rfl,by go_num,zTl _ hns (by rw[←hq];exact BEq.comm)⟩
     case measure=>simp[intOf]
    ·have hq:((93:Int)==(s[k].toNat:Int))=true:=hq0
     have HY:Hid (r1=3∧r2=1):=by rw[←HR1.out.1,←HR1.out.2];rw[zFj _ _ hq (by omega)];exact⟨rfl,rfl⟩
     obtain⟨rfl,rfl⟩:=HY.out;go_wp2
     go_ret2
     exact⟨rfl,rfl⟩
   ·obtain rfl:z=2:=by omega
    clear hz hm;cases hq0:((((⟨#[91,93,59,58,44,45]⟩:ByteArray)[2]'(by decide)).toNat:Int)==(s[k].toNat:Int))
    ·have hq:((59:Int)==(s[k].toNat:Int))=false:=hq0
     go_wp2
     go_round
     case rel=>exact⟨3,3,by omega,rfl,by go_num,zTm _ hns (by rw[←hq];exact BEq.comm)⟩
     case measure=>simp[intOf]
    ·have hq:((59:Int)==(s[k].toNat:Int))=true:=hq0
     have HY:Hid (r1=3∧r2=1):=by rw[←HR1.out.1,←HR1.out.2];rw[zFj _ _ hq (by omega)];exact⟨rfl,rfl⟩
     obtain⟨rfl,rfl⟩:=HY.out;go_wp2
     go_ret2
     exact⟨rfl,rfl⟩
   ·obtain rfl:z=3:=by omega
    clear hz hm;cases hq0:((((⟨#[91,93,59,58,44,45]⟩:ByteArray)[3]'(by decide)).toNat:Int)==(s[k].toNat:Int))
    ·have hq:((58:Int)==(s[k].toNat:Int))=false:=hq0
     go_wp2
     go_round
     case rel=>exact⟨4,4,by omega,rfl,by go_num,zTn _ hns (by rw[←hq];exact BEq.comm)⟩
     case measure=>simp[intOf]
    ·have hq:((58:Int)==(s[k].toNat:Int))=true:=hq0
     have HY:Hid (r1=3∧r2=1):=by rw[←HR1.out.1,←HR1.out.2];rw[zFj _ _ hq (by omega)];exact⟨rfl,rfl⟩
     obtain⟨rfl,rfl⟩:=HY.out;go_wp2
     go_ret2
     exact⟨rfl,rfl⟩
   ·obtain rfl:z=4:=by omega
    clear hz hm;cases hq0:((((⟨#[91,93,59,58,44,45]⟩:ByteArray)[4]'(by decide)).toNat:Int)==(s[k].toNat:Int))
    ·have hq:((44:Int)==(s[k].toNat:Int))=false:=hq0
     go_wp2
     go_round
     case rel=>exact⟨5,5,by omega,rfl,by go_num,zTo _ hns (by rw[←hq];exact BEq.comm)⟩
     case measure=>simp[intOf]
    ·have hq:((44:Int)==(s[k].toNat:Int))=true:=hq0
     have HY:Hid (r1=3∧r2=1):=by rw[←HR1.out.1,←HR1.out.2];rw[zFj _ _ hq (by omega)];exact⟨rfl,rfl⟩
     obtain⟨rfl,rfl⟩:=HY.out;go_wp2
     go_ret2
     exact⟨rfl,rfl⟩
   ·obtain rfl:z=5:=by omega
    clear hz hm;cases hq0:((((⟨#[91,93,59,58,44,45]⟩:ByteArray)[5]'(by decide)).toNat:Int)==(s[k].toNat:Int))
    ·have hq:((45:Int)==(s[k].toNat:Int))=false:=hq0
     go_wp2
     go_round
     case rel=>exact⟨6,6,by omega,rfl,by go_num,zTp _ hns (by rw[←hq];exact BEq.comm)⟩
     case measure=>simp[intOf]
    ·have hq:((45:Int)==(s[k].toNat:Int))=true:=hq0
     have HY:Hid (r1=3∧r2=1):=by rw[←HR1.out.1,←HR1.out.2];rw[zFj _ _ hq (by omega)];exact⟨rfl,rfl⟩
     obtain⟨rfl,rfl⟩:=HY.out;go_wp2
     go_ret2
     exact⟨rfl,rfl⟩
   ·obtain rfl:z=6:=by omega
    clear hz hm;have HY:Hid (r1=0∧r2=0):=by rw[←HR1.out.1,←HR1.out.2];rw[zRE _ hns];exact⟨rfl,rfl⟩
    obtain⟨rfl,rfl⟩:=HY.out;go_wp2
    go_ret2
    exact⟨rfl,rfl⟩
theorem zDk (s:ByteArray) (k:Nat) (hk:k<s.size) (hs:s.size≤maxLen) (w:World) :
 Calls Tryz.prog 113 #[.string s,.int .i64 k] w fun e w'=>e=.returned (.tuple #[.int .i64 (zAo s.data.toList k),.int .i64 (zA8 s.data.toList k - k:Nat)])∧w'=w:=by
 have hl:k<s.data.toList.length:=by simpa using hk
 have hb:zBh s.data.toList k=s[k]:=by rw[zCM _ _ hl];exact zBT s k hk _
 have hb0:zBh (s.data.toList.drop k) 0=s[k]:=by rw[←hb];unfold zBh;simp
 cases hL:isL s[k]
 ·cases hD:isD s[k]
  ·cases h2:zHZ (s.data.toList.drop k)
   ·have e1:((zAo s.data.toList k:Nat):Int)=(if zE6 s[k] then 3 else 0):=by unfold zAo zEp;rw[hb,hb0,hL,hD,h2];cases zE6 s[k] <;> rfl
    have e2:((zA8 s.data.toList k - k:Nat):Int)=(if zE6 s[k] then 1 else 0):=by unfold zA8 zEp;rw[hb,hb0,hL,hD,h2];cases zE6 s[k] <;> simp
    rw[e1,e2];exact zSp s k hk hs w hL hD h2
   ·have e1:((zAo s.data.toList k:Nat):Int)=3:=by unfold zAo zEp;rw[hb,hL,hD,h2];rfl
    have e2:((zA8 s.data.toList k - k:Nat):Int)=2:=by unfold zA8 zEp;rw[hb,hL,hD,h2];simp
    rw[e1,e2];exact zSo s k hk hs w hL hD h2
  ·have e1:((zAo s.data.toList k:Nat):Int)=2:=by unfold zAo;rw[hb,hL,hD];rfl
   have e2:zA8 s.data.toList k=zAq isD s.data.toList k:=by unfold zA8;rw[hb,hL,hD];rfl
   rw[e1,e2];exact zSn s k hk hs w hL hD
 ·have e1:((zAo s.data.toList k:Nat):Int)=1:=by unfold zAo;rw[hb,hL];rfl
  have e2:zA8 s.data.toList k=zAq isW s.data.toList k:=by unfold zA8;rw[hb,hL];rfl
  rw[e1,e2];exact zRD s k hk hs w hL
theorem zRF (s:ByteArray) (hs:s.size≤4000) (w:World) :
 Calls Tryz.prog 57 #[.string s] w fun e w'=>∃v,e=.returned (.tuple #[v,.int .i64 (zAO s).2.1,.int .i64 (zAO s).2.2]) ∧
  w'.ownsRow w.heap.size 158 3 v (zAO s).1.length (zAr (zAO s).1)∧Below w.heap.size w w':=by
 have HS:Hid (s.size≤maxLen):=by show s.size≤maxLen;unfold maxLen;omega
 obtain⟨i0,hi,hz0,hz1,hz2⟩:=info_parts Tryz.infoTok;obtain⟨R,hR⟩:∃R,R=zAO s:=⟨_,rfl⟩;rw[←hR];have HR:Hid (R=zDE (s.size+1) s 0 []):=by rw[hR];unfold zAO;rw[if_neg (by omega)];rfl
 clear hR;go_enter Tryz.func57,Tryz.ntmps57
 go_wp2_with fail
 go_loopw [5,6,7] (fun v b i wr=>∃(k f j:Nat) (note:Bool) (acc:List Tok),b=.bool note∧i=.int .i64 j∧Hid (zAS note s.data.toList j=zAS false s.data.toList k)∧Hid (R=zDE f s k acc)∧s.size<k+f∧k≤s.size∧j≤s.size∧k≤j∧acc.length≤k ∧
  wr.ownsRow w.heap.size 158 3 v acc.length (zAr acc)∧Below w.heap.size w wr) (fun _ _ i _=>s.size - (intOf i).toNat)
 case atStart=>exact⟨0,s.size+1,0,false,[],rfl,rfl,rfl,HR,by omega,by omega,by omega,by omega,Nat.le_refl _,World.ownsRow_nil _ _ _ _,Below.refl _ _⟩
 case round =>
  obtain⟨k,f,j,note,acc,rfl,rfl,hj,hR,hf,hk,hjs,hkj,hacc,hown,hbw⟩:=hrel;by_cases hlt:j<s.size
  ·have hl:j<s.data.toList.length:=by simpa using hlt
   have hget:=zBT s j hlt hl;have HG:Hid (s.data.toList[j]=s[j]):=hget;clear hget;cases note
   ·cases h4:((s[j].toNat:Int)==37)
    ·cases hb:isB s[j]
     ·have h1:((s[j].toNat:Int)==32)=false:=by unfold isB at hb;simp only[Bool.or_eq_false_iff] at hb;exact hb.1
      have h2:((s[j].toNat:Int)==9)=false:=by unfold isB at hb;simp only[Bool.or_eq_false_iff] at hb;exact hb.2.1
      have h3:((s[j].toNat:Int)==10)=false:=by unfold isB at hb;simp only[Bool.or_eq_false_iff] at hb;exact hb.2.2
      have HJ:Hid (zAS false s.data.toList k=j):=by rw[←hj.out];exact zFy _ j hl (by rw[HG.out];exact hb) (by rw[HG.out];exact h4)
      clear hb hj;obtain⟨f,rfl⟩:∃f',f=f'+1:=⟨f - 1,by omega⟩
      have hle:=zFb _ j hl;have hle1:zA8 s.data.toList j≤s.size:=by simpa using hle.2
      obtain⟨n,hn⟩:∃n,zA8 s.data.toList j=j+n:=⟨zA8 s.data.toList j - j,by omega⟩
      have HN:Hid (((zA8 s.data.toList j - j:Nat):Int)=(n:Int)):=by show ((zA8 s.data.toList j - j:Nat):Int)=(n:Int);rw[hn,Nat.add_sub_cancel_left]
      have HN':Hid (zA8 s.data.toList j=j+n):=hn;have hnj:j+n≤s.size:=by omega
      have hpos:zAo s.data.toList j≠0→0<n:=fun h=>by have:=zGI _ j hl h;omega
      clear hle hn hle1;rcases zJK s.data.toList j with hkd | hkd | hkd | hkd
      ·have HR2:Hid (R=([],j,1)):=by
        rw[hR.out];have ht:zAj s j=⟨0,0,ByteArray.empty⟩:=by unfold zAj;rw[if_pos hkd]
        have he:zBE (zAj s j).kind (zAj s j).text=1:=by rw[ht];rfl
        rw[←he];exact zCz f s k j acc HJ.out hlt (by rw[he];decide)
       have HK:Hid (((zAo s.data.toList j:Nat):Int)=0):=by rw[hkd];rfl
       clear hkd hpos;go_wp2_with fail
       refine (zDk s j hlt HS.out _).mono ?_;rintro e wr ⟨rfl,rfl⟩;rw[HK.out,HN.out];go_wp2
       go_ret3
       rw[HR2.out];exact⟨_,rfl,World.ownsRow_nil _ _ _ _,hbw⟩
      ·have hn0:0<n:=hpos (by omega)
       clear hpos;by_cases h12:12<n
       ·have HR2:Hid (R=([],j,2)):=by
         rw[hR.out];have ht:=zDI s j n 1 hkd (by omega) HN'.out
         have he:zBE (zAj s j).kind (zAj s j).text=2:=by rw[ht];exact zKr _ (by rw[zAx _ _ _ hnj];omega)
         rw[←he];exact zCz f s k j acc HJ.out hlt (by rw[he];decide)
        have HK:Hid (((zAo s.data.toList j:Nat):Int)=1):=by rw[hkd];rfl
        clear hkd;go_wp2_with fail
        refine (zDk s j hlt HS.out _).mono ?_;rintro e wr ⟨rfl,rfl⟩;rw[HK.out,HN.out];go_wp2
        go_ret3
        rw[HR2.out];exact⟨_,rfl,World.ownsRow_nil _ _ _ _,hbw⟩
       ·have ht:=zDI s j n 1 hkd (by omega) HN'.out
        have he:zBE (zAj s j).kind (zAj s j).text=0:=by rw[ht];exact zPX _ (by rw[zAx _ _ _ hnj];omega)
        have HR2:Hid (R=zDE f s (j+n) (acc++[⟨1,j,s.extract j (j+n)⟩])):=by
         rw[hR.out,zB1 f s k j acc HJ.out hlt he,HN'.out,ht];rfl
        have HK:Hid (((zAo s.data.toList j:Nat):Int)=1):=by rw[hkd];rfl
        clear hkd ht he;go_wp2_with fail
        refine (zDk s j hlt HS.out _).mono ?_;rintro e wr ⟨rfl,rfl⟩;rw[HK.out,HN.out];go_wp2_with (at_builtin;refine wpList_append_own _ rfl _ _ 95 rfl w.heap.size 158 i0 (.agg #[.int .i64 0,.int .i64 0,.string ByteArray.empty]) 3 32 Tryz.underlying95 hi hz0 hz1 hz2 rfl (by decide) _ _ _ rfl (hown.alloc _) ⟨wr.heap.size,0,none⟩ 1 1 (zBH ⟨1,j,s.extract j (j+n)⟩) rfl rfl ?c1 ?c2 ?c3 ?c4 ?c5 ?_)
        case c1=>first | exact zEa wr ⟨1,j,s.extract j (j+n)⟩ | exact fun _ _ h=>h
        case c2=>exact zDz _
        case c3=>unfold maxLen;omega
        case c4=>omega
        case c5=>have:=hbw.size;simp;omega
        intro v3 w3 hown3 hgrow _;have hb3:Below w.heap.size w w3:=(hbw.alloc (by have:=hbw.size;omega) _).grown hgrow (by have:=hbw.size;simp;omega) (fun b h=>(hown.lt _ h).1)
        have hown4:w3.ownsRow w.heap.size 158 3 v3 (acc++([⟨1,j,s.extract j (j+n)⟩]:List Tok)).length (zAr (acc++[⟨1,j,s.extract j (j+n)⟩])):=by
         rw[zDW,List.length_append];exact hown3
        clear hown3 hgrow hown hbw;go_wp2
        go_roundw
        case rel=>exact⟨j+n,f,j+n,false,_,rfl,by go_num,rfl,HR2,by omega,hnj,hnj,Nat.le_refl _,by simp;omega,hown4,hb3⟩
        case measure=>simp[intOf];omega
      ·have hn0:0<n:=hpos (by omega)
       clear hpos;by_cases h4n:4<n
       ·have HR2:Hid (R=([],j,2)):=by
         rw[hR.out];have ht:=zDI s j n 2 hkd (by omega) HN'.out
         have he:zBE (zAj s j).kind (zAj s j).text=2:=by rw[ht];exact zKs _ (by rw[zAx _ _ _ hnj];omega)
         rw[←he];exact zCz f s k j acc HJ.out hlt (by rw[he];decide)
        have HK:Hid (((zAo s.data.toList j:Nat):Int)=2):=by rw[hkd];rfl
        clear hkd;go_wp2_with fail
        refine (zDk s j hlt HS.out _).mono ?_;rintro e wr ⟨rfl,rfl⟩;rw[HK.out,HN.out];go_wp2
        go_ret3
        rw[HR2.out];exact⟨_,rfl,World.ownsRow_nil _ _ _ _,hbw⟩
       ·by_cases h1n:1<n
        ·have hx0:0<(s.extract j (j+n)).size:=by rw[zAx _ _ _ hnj];omega
         have hbx:zBh (s.extract j (j+n)).data.toList 0=(s.extract j (j+n))[0]:=by rw[zCM _ _ (show 0<(s.extract j (j+n)).data.toList.length by rw[Array.length_toList];exact hx0)];exact zBT _ 0 hx0 _
         cases h0x:(((s.extract j (j+n))[0].toNat:Int)==48)
         ·have ht:=zDI s j n 2 hkd (by omega) HN'.out
          have he:zBE (zAj s j).kind (zAj s j).text=0:=by rw[ht];exact zKF _ (by rw[zAx _ _ _ hnj];omega) (fun h=>by rw[hbx];simpa using h0x)
          have HR2:Hid (R=zDE f s (j+n) (acc++[⟨2,j,s.extract j (j+n)⟩])):=by
           rw[hR.out,zB1 f s k j acc HJ.out hlt he,HN'.out,ht];rfl
          have HK:Hid (((zAo s.data.toList j:Nat):Int)=2):=by rw[hkd];rfl
          clear hkd ht he hbx;go_wp2_with fail
          refine (zDk s j hlt HS.out _).mono ?_;rintro e wr ⟨rfl,rfl⟩;rw[HK.out,HN.out];go_wp2_with (at_builtin;refine wpList_append_own _ rfl _ _ 95 rfl w.heap.size 158 i0 (.agg #[.int .i64 0,.int .i64 0,.string ByteArray.empty]) 3 32 Tryz.underlying95 hi hz0 hz1 hz2 rfl (by decide) _ _ _ rfl (hown.alloc _) ⟨wr.heap.size,0,none⟩ 1 1 (zBH ⟨2,j,s.extract j (j+n)⟩) rfl rfl ?c1 ?c2 ?c3 ?c4 ?c5 ?_)
          case c1=>first | exact zEa wr ⟨2,j,s.extract j (j+n)⟩ | exact fun _ _ h=>h
          case c2=>exact zDz _
          case c3=>unfold maxLen;omega
          case c4=>omega
          case c5=>have:=hbw.size;simp;omega
          intro v3 w3 hown3 hgrow _;have hb3:Below w.heap.size w w3:=(hbw.alloc (by have:=hbw.size;omega) _).grown hgrow (by have:=hbw.size;simp;omega) (fun b h=>(hown.lt _ h).1)
          have hown4:w3.ownsRow w.heap.size 158 3 v3 (acc++([⟨2,j,s.extract j (j+n)⟩]:List Tok)).length (zAr (acc++[⟨2,j,s.extract j (j+n)⟩])):=by
           rw[zDW,List.length_append];exact hown3
          clear hown3 hgrow hown hbw;go_wp2
          go_roundw
          case rel=>exact⟨j+n,f,j+n,false,_,rfl,by go_num,rfl,HR2,by omega,hnj,hnj,Nat.le_refl _,by simp;omega,hown4,hb3⟩
          case measure=>simp[intOf];omega
         ·have HR2:Hid (R=([],j,1)):=by
           rw[hR.out];have ht:=zDI s j n 2 hkd (by omega) HN'.out
           have he:zBE (zAj s j).kind (zAj s j).text=1:=by rw[ht];exact zHo _ (by rw[zAx _ _ _ hnj];omega) (by rw[zAx _ _ _ hnj];omega) (by rw[hbx];simpa using h0x)
           rw[←he];exact zCz f s k j acc HJ.out hlt (by rw[he];decide)
          have HK:Hid (((zAo s.data.toList j:Nat):Int)=2):=by rw[hkd];rfl
          clear hkd hbx;go_wp2_with fail
          refine (zDk s j hlt HS.out _).mono ?_;rintro e wr ⟨rfl,rfl⟩;rw[HK.out,HN.out];go_wp2
          go_ret3
          rw[HR2.out];exact⟨_,rfl,World.ownsRow_nil _ _ _ _,hbw⟩
        ·have ht:=zDI s j n 2 hkd (by omega) HN'.out
         have he:zBE (zAj s j).kind (zAj s j).text=0:=by rw[ht];exact zKF _ (by rw[zAx _ _ _ hnj];omega) (fun h=>by rw[zAx _ _ _ hnj] at h;omega)
         have HR2:Hid (R=zDE f s (j+n) (acc++[⟨2,j,s.extract j (j+n)⟩])):=by
          rw[hR.out,zB1 f s k j acc HJ.out hlt he,HN'.out,ht];rfl
         have HK:Hid (((zAo s.data.toList j:Nat):Int)=2):=by rw[hkd];rfl
         clear hkd ht he;go_wp2_with fail
         refine (zDk s j hlt HS.out _).mono ?_;rintro e wr ⟨rfl,rfl⟩;rw[HK.out,HN.out];go_wp2_with (at_builtin;refine wpList_append_own _ rfl _ _ 95 rfl w.heap.size 158 i0 (.agg #[.int .i64 0,.int .i64 0,.string ByteArray.empty]) 3 32 Tryz.underlying95 hi hz0 hz1 hz2 rfl (by decide) _ _ _ rfl (hown.alloc _) ⟨wr.heap.size,0,none⟩ 1 1 (zBH ⟨2,j,s.extract j (j+n)⟩) rfl rfl ?c1 ?c2 ?c3 ?c4 ?c5 ?_)
         case c1=>first | exact zEa wr ⟨2,j,s.extract j (j+n)⟩ | exact fun _ _ h=>h
         case c2=>exact zDz _
         case c3=>unfold maxLen;omega
         case c4=>omega
         case c5=>have:=hbw.size;simp;omega
         intro v3 w3 hown3 hgrow _;have hb3:Below w.heap.size w w3:=(hbw.alloc (by have:=hbw.size;omega) _).grown hgrow (by have:=hbw.size;simp;omega) (fun b h=>(hown.lt _ h).1)
         have hown4:w3.ownsRow w.heap.size 158 3 v3 (acc++([⟨2,j,s.extract j (j+n)⟩]:List Tok)).length (zAr (acc++[⟨2,j,s.extract j (j+n)⟩])):=by
          rw[zDW,List.length_append];exact hown3
         clear hown3 hgrow hown hbw;go_wp2
         go_roundw
         case rel=>exact⟨j+n,f,j+n,false,_,rfl,by go_num,rfl,HR2,by omega,hnj,hnj,Nat.le_refl _,by simp;omega,hown4,hb3⟩
         case measure=>simp[intOf];omega
      ·have hn0:0<n:=hpos (by omega)
       clear hpos;have ht:=zDI s j n 3 hkd (by omega) HN'.out
       have he:zBE (zAj s j).kind (zAj s j).text=0:=by rw[ht];exact zPY _
       have HR2:Hid (R=zDE f s (j+n) (acc++[⟨3,j,s.extract j (j+n)⟩])):=by
        rw[hR.out,zB1 f s k j acc HJ.out hlt he,HN'.out,ht];rfl
       have HK:Hid (((zAo s.data.toList j:Nat):Int)=3):=by rw[hkd];rfl
       clear hkd ht he;go_wp2_with fail
       refine (zDk s j hlt HS.out _).mono ?_;rintro e wr ⟨rfl,rfl⟩;rw[HK.out,HN.out];go_wp2_with (at_builtin;refine wpList_append_own _ rfl _ _ 95 rfl w.heap.size 158 i0 (.agg #[.int .i64 0,.int .i64 0,.string ByteArray.empty]) 3 32 Tryz.underlying95 hi hz0 hz1 hz2 rfl (by decide) _ _ _ rfl (hown.alloc _) ⟨wr.heap.size,0,none⟩ 1 1 (zBH ⟨3,j,s.extract j (j+n)⟩) rfl rfl ?c1 ?c2 ?c3 ?c4 ?c5 ?_)
       case c1=>first | exact zEa wr ⟨3,j,s.extract j (j+n)⟩ | exact fun _ _ h=>h
       case c2=>exact zDz _
       case c3=>unfold maxLen;omega
       case c4=>omega
       case c5=>have:=hbw.size;simp;omega
       intro v3 w3 hown3 hgrow _;have hb3:Below w.heap.size w w3:=(hbw.alloc (by have:=hbw.size;omega) _).grown hgrow (by have:=hbw.size;simp;omega) (fun b h=>(hown.lt _ h).1)
       have hown4:w3.ownsRow w.heap.size 158 3 v3 (acc++([⟨3,j,s.extract j (j+n)⟩]:List Tok)).length (zAr (acc++[⟨3,j,s.extract j (j+n)⟩])):=by
        rw[zDW,List.length_append];exact hown3
       clear hown3 hgrow hown hbw;go_wp2
       go_roundw
       case rel=>exact⟨j+n,f,j+n,false,_,rfl,by go_num,rfl,HR2,by omega,hnj,hnj,Nat.le_refl _,by simp;omega,hown4,hb3⟩
       case measure=>simp[intOf];omega
     ·have HE:Hid (zAS false s.data.toList (j+1)=zAS false s.data.toList k):=by rw[←hj.out];exact (zEI _ j hl (by rw[HG.out];exact hb)).symm
      simp only[isB,Bool.or_eq_true] at hb;rcases hb with hb | hb | hb
      all_goals
       go_wp2
      all_goals
       go_roundw
       case rel=>exact⟨k,f,j+1,false,acc,rfl,by go_num,HE,hR,hf,hk,by omega,by omega,hacc,hown,hbw⟩
       case measure=>simp[intOf];omega
    ·have HE:Hid (zAS (zCA s[j]) s.data.toList (j+1)=zAS false s.data.toList k):=by rw[←hj.out,←HG.out];exact (zFx _ _ j hl (by rw[HG.out,h4];rfl)).symm
     go_wp2
     go_roundw
     case rel=>exact⟨k,f,j+1,zCA s[j],acc,rfl,by go_num,HE,hR,hf,hk,by omega,by omega,hacc,hown,hbw⟩
     case measure=>simp[intOf];omega
   ·have HE:Hid (zAS (zCA s[j]) s.data.toList (j+1)=zAS false s.data.toList k):=by rw[←hj.out,←HG.out];exact (zFx _ _ j hl rfl).symm
    go_wp2
    go_roundw
    case rel=>exact⟨k,f,j+1,zCA s[j],acc,rfl,by go_num,HE,hR,hf,hk,by omega,by omega,hacc,hown,hbw⟩
    case measure=>simp[intOf];omega
  ·have HR2:Hid (R=(acc,0,0)):=by rw[hR.out];exact zDy f s k acc (by rw[←hj.out,zGp _ _ _ (by simpa using hlt)];exact hlt)
   go_wp2
   go_ret3
   rw[HR2.out];exact⟨_,rfl,hown,hbw⟩
theorem zRG (kind:Int) (s:ByteArray) (hs:s.size≤maxLen) (w:World) :
 Calls Tryz.prog 90 #[.int .i64 kind,.string s] w fun e w'=>e=.returned (.bool (zE7 kind s))∧w'=w:=by
 have HS:Hid (s.size≤maxLen):=hs;unfold maxLen at hs;by_cases h0:0<s.size
 ·have hem:s.toList.isEmpty=false:=by
   rw[ByteArray.toList_eq];cases h:s.data.toList with
   | nil=>have:=zA5 s;rw[h] at this;simp at this;omega
   | cons a r=>rfl
  have hne:¬s.toList=[]:=by intro h;rw[h] at hem;cases hem
  by_cases h4:s.size≤4000
  ·by_cases hk:kind=0
   ·have hA:zE7 kind s=false:=by unfold zE7;simp[hk]
    rw[hA];subst hk;go_enter Tryz.func90,Tryz.ntmps90
    go_wp2
    all_goals (go_ret;exact⟨zAC (by first | rfl | (simp;done) | (simp;omega)),rfl⟩)
   ·have hk0:(kind==0)=false:=by simpa using hk
    have hl:0<s.data.toList.length:=by rw[zA5];exact h0
    have hend:=(zFb _ 0 hl).2;rw[zA5] at hend;have hbx:zBh s.data.toList 0=s[0]:=by rw[zCM _ _ hl];exact zBT s 0 h0 hl
    obtain⟨K,hK⟩:∃K,zAo s.data.toList 0=K:=⟨_,rfl⟩;obtain⟨N,hN⟩:∃N,zA8 s.data.toList 0=N:=⟨_,rfl⟩;have hkc:=zJK s.data.toList 0;rw[hK] at hkc;rw[hN] at hend;have hT:zE7 kind s=(decide ((K:Int)=kind)&&(decide (N=s.size)&&decide (zBE kind s=0))):=by
     unfold zE7;rw[hK,hN];simp[h0,h4,hk]
    rw[hT];clear hT;have HKK:Hid (((zAo s.data.toList 0:Nat):Int)=(K:Int)):=congrArg Nat.cast hK;have HNN:Hid (((zA8 s.data.toList 0 - 0:Nat):Int)=(N:Int)):=congrArg Nat.cast hN;clear hK hN;by_cases hkk:(K:Int)=kind
    ·subst hkk
     by_cases hnn:N=s.size
     ·subst hnn
      rcases hkc with rfl | rfl | rfl | rfl
      ·exact absurd rfl hk
      ·by_cases h12:12<s.size
       ·rw[show zBE ((1:Nat):Int) s=2 from zKr s h12]
        clear hbx hk hk0;go_enter Tryz.func90,Tryz.ntmps90
        go_wp2_with fail
        refine (zDk s 0 h0 HS.out _).mono ?_;rintro e w ⟨rfl,rfl⟩;rw[HKK.out,HNN.out];go_wp2
        all_goals (go_ret;exact⟨zAC (by first | rfl | (simp;done) | (simp;omega)),rfl⟩)
       ·rw[show zBE ((1:Nat):Int) s=0 from zPX s h12]
        clear hbx hk hk0;go_enter Tryz.func90,Tryz.ntmps90
        go_wp2_with fail
        refine (zDk s 0 h0 HS.out _).mono ?_;rintro e w ⟨rfl,rfl⟩;rw[HKK.out,HNN.out];go_wp2
        all_goals (go_ret;exact⟨zAC (by first | rfl | (simp;done) | (simp;omega)),rfl⟩)
      ·by_cases h5:4<s.size
       ·rw[show zBE ((2:Nat):Int) s=2 from zKs s h5]
        clear hbx hk hk0;go_enter Tryz.func90,Tryz.ntmps90
        go_wp2_with fail
        refine (zDk s 0 h0 HS.out _).mono ?_;rintro e w ⟨rfl,rfl⟩;rw[HKK.out,HNN.out];go_wp2
        all_goals (go_ret;exact⟨zAC (by first | rfl | (simp;done) | (simp;omega)),rfl⟩)
       ·by_cases h1:1<s.size
        ·cases hc:((s[0].toNat:Int)==48)
         ·rw[show zBE ((2:Nat):Int) s=0 from zKF s h5 (fun _=>by rw[hbx];simpa using hc)]
          clear hbx hk hk0;go_enter Tryz.func90,Tryz.ntmps90
          go_wp2_with fail
          refine (zDk s 0 h0 HS.out _).mono ?_;rintro e w ⟨rfl,rfl⟩;rw[HKK.out,HNN.out];go_wp2
          all_goals (go_ret;exact⟨zAC (by first | rfl | (simp;done) | (simp;omega)),rfl⟩)
         ·rw[show zBE ((2:Nat):Int) s=1 from zHo s h5 h1 (by rw[hbx];simpa using hc)]
          clear hbx hk hk0;go_enter Tryz.func90,Tryz.ntmps90
          go_wp2_with fail
          refine (zDk s 0 h0 HS.out _).mono ?_;rintro e w ⟨rfl,rfl⟩;rw[HKK.out,HNN.out];go_wp2
          all_goals (go_ret;exact⟨zAC (by first | rfl | (simp;done) | (simp;omega)),rfl⟩)
        ·rw[show zBE ((2:Nat):Int) s=0 from zKF s h5 (fun h=>absurd h h1)]
         clear hbx hk hk0;go_enter Tryz.func90,Tryz.ntmps90
         go_wp2_with fail
         refine (zDk s 0 h0 HS.out _).mono ?_;rintro e w ⟨rfl,rfl⟩;rw[HKK.out,HNN.out];go_wp2
         all_goals (go_ret;exact⟨zAC (by first | rfl | (simp;done) | (simp;omega)),rfl⟩)
      ·rw[show zBE ((3:Nat):Int) s=0 from zPY s]
       clear hbx hk hk0;go_enter Tryz.func90,Tryz.ntmps90
       go_wp2_with fail
       refine (zDk s 0 h0 HS.out _).mono ?_;rintro e w ⟨rfl,rfl⟩;rw[HKK.out,HNN.out];go_wp2
       all_goals (go_ret;exact⟨zAC (by first | rfl | (simp;done) | (simp;omega)),rfl⟩)
     ·have hnf:((N:Int)==(s.size:Int))=false:=by simpa using (show ¬(N:Int)=(s.size:Int) by omega)
      rw[decide_eq_false hnn];clear hbx;go_enter Tryz.func90,Tryz.ntmps90
      go_wp2_with fail
      refine (zDk s 0 h0 HS.out _).mono ?_;rintro e w ⟨rfl,rfl⟩;rw[HKK.out,HNN.out];go_wp2
      all_goals (go_ret;exact⟨zAC (by first | rfl | (simp;done) | (simp;omega)),rfl⟩)
    ·have hkf:((K:Int)==kind)=false:=by simpa using hkk
     rw[decide_eq_false hkk];clear hbx;go_enter Tryz.func90,Tryz.ntmps90
     go_wp2_with fail
     refine (zDk s 0 h0 HS.out _).mono ?_;rintro e w ⟨rfl,rfl⟩;rw[HKK.out,HNN.out];go_wp2
     all_goals (go_ret;exact⟨zAC (by first | rfl | (simp;done) | (simp;omega)),rfl⟩)
  ·have hA:zE7 kind s=false:=by unfold zE7;simp[h4]
   rw[hA];go_enter Tryz.func90,Tryz.ntmps90
   go_wp2
   all_goals (go_ret;exact⟨zAC (by first | rfl | (simp;done) | (simp;omega)),rfl⟩)
 ·have hA:zE7 kind s=false:=by unfold zE7;simp[h0]
  have hem:s.toList=[]:=by
   rw[ByteArray.toList_eq];apply List.eq_nil_of_length_eq_zero;rw[zA5];omega
  rw[hA];go_enter Tryz.func90,Tryz.ntmps90
  go_wp2
  all_goals (go_ret;exact⟨zAC (by first | rfl | (simp;done) | (simp;omega)),rfl⟩)
end Go.Proofs.YtdjbejlbmaiocagGreatDoor
