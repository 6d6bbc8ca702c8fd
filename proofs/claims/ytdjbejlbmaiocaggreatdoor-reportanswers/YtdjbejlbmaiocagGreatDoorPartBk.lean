/- What the proof leans on, part 37. -/
import Derived.Test.YtdjbejlbmaiocagGreatDoorPartBj
import Derived.Test.YtdjbejlbmaiocagGreatDoorPartBa
import Derived.KernelRfl
import Derived.Test.YtdjbejlbmaiocagGreatDoorPartBe
set_option maxRecDepth 100000
set_option maxHeartbeats 3200000
namespace Go.Proofs.YtdjbejlbmaiocagGreatDoor
open Go.RowKit
def strK (m:Mod) (a:Ans) (k:Nat):ByteArray:=⟨((zBp m.goal).data.toList++zBu m.vars (a.values.take k)).toArray⟩
theorem zLv (m:Mod) (a:Ans):strK m a 0=zBp m.goal:=by
 apply ByteArray.ext;simp[strK,zBu]
theorem zLw (m:Mod) (a:Ans) (k:Nat) (x:Int) (t:MVar) (hx:a.values[k]? = some x) (ht:m.vars[k]? = some t) :
 strK m a (k+1)=strK m a k++(t.name++⟨#[32,61,32]⟩++zBG x++⟨#[10]⟩):=by
 apply ByteArray.ext;unfold strK;rw[zG7 m.vars a.values k x hx];unfold zHV zIp;rw[List.getD_eq_getElem?_getD,ht];simp[ByteArray.data_append]
theorem zSm (m:Mod) (a:Ans) (h1:a.verdict=1):strK m a a.values.length=zFX m a:=by
 unfold strK zFX;rw[if_neg (by rw[h1];decide),if_neg (by rw[h1];decide),List.take_length]
theorem zLx (m:Mod) (a:Ans) (hn:∀x∈m.vars,x.name.size≤1000) (hi:∀x∈a.values,(zBG x).size≤100) (k:Nat) (hk:k≤a.values.length):(strK m a k).size≤10+2000 * k:=by
 have h1:=zIq m.vars a.values hn hi k hk;have h2:(zBp m.goal).size≤10:=by unfold zBp;split <;> decide
 have h3:(zBp m.goal).data.toList.length=(zBp m.goal).size:=rfl;have h4:(strK m a k).size=((zBp m.goal).data.toList++zBu m.vars (a.values.take k)).length:=by
  show (((zBp m.goal).data.toList++zBu m.vars (a.values.take k)).toArray).size=_;rw[List.size_toArray]
 rw[h4,List.length_append];omega
theorem zQ9 (m:Mod) (a:Ans) (h3:a.verdict=1∨a.verdict=2∨a.verdict=3) (hn:∀x∈m.vars,x.name.size≤1000) (hl:a.values.length≤m.vars.length) (hl6:m.vars.length≤6) (hx:∀x∈a.values,-1000≤x∧x≤1000) (hi:∀x∈a.values,(zBG x).size≤100) (vs cs vv:Value) (ap:Option Addr) (np cp:Nat) (w:World) (hma:MArg w vs cs m) (hv:IArg w vv a.values) :
 Calls Tryz.prog 24 #[modV vs cs m,.agg #[.int .i64 a.verdict,vv,.slice ap np cp]] w fun e w'=>e=.returned (.string (zFX m a))∧Below w.heap.size w w':=by
 obtain⟨⟨a1,c1,rfl,_,hvr⟩,⟨a2,c2,rfl,_,_⟩⟩:=hma;obtain⟨av,cv,rfl,_,hir⟩:=hv;have HV:Hid (∀(i:Nat) (t:MVar),m.vars[i]? = some t→t.name.size≤maxLen∧∃b off,a1=some ⟨b,off,none⟩∧b<w.heap.size ∧
  w.cell? ⟨b,off+i * 3,none⟩=some (.string t.name)∧w.cell? ⟨b,off+i * 3+1,none⟩=some (.int .i64 t.lo)∧w.cell? ⟨b,off+i * 3+2,none⟩=some (.int .i64 t.hi)):=hvr
 have HI:Hid (∀(i:Nat) (z:Int),a.values[i]? = some z→∃b off,av=some ⟨b,off,none⟩∧b<w.heap.size∧w.cell? ⟨b,off+i,none⟩=some (.int .i64 z)):=hir;have HN:Hid (∀x∈m.vars,x.name.size≤1000):=hn;have HXB:Hid (∀x∈a.values,-1000≤x∧x≤1000):=hx;have HIB:Hid (∀x∈a.values,(zBG x).size≤100):=hi;clear hvr hir hn hx hi;unfold modV;by_cases h1:a.verdict=1
 ·have HE:Hid (strK m a a.values.length=zFX m a):=zSm m a h1
  obtain⟨R,hR⟩:∃R,zFX m a=R:=⟨_,rfl⟩;rw[hR] at HE ⊢;rw[h1];clear hR h3 h1;obtain⟨q1,q2⟩:=zEk w (.cells #[.slice a1 m.vars.length c1,.slice a2 m.cons.length c2,.int .i64 m.goal,.int .i64 m.var] 25) (.cells #[.int .i64 1,.slice av a.values.length cv,.slice ap np cp] 29);have hbW:Below w.heap.size w ((w.alloc (.cells #[.slice a1 m.vars.length c1,.slice a2 m.cons.length c2,.int .i64 m.goal,.int .i64 m.var] 25)).alloc (.cells #[.int .i64 1,.slice av a.values.length cv,.slice ap np cp] 29)):=(zAA _ _).alloc (by simp) _
  have hszW:((w.alloc (.cells #[.slice a1 m.vars.length c1,.slice a2 m.cons.length c2,.int .i64 m.goal,.int .i64 m.var] 25)).alloc (.cells #[.int .i64 1,.slice av a.values.length cv,.slice ap np cp] 29)).heap.size=w.heap.size+1+1:=by simp
  have HQ:Hid (∀Y,Below (w.heap.size+1+1) ((w.alloc (.cells #[.slice a1 m.vars.length c1,.slice a2 m.cons.length c2,.int .i64 m.goal,.int .i64 m.var] 25)).alloc (.cells #[.int .i64 1,.slice av a.values.length cv,.slice ap np cp] 29)) Y→Y.heap[w.heap.size]? = some (.cells #[.slice a1 m.vars.length c1,.slice a2 m.cons.length c2,.int .i64 m.goal,.int .i64 m.var] 25)∧Y.heap[w.heap.size+1]? = some (.cells #[.int .i64 1,.slice av a.values.length cv,.slice ap np cp] 29)∧Below w.heap.size w Y∧w.heap.size+1+1≤Y.heap.size):=fun Y hY =>
   ⟨(hY.block _ (by omega)).trans q1,(hY.block _ (by omega)).trans q2,hbW.trans (hY.mono (by omega)),Nat.le_trans (Nat.le_of_eq hszW.symm) hY.size⟩
  clear q1 q2 hbW hszW;go_enter Tryz.func24,Tryz.ntmps24
  by_cases hg:m.goal=0
  ·have HF:Hid (zBp m.goal=⟨#[102,111,117,110,100,10]⟩):=by show _=_;unfold zBp;rw[if_pos hg]
   have hg':(m.goal==0)=true:=by simpa using hg
   clear hg;go_wp2_with fail
   go_loopw [5,6] (fun s i wr=>∃k:Nat,k≤a.values.length∧i=.int .i64 k∧s=.string (strK m a k)∧Below (w.heap.size+1+1) ((w.alloc (.cells #[.slice a1 m.vars.length c1,.slice a2 m.cons.length c2,.int .i64 m.goal,.int .i64 m.var] 25)).alloc (.cells #[.int .i64 1,.slice av a.values.length cv,.slice ap np cp] 29)) wr) (fun _ i _=>a.values.length - (intOf i).toNat)
   case atStart=>exact⟨0,by omega,rfl,by rw[zLv,HF.out],Below.refl _ _⟩
   case round =>
    obtain⟨k,hk,rfl,rfl,hb⟩:=hrel;obtain⟨q1,q2,hW,hsz⟩:=HQ.out _ hb;have HB:=(show Hid _ from hb)
    have k0:=blk9 q1 0 _ rfl;have kl:=(Array.getElem?_eq_some_iff.1 q1).1;have j1:=blk9 q2 1 _ rfl;have jl:=(Array.getElem?_eq_some_iff.1 q2).1;have hss:=zLx m a HN.out HIB.out k hk;have HW:=(show Hid _ from hW)
    clear hb q1 q2 hW;by_cases hlt:k<a.values.length
    ·obtain⟨x,hx⟩:∃x,a.values[k]? = some x:=⟨a.values[k],by rw[List.getElem?_eq_getElem hlt]⟩
     obtain⟨t,ht⟩:∃t,m.vars[k]? = some t:=⟨m.vars[k]'(by omega),by rw[List.getElem?_eq_getElem (by omega)]⟩
     obtain⟨_,bn,on,hbn,hln,cn,_,_⟩:=HV.out k t ht;obtain⟨bx,ox,hbx,hlx,cx⟩:=HI.out k x hx;subst hbn hbx;have dn:=(HW.out.cell (p:=⟨bn,on+k * 3,none⟩) hln).trans cn;have dx:=(HW.out.cell (p:=⟨bx,ox+k,none⟩) hlx).trans cx;have ln:bn<wr.heap.size:=Nat.lt_of_lt_of_le hln HW.out.size;have lx:bx<wr.heap.size:=Nat.lt_of_lt_of_le hlx HW.out.size;have hns:=HN.out t (List.mem_of_getElem? ht);have hxs:=HXB.out x (List.mem_of_getElem? hx);have his:=HIB.out x (List.mem_of_getElem? hx);have HLN:Hid (strK m a (k+1)=strK m a k++(t.name++⟨#[32,61,32]⟩++zBG x++⟨#[10]⟩)):=zLw m a k x t hx ht;have HIT:Hid (∀Y:World,Calls Tryz.prog 23 #[.int .i64 x] Y fun e w'=>e=.returned (.string (zBG x))∧Below Y.heap.size Y w'):=fun Y=>zG8 x (by omega) Y
     obtain⟨nm,hnm⟩:∃nm,t.name=nm:=⟨_,rfl⟩;obtain⟨ix,hix⟩:∃ix,zBG x=ix:=⟨_,rfl⟩;obtain⟨S,hS⟩:∃S,strK m a k=S:=⟨_,rfl⟩;rw[hnm] at dn hns HLN;rw[hix] at his HLN HIT;rw[hS] at HLN hss ⊢;have z1:¬(9223372036854775807<nm.size+3):=by omega
     have z2:¬(9223372036854775807<nm.size+3+ix.size):=by omega
     have z3:¬(9223372036854775807<nm.size+3+ix.size+1):=by omega
     have z4:¬(9223372036854775807<S.size+(nm.size+3+ix.size+1)):=by omega
     have p1:(k:Int)<(m.vars.length:Int):=by omega
     have p2:k<m.vars.length:=by omega
     have p3:decide ((k:Int)<(m.vars.length:Int))=true:=by simpa using p1
     have p4:decide ((k:Int)<(a.values.length:Int))=true:=by simp;omega
     clear hx ht hnm hix hS cn cx hns his hss;go_wp2_with fail
     go_region_law
      (first
        | (rw[if_pos (by rfl)];go_simp;go_at_call 23;refine (HIT.out _).mono ?_;rintro e w3 ⟨rfl,hb3⟩;have hB3:Below wr.heap.size wr w3:=(Below.refl _ _).drew.trans hb3;have dn3:=(hB3.cell (p:=⟨bn,on+k * 3,none⟩) ln).trans dn;have k03:=(hB3.cell (p:=⟨w.heap.size,0,none⟩) kl).trans k0;have kl3:w.heap.size<w3.heap.size:=Nat.lt_of_lt_of_le kl hB3.size;have ln3:bn<w3.heap.size:=Nat.lt_of_lt_of_le ln hB3.size;dsimp only))
     all_goals
      have HB3:=(show Hid _ from HB.out.trans (hB3.mono hsz))
      go_wp2
      go_roundw
      case rel=>exact⟨k+1,by omega,by go_num,by rw[HLN.out],HB3.out⟩
      case measure=>simp[intOf];omega
    ·have hke:k=a.values.length:=by omega
     have p4:decide ((k:Int)<(a.values.length:Int))=false:=by simp;omega
     have HK:Hid (strK m a k=R):=by show _=_;rw[hke];exact HE.out
     rw[HK.out];clear hke hss;go_wp2
     go_ret
     exact⟨rfl,HW.out⟩
  ·have HF:Hid (zBp m.goal=⟨#[98,101,115,116,10]⟩):=by show _=_;unfold zBp;rw[if_neg hg]
   have hg':(m.goal==0)=false:=by simpa using hg
   clear hg;go_wp2_with fail
   go_loopw [5,6] (fun s i wr=>∃k:Nat,k≤a.values.length∧i=.int .i64 k∧s=.string (strK m a k)∧Below (w.heap.size+1+1) ((w.alloc (.cells #[.slice a1 m.vars.length c1,.slice a2 m.cons.length c2,.int .i64 m.goal,.int .i64 m.var] 25)).alloc (.cells #[.int .i64 1,.slice av a.values.length cv,.slice ap np cp] 29)) wr) (fun _ i _=>a.values.length - (intOf i).toNat)
   case atStart=>exact⟨0,by omega,rfl,by rw[zLv,HF.out],Below.refl _ _⟩
   case round =>
    obtain⟨k,hk,rfl,rfl,hb⟩:=hrel;obtain⟨q1,q2,hW,hsz⟩:=HQ.out _ hb;have HB:=(show Hid _ from hb)
    have k0:=blk9 q1 0 _ rfl;have kl:=(Array.getElem?_eq_some_iff.1 q1).1;have j1:=blk9 q2 1 _ rfl;have jl:=(Array.getElem?_eq_some_iff.1 q2).1;have hss:=zLx m a HN.out HIB.out k hk;have HW:=(show Hid _ from hW)
    clear hb q1 q2 hW;by_cases hlt:k<a.values.length
    ·obtain⟨x,hx⟩:∃x,a.values[k]? = some x:=⟨a.values[k],by rw[List.getElem?_eq_getElem hlt]⟩
     obtain⟨t,ht⟩:∃t,m.vars[k]? = some t:=⟨m.vars[k]'(by omega),by rw[List.getElem?_eq_getElem (by omega)]⟩
     obtain⟨_,bn,on,hbn,hln,cn,_,_⟩:=HV.out k t ht;obtain⟨bx,ox,hbx,hlx,cx⟩:=HI.out k x hx;subst hbn hbx;have dn:=(HW.out.cell (p:=⟨bn,on+k * 3,none⟩) hln).trans cn;have dx:=(HW.out.cell (p:=⟨bx,ox+k,none⟩) hlx).trans cx;have ln:bn<wr.heap.size:=Nat.lt_of_lt_of_le hln HW.out.size;have lx:bx<wr.heap.size:=Nat.lt_of_lt_of_le hlx HW.out.size;have hns:=HN.out t (List.mem_of_getElem? ht);have hxs:=HXB.out x (List.mem_of_getElem? hx);have his:=HIB.out x (List.mem_of_getElem? hx);have HLN:Hid (strK m a (k+1)=strK m a k++(t.name++⟨#[32,61,32]⟩++zBG x++⟨#[10]⟩)):=zLw m a k x t hx ht;have HIT:Hid (∀Y:World,Calls Tryz.prog 23 #[.int .i64 x] Y fun e w'=>e=.returned (.string (zBG x))∧Below Y.heap.size Y w'):=fun Y=>zG8 x (by omega) Y
     obtain⟨nm,hnm⟩:∃nm,t.name=nm:=⟨_,rfl⟩;obtain⟨ix,hix⟩:∃ix,zBG x=ix:=⟨_,rfl⟩;obtain⟨S,hS⟩:∃S,strK m a k=S:=⟨_,rfl⟩;rw[hnm] at dn hns HLN;rw[hix] at his HLN HIT;rw[hS] at HLN hss ⊢;have z1:¬(9223372036854775807<nm.size+3):=by omega
     have z2:¬(9223372036854775807<nm.size+3+ix.size):=by omega
     have z3:¬(9223372036854775807<nm.size+3+ix.size+1):=by omega
     have z4:¬(9223372036854775807<S.size+(nm.size+3+ix.size+1)):=by omega
     have p1:(k:Int)<(m.vars.length:Int):=by omega
     have p2:k<m.vars.length:=by omega
     have p3:decide ((k:Int)<(m.vars.length:Int))=true:=by simpa using p1
     have p4:decide ((k:Int)<(a.values.length:Int))=true:=by simp;omega
     clear hx ht hnm hix hS cn cx hns his hss;go_wp2_with fail
     go_region_law
      (first
        | (rw[if_pos (by rfl)];go_simp;go_at_call 23;refine (HIT.out _).mono ?_;rintro e w3 ⟨rfl,hb3⟩;have hB3:Below wr.heap.size wr w3:=(Below.refl _ _).drew.trans hb3;have dn3:=(hB3.cell (p:=⟨bn,on+k * 3,none⟩) ln).trans dn;have k03:=(hB3.cell (p:=⟨w.heap.size,0,none⟩) kl).trans k0;have kl3:w.heap.size<w3.heap.size:=Nat.lt_of_lt_of_le kl hB3.size;have ln3:bn<w3.heap.size:=Nat.lt_of_lt_of_le ln hB3.size;dsimp only))
     all_goals
      have HB3:=(show Hid _ from HB.out.trans (hB3.mono hsz))
      go_wp2
      go_roundw
      case rel=>exact⟨k+1,by omega,by go_num,by rw[HLN.out],HB3.out⟩
      case measure=>simp[intOf];omega
    ·have hke:k=a.values.length:=by omega
     have p4:decide ((k:Int)<(a.values.length:Int))=false:=by simp;omega
     have HK:Hid (strK m a k=R):=by show _=_;rw[hke];exact HE.out
     rw[HK.out];clear hke hss;go_wp2
     go_ret
     exact⟨rfl,HW.out⟩
 ·have h1':(a.verdict==1)=false:=by simpa using h1
  by_cases h2:a.verdict=2
  ·have hR:zFX m a=⟨#[110,111,110,101,10]⟩:=by unfold zFX;rw[if_pos h2]
   rw[hR,h2];clear hR h1' h3 h1 h2;go_enter Tryz.func24,Tryz.ntmps24
   go_wp2
   go_ret
   exact⟨rfl,(zAA _ _).alloc (by simp) _⟩
  ·have h3':a.verdict=3:=by omega
   have hR:zFX m a=⟨#[117,110,107,110,111,119,110,10]⟩:=by unfold zFX;rw[if_neg h2,if_pos h3']
   rw[hR,h3'];clear hR h1' h3 h3' h1 h2;go_enter Tryz.func24,Tryz.ntmps24
   go_wp2
   go_ret
   exact⟨rfl,(zAA _ _).alloc (by simp) _⟩
def zEo:ByteArray:=⟨([118,97,114,32,120,58,32,48,46,46,50,59,10,118,97,114,32,121,58,32,48,46,46,50,59,10,99,111,110,32,108,101,32].append [91,49,44,32,45,49,93,32,91,120,44,32,121,93,32,45,49,59,10,115,111,108,118,101,32,108,101,97,115,116,32,121,59,10]).toArray⟩
theorem zE1:zAy zEo=(twoM,0,0):=by kernel_rfl
def zUF:ByteArray:=⟨#[98,101,115,116,10,120,32,61,32,48,10,121,32,61,32,49,10]⟩
theorem zPI (P:List MStep):zFX twoM ⟨1,[0,1],P⟩=zUF:=by
 unfold zFX;rw[if_neg (show ¬((1:Int)=2) by decide),if_neg (show ¬((1:Int)=3) by decide)]
 kernel_rfl
theorem zLy:zEV zEo 20=(zUF,0):=by
 obtain⟨P,hP,_⟩:=zM6;unfold zEV;rw[if_neg (by decide),if_neg (by decide),zE1,if_pos rfl,hP]
 simp only;rw[zPI]
theorem zLz (P:List MStep) (hP:zBt twoM 20=(⟨1,[0,1],P⟩,0)):zDo zEo [0,1] P=(true,0):=by
 unfold zDo;rw[zE1,if_pos rfl];have:=zGh twoM 20 (by rw[hP]) (Or.inr ⟨by rw[hP],by decide⟩)
 rw[hP] at this;exact this
theorem zUG:allA twoM [0,1]=(true,0):=by
 unfold allA;rw[if_pos zCs]
 kernel_rfl
theorem zUH:zBg twoM [0,1]=([⟨1,1,0⟩],0):=by
 unfold zBg;rw[if_pos zCs]
 kernel_rfl
theorem zRA (P:List MStep) (hP:zBt twoM 20=(⟨1,[0,1],P⟩,0)):zDo zEo [0,2] P=(false,0):=by
 unfold zDo;rw[zE1,if_pos rfl];have hv:zET twoM [0,1] P=(true,0):=by
  have:=zGh twoM 20 (by rw[hP]) (Or.inr ⟨by rw[hP],by decide⟩)
  rw[hP] at this;exact this
 unfold zET at hv ⊢;rw[if_neg (by decide),zUH,if_pos rfl] at hv
 rw[if_neg (by decide),zUD,if_pos rfl]
 simp only at hv ⊢;have hst:zDG twoM [[⟨1,1,0⟩]] P=0:=by
  apply Classical.byContradiction;intro hn;have hp:zBR twoM [[⟨1,1,0⟩]] P=(false,zDG twoM [[⟨1,1,0⟩]] P):=by unfold zBR;rw[if_neg hn]
  rw[hp] at hv;simp only[Bool.false_eq_true,if_false] at hv;cases hv
 obtain⟨e1,e2,_,e4,e5⟩:=zLH twoM _ P hst;have hst2:zDG twoM [[⟨1,1,1⟩]] P=0:=by
  unfold zDG at hst ⊢;rw[if_pos zCs,if_neg (by omega)] at hst ⊢
  rw[if_pos (show zFm twoM.vars [[⟨1,1,0⟩]]=0 by decide)] at hst
  rw[if_pos (show zFm twoM.vars [[⟨1,1,1⟩]]=0 by decide)]
  exact hst
 cases hb:(zBR twoM [[⟨1,1,1⟩]] P).1
 ·simp only[Bool.false_eq_true,if_false]
  unfold zBR at hb ⊢;rw[if_pos hst2] at hb ⊢
  split
  ·rename_i hl
   rw[if_pos hl] at hb;simp only at hb;rw[hb]
  ·rfl
 ·exfalso
  have hpe:zBR twoM [[⟨1,1,1⟩]] P=(true,0):=by
   unfold zBR at hb ⊢;rw[if_pos hst2] at hb ⊢
   split
   ·rename_i hl
    rw[if_pos hl] at hb;simp only at hb;rw[hb]
   ·rename_i hl
    rw[if_neg hl] at hb;cases hb
  unfold zBR at hpe;rw[if_pos hst2] at hpe;by_cases hl:zIK P=true
  ·rw[if_pos hl] at hpe
   have hst3:zBZ twoM ([[⟨1,1,1⟩]].map (zAH twoM.vars)) P=true:=by simpa using hpe
   unfold zIK at hl;cases hgl:P.getLast? with
   | none=>rw[hgl] at hl;cases hl
   | some s =>
     rw[hgl] at hl;have hs0:s.cla=[]:=List.length_eq_zero_iff.1 (by simpa using hl)
     exact zOY twoM [[⟨1,1,1⟩]] P [0,1] zUG (fun d hd=>by rw[List.mem_singleton.1 hd];decide) e4 e5 (fun d hd=>by rw[List.mem_singleton.1 hd];decide) hst3 s (List.mem_of_getLast? hgl) hs0
  ·rw[if_neg hl] at hpe;cases hpe
theorem zCP.starg {base:Nat} {w:World} {v:Value} {L:List SV} (h:zCP base w v L):zHc w v (L.map (·.1)):=by
 obtain⟨a,c,rfl⟩:=zAB h.1;have hc:L.length≤c∧c≤maxLen:=by
  rcases h.1.2 with ⟨he,_⟩ | ⟨g,cap,cur,he,_,_,k1,k2,_⟩
  ·have h1:L.length=0:=by injection he
   have h2:c=0:=by injection he
   exact⟨by omega,by unfold maxLen;omega⟩
  ·cases he
   exact⟨k1,k2⟩
 refine⟨a,c,by rw[List.length_map],by rw[List.length_map];exact hc,fun i t ht=>?_⟩
 rw[List.getElem?_map] at ht;obtain⟨x,hx,rfl⟩:=Option.map_eq_some_iff.1 ht;obtain⟨b,off,e1,e2,e3,e4,e5⟩:=zQW h i x hx;exact⟨b,off,x.2,e1,e2,e3,e4,e5,(h.2 x (List.mem_of_getElem? hx)).arg⟩
theorem zL0 (w:World) (hT:TabT w) (hP:TabP w) :
 Calls Tryz.prog 21 #[] w fun e w'=>e=.returned (.bool true)∧Below w.heap.size w w':=by
 have HT:Hid (∀w',Below w.heap.size w w'→TabT w'):=fun w' h=>hT.below h
 have HTP:Hid (∀w',Below w.heap.size w w'→TabP w'):=fun w' h=>hP.below h
 obtain⟨P,hP1,_⟩:=zM6;have HP:Hid (zBt twoM 20=(⟨1,[0,1],P⟩,0)):=hP1;have HV1:Hid (zDo zEo [0,1] P=(true,0)):=zLz P hP1;have HV2:Hid (zDo zEo [0,2] P=(false,0)):=zRA P hP1;have HAN:Hid (∀Y,Below w.heap.size w Y→Calls Tryz.prog 20 #[.string zEo,.int .i64 20] Y fun e w'=>e=.returned (.tuple #[.string (⟨#[98,101,115,116,10,120,32,61,32,48,10,121,32,61,32,49,10]⟩:ByteArray),.int .i64 0])∧Below Y.heap.size Y w'):=fun Y hY=>by
  have:=zJ7 zEo (by decide) 20 (fun _=>by rw[zE1];decide) Y (HT.out _ hY) (HTP.out _ hY)
  rw[zLy] at this;exact this
 have HSM:Hid (zEo.size≤maxLen):=by show _≤_;decide
 clear hT hP hP1;go_enter Tryz.func21,Tryz.ntmps21
 go_wp2_with fail
 refine (HAN.out _ (Below.refl _ _)).mono ?_;rintro e w1 ⟨rfl,hb1⟩;have HB1:Hid (Below w.heap.size w w1):=hb1;clear hb1;go_wp2_with fail
 refine (zMO _).mono ?_;rintro e w2 ⟨vs,cs,rfl,hm,hb2⟩;have HM:Hid (MArg w2 vs cs twoM):=hm;have HB2:Hid (Below w.heap.size w w2):=HB1.out.trans (hb2.mono HB1.out.size);clear hm hb2;go_wp2_with fail
 refine (zHh twoM 20 vs cs _ HM.out (HT.out _ HB2.out)).mono ?_;rintro e w3 ⟨vv,pp,rfl,hq,hb3⟩;rw[HP.out] at hq ⊢
 dsimp only at hq ⊢
 obtain⟨L,hst,hLe⟩:=hq.prf;simp only at hLe;obtain⟨av,cv,rfl⟩:=zAB hq.val;obtain⟨ap,cp,rfl⟩:=zAB hst.1;have HV:Hid (∀Y,Below w3.heap.size w3 Y→IArg Y (.slice av 2 cv) [0,1]):=fun Y hY=>IArg.below hY (zD5 hq.val)
 have HL:Hid (∀Y,Below w3.heap.size w3 Y→zHc Y (.slice ap L.length cp) P):=fun Y hY=>by
  have h1:=(hst.below hY).starg;rw[hLe] at h1;exact h1
 have HB3:Hid (Below w.heap.size w w3):=HB2.out.trans (hb3.mono HB2.out.size);clear hq hb3 hst hLe HM;have HVE:Hid (∀(Y:World) (vals:List Int) (v:Value),Below w.heap.size w Y→Below w3.heap.size w3 Y→IArg Y v vals→Calls Tryz.prog 25 #[.string zEo,v,.slice ap L.length cp] Y fun e w'=>e=.returned (.tuple #[.bool (zDo zEo vals P).1,.int .i64 (zDo zEo vals P).2])∧Below Y.heap.size Y w'):=fun Y vals v h1 h2 h3 =>
  zPG zEo HSM.out vals P v _ Y h3 (HL.out _ h2) (HT.out _ h1)
 go_wp2_with fail
 have hb4:Below w3.heap.size w3 (w3.alloc (.cells #[.int .i64 1,.slice av 2 cv,.slice ap L.length cp] 29)):=zAA _ _;have hbl4:=heap_alloc_new w3 (.cells #[.int .i64 1,.slice av 2 cv,.slice ap L.length cp] 29);have hsz4:w3.heap.size<(w3.alloc (.cells #[.int .i64 1,.slice av 2 cv,.slice ap L.length cp] 29)).heap.size:=by simp
 refine (HVE.out _ [0,1] _ (HB3.out.trans (hb4.mono HB3.out.size)) hb4 (HV.out _ hb4)).mono ?_;rintro e w5 ⟨rfl,hb5⟩;rw[HV1.out]
 dsimp only
 have HQ5:Hid (w5.heap[w3.heap.size]? = some (.cells #[.int .i64 1,.slice av 2 cv,.slice ap L.length cp] 29)):=(hb5.block _ hsz4).trans hbl4;have HB35:Hid (Below w3.heap.size w3 w5):=hb4.trans (hb5.mono hb4.size);have HB5:Hid (Below w.heap.size w w5):=HB3.out.trans (HB35.out.mono HB3.out.size);clear hb4 hbl4 hsz4 hb5;have k2:=blk9 HQ5.out 2 _ rfl;have kl:=(Array.getElem?_eq_some_iff.1 HQ5.out).1;go_wp2_with fail
 refine (HVE.out _ [0,2] _ (HB5.out.alloc HB5.out.size _) (HB35.out.alloc HB35.out.size _) (zG2 w5 0 2 _ rfl)).mono ?_;rintro e w6 ⟨rfl,hb6⟩;rw[HV2.out]
 dsimp only
 have HB6:Hid (Below w.heap.size w w6):=(HB5.out.alloc HB5.out.size _).trans (hb6.mono (by have:=HB5.out.size;simp;omega))
 clear hb6;go_wp2
 go_ret
 exact⟨rfl,HB6.out⟩
structure RP where
 k:Nat
 er:Int
def txR (en:Int) (T:List Tok) (p:RP):ByteArray:=if p.er=0 then (zAI en (T.drop p.k)).text else ByteArray.empty
def zAT (e:Int) (p:RP):RP:=if p.er=0 then ⟨p.k,e⟩ else p
def zCm (p:RP):RP:=⟨p.k+1,p.er⟩
def zAU (en:Int) (T:List Tok) (s:ByteArray) (p:RP):RP:=if p.er=0 then (if ((txR en T p).toList==s.toList)=true then zCm p else zAT 1 p) else p
def zAn (en:Int) (T:List Tok) (p:RP):List ByteArray→Nat→Int×RP
 | [],_=>(0,zAT 1 p)
 | s :: r,i=>if p.er=0∧((txR en T p).toList==s.toList)=true then ((i:Int),zCm p) else zAn en T p r (i+1)
def vAtR (s:ByteArray) (p:RP):List ByteArray→Nat→Int×RP
 | [],_=>(0,zAT 5 p)
 | n :: r,i=>if (n.toList==s.toList)=true then ((i:Int),zCm p) else vAtR s p r (i+1)
def vR (en:Int) (T:List Tok) (nm:List ByteArray) (p:RP):Int×RP:=if zAb (txR en T p) then vAtR (txR en T p) p nm 0 else (0,zAT 1 p)
def dig0 (s:ByteArray):Bool:=match s.data.toList with | []=>false | c :: _=>isD c
def zE4 (neg:Bool) (s:ByteArray):Bool:=!dig0 s || (neg&&(s.toList==[48]))
def zG9 (en:Int) (T:List Tok) (neg:Bool) (p:RP):Int×RP :=
 if zE4 neg (txR en T p)=true then (0,zAT 1 p) else ((if neg then -1 else 1) * digV (txR en T p).data.toList,zCm p)
def kR (en:Int) (T:List Tok) (p:RP):Int×RP :=
 if ((txR en T p).toList==[45])=true then zG9 en T true (zAU en T ⟨#[45]⟩ p) else zG9 en T false p
def zDA (en:Int) (T:List Tok) (p:RP):Bool×RP :=
 if ((txR en T (zAU en T ⟨#[91]⟩ p)).toList==[93])=true then (false,zAU en T ⟨#[93]⟩ (zAU en T ⟨#[91]⟩ p)) else (decide ((zAU en T ⟨#[91]⟩ p).er=0),zAU en T ⟨#[91]⟩ p)
def zBK (en:Int) (T:List Tok) (p:RP):Bool×RP :=
 if ((txR en T p).toList==[44])=true then (true,zAU en T ⟨#[44]⟩ p) else (false,zAU en T ⟨#[93]⟩ p)
def zCJ {α:Type} (en:Int) (T:List Tok) (item:RP→α×RP):Nat→List α→Bool×RP→List α×RP
 | 0,acc,q=>(acc,q.2)
 | f+1,acc,q=>if q.1=true then zCJ en T item f (acc++[(item q.2).1]) (zBK en T (item q.2).2) else (acc,q.2)
def zAV {α:Type} (en:Int) (T:List Tok) (item:RP→α×RP) (p:RP):List α×RP:=zCJ en T item (T.length+2) [] (zDA en T p)
def litR (en:Int) (T:List Tok) (nm:List ByteArray) (p:RP):MLit×RP :=
 (⟨(vR en T nm p).1,1+(zAn en T (vR en T nm p).2 opWL.tail 0).1,(kR en T (zAn en T (vR en T nm p).2 opWL.tail 0).2).1⟩,(kR en T (zAn en T (vR en T nm p).2 opWL.tail 0).2).2)
def zJH {α:Type} (f:RP→α×RP):Prop:=∀p,p.er≠0→(f p).2=p
theorem zBv (e:Int) (p:RP) (h:p.er≠0):zAT e p=p:=by unfold zAT;rw[if_neg h]
theorem zBn (en:Int) (T:List Tok) (s:ByteArray) (p:RP) (h:p.er≠0):zAU en T s p=p:=by unfold zAU;rw[if_neg h]
theorem zDB (en:Int) (T:List Tok) (p:RP) (h:p.er≠0):txR en T p=ByteArray.empty:=by unfold txR;rw[if_neg h]
theorem zDw (en:Int) (T:List Tok) (p:RP) (h:p.er≠0):∀(ws:List ByteArray) (i:Nat),(zAn en T p ws i).2=p
 | [],i=>by unfold zAn;exact zBv 1 p h
 | s :: r,i=>by unfold zAn;rw[if_neg (fun hq=>h hq.1)];exact zDw en T p h r (i+1)
theorem zCn:zAb ByteArray.empty=false:=by decide +kernel
theorem zTj (en:Int) (T:List Tok) (nm:List ByteArray):zJH (vR en T nm):=fun p h=>by
 unfold vR;rw[zDB en T p h,zCn];exact zBv 1 p h
theorem zJ8 (en:Int) (T:List Tok) (neg:Bool):zJH (zG9 en T neg):=fun p h=>by
 unfold zG9;rw[zDB en T p h,if_pos (by unfold zE4;rfl)]
 exact zBv 1 p h
theorem zNF (en:Int) (T:List Tok):zJH (kR en T):=fun p h=>by
 unfold kR;rw[zDB en T p h,if_neg (by decide +kernel)]
 exact zJ8 en T false p h
theorem zNG (en:Int) (T:List Tok) (p:RP) (h:p.er≠0):zDA en T p=(false,p):=by
 unfold zDA;rw[zBn en T _ p h,zDB en T p h,if_neg (by decide +kernel)]
 simp[h]
theorem zIv (en:Int) (T:List Tok) (p:RP) (h:p.er≠0):zBK en T p=(false,p):=by
 unfold zBK;rw[zDB en T p h,if_neg (by decide +kernel),zBn en T _ p h]
theorem zPJ {α:Type} (en:Int) (T:List Tok) (item:RP→α×RP):zJH (zAV en T item):=fun p h=>by
 unfold zAV;rw[zNG en T p h];unfold zCJ;rfl
structure RC where
 N:Nat
 NB:Nat
 R:Nat
 en:Int
 T:List Tok
 nm:List ByteArray
 vv:Value
 vc:Value
 g:Int
 x:Int
def NArg (R NB:Nat) (w:World) (v:Value) (l:List ByteArray):Prop :=
 ∃a c,v=.slice a l.length c∧(l.length≤c∧c≤maxLen)∧∀(i:Nat) (t:ByteArray),l[i]? = some t→∃b off,a=some ⟨b,off,none⟩∧b≠R∧b<NB∧w.cell? ⟨b,off+i * 3,none⟩=some (.string t)
abbrev XR9 (R:Nat):Nat→Prop:=fun k=>k=R
theorem NArg.fr {R NB:Nat} {w w':World} {v:Value} {l:List ByteArray} (h:NArg R NB w v l) (hn:NB≤w.heap.size) (hf:Fr (XR9 R) w w'):NArg R NB w' v l:=by
 obtain⟨a,c,hv,hm,hr⟩:=h;refine⟨a,c,hv,hm,fun i t ht=>?_⟩
 obtain⟨b,off,ha,hb,hlt,hc⟩:=hr i t ht;exact⟨b,off,ha,hb,hlt,(hf.cell (p:=⟨b,off+i * 3,none⟩) (Nat.lt_of_lt_of_le hlt hn) hb).trans hc⟩
structure RSt (c:RC) (p:RP) (w:World):Prop where
 le:c.N≤c.R
 Nw:c.N≤w.heap.size
 nb:c.NB≤w.heap.size
 kT:p.k≤c.T.length
 dg:∀t∈c.T,dig0 t.text=true→t.kind=2
 nms:NArg c.R c.NB w c.vv c.nm
 blk:∃v,w.heap[c.R]? = some (.cells #[v,.int .i64 p.k,.int .i64 c.en,.int .i64 p.er,c.vv,c.vc,.int .i64 c.g,.int .i64 c.x] 99)∧TArg c.N w v c.T
theorem RSt.lt {c:RC} {p:RP} {w:World} (h:RSt c p w):c.R<w.heap.size:=by
 obtain⟨v,hb,_⟩:=h.blk;exact (Array.getElem?_eq_some_iff.1 hb).1
theorem RSt.below {c:RC} {p:RP} {w w':World} (h:RSt c p w) (hb:Below w.heap.size w w'):RSt c p w':=by
 have hlt:=h.lt;obtain⟨h1,h2,hn,h3,hd,h4,v,hR,hT⟩:=h;exact⟨h1,Nat.le_trans h2 hb.size,Nat.le_trans hn hb.size,h3,hd,h4.fr hn (Fr.below hb),v,(hb.block _ hlt).trans hR,hT.old fun q hq=>hb.cell (Nat.lt_of_lt_of_le hq h2)⟩
theorem RSt.grown {c:RC} {p:RP} {w w':World} {row:Option Nat} (h:RSt c p w) (hg:w.grownBy w' row) (hr:∀k,row=some k→k≠c.R∧c.N≤k∧c.NB≤k):RSt c p w':=by
 have hlt:=h.lt;obtain⟨h1,h2,hn,h3,hd,h4,v,hR,hT⟩:=h;refine⟨h1,Nat.le_trans h2 hg.size,Nat.le_trans hn hg.size,h3,hd,?_,v,(hg.block c.R hlt (fun e=>(hr _ e.symm).1 rfl)).trans hR,hT.old fun q hq=>World.cell?_of_block (hg.block _ (by omega) (fun e=>by have:=(hr _ e.symm).2.1;omega))⟩
 obtain⟨a,cc,hv,hm,hrr⟩:=h4;refine⟨a,cc,hv,hm,fun i t ht=>?_⟩
 obtain⟨b,off,ha,hb,hlt,hc⟩:=hrr i t ht;exact⟨b,off,ha,hb,hlt,(World.cell?_of_block (hg.block _ (by show b<_;omega) (fun e=>by have:=(hr _ e.symm).2.2;simp only at this;omega))).trans hc⟩
theorem zE5 (R i:Nat) (w:World) (u:Value):Fr (XR9 R) w (w.setCell ⟨R,i,none⟩ u):=Fr.setX (X:=XR9 R) (Fr.refl (XR9 R) w) (p:=⟨R,i,none⟩) rfl _
theorem RSt.setAt {c:RC} {p:RP} {w:World} (h:RSt c p w) (k':Nat) (hk:k'≤c.T.length):RSt c ⟨k',p.er⟩ (w.setCell ⟨c.R,1,none⟩ (.int .i64 (k':Int))):=by
 obtain⟨h1,h2,hn,h3,hd,h4,v,hb,hT⟩:=h;refine⟨h1,by simpa using h2,by simpa using hn,hk,hd,h4.fr hn (zE5 _ _ _ _),v,?_,hT.old fun q hq=>World.cell?_of_block (Below.heap_setCell _ _ _ _ (by simp only;omega))⟩
 rw[heap_setCell_same w c.R 1 _ _ _ hb];rfl
theorem RSt.setE {c:RC} {p:RP} {w:World} (h:RSt c p w) (e':Int):RSt c ⟨p.k,e'⟩ (w.setCell ⟨c.R,3,none⟩ (.int .i64 e')):=by
 obtain⟨h1,h2,hn,h3,hd,h4,v,hb,hT⟩:=h;refine⟨h1,by simpa using h2,by simpa using hn,h3,hd,h4.fr hn (zE5 _ _ _ _),v,?_,hT.old fun q hq=>World.cell?_of_block (Below.heap_setCell _ _ _ _ (by simp only;omega))⟩
 rw[heap_setCell_same w c.R 3 _ _ _ hb];rfl
theorem zA2 {w w':World} {n:Nat} (h:w'=w.drewN n):Below w.heap.size w w':=by rw[h];exact below_drewN (Below.refl _ _) _
theorem zGm (en:Int) (T:List Tok) (k:Nat) (t:Tok) (h:T[k]? = some t):zAI en (T.drop k)=t:=by
 obtain⟨hk,rfl⟩:=List.getElem?_eq_some_iff.1 h;rw[List.drop_eq_getElem_cons hk];rfl
theorem zHj (en:Int) (T:List Tok) (k:Nat) (h:T.length≤k):zAI en (T.drop k)=⟨0,en,ByteArray.empty⟩:=by
 rw[List.drop_eq_nil_of_le h];rfl
theorem zCK (c:RC) (p:RP) (w:World) (h:RSt c p w) :
 Calls Tryz.prog 58 #[.pointer (some ⟨c.R,0,none⟩)] w fun e w'=>e=.returned (.string (txR c.en c.T p))∧∃n,w'=w.drewN n:=by
 obtain⟨N,NB,R,en,T,nm,vv,vc,g,x⟩:=c;obtain⟨k,er⟩:=p;obtain⟨h1,h2,hn,h3,hd,h4,v,hR,hT⟩:=h
 dsimp only at *
 obtain⟨a,c,rfl,hm,ht,hr⟩:=hT;have k0:w.cell? ⟨R,0,none⟩=some (.slice a T.length c):=blk9 hR 0 _ rfl;have k1:w.cell? ⟨R,1,none⟩=some (.int .i64 (k:Int)):=blk9 hR 1 _ rfl;have k3:w.cell? ⟨R,3,none⟩=some (.int .i64 er):=blk9 hR 3 _ rfl;unfold maxLen at hm;clear hR hd h4;by_cases he:er=0
 ·subst he
  by_cases hk:k<T.length
  ·obtain⟨t,htk⟩:∃t,T[k]? = some t:=⟨T[k],List.getElem?_eq_getElem hk⟩
   obtain⟨b,off,rfl,hb,c0,c1,c2⟩:=hr k t htk;have HE:Hid (txR en T ⟨k,0⟩=t.text):=by
    show _=_;unfold txR;rw[if_pos rfl,zGm en T k t htk]
   rw[HE.out];have q1:decide ((T.length:Int)≤(k:Int))=false:=by simp;omega
   have q2:¬((T.length:Int)≤(k:Int)):=by omega
   have q3:(k:Int)<(T.length:Int):=by omega
   have q4:decide (T.length≤k)=false:=by simp;omega
   clear hr htk;go_enter Tryz.func58,Tryz.ntmps58
   go_wp2
   go_quiet (fail)
   go_wp2
   go_quiet (fail)
   go_wp2
   go_ret
   exact⟨rfl,_,zD0 _ _ _⟩
  ·have HE:Hid (txR en T ⟨k,0⟩=ByteArray.empty):=by
    show _=_;unfold txR;rw[if_pos rfl,zHj en T k (by omega)]
   rw[HE.out];have q1:decide ((T.length:Int)≤(k:Int))=true:=by simp;omega
   have q2:(T.length:Int)≤(k:Int):=by omega
   have q4:decide (T.length≤k)=true:=by simp;omega
   clear hr;go_enter Tryz.func58,Tryz.ntmps58
   go_wp2
   go_quiet (fail)
   go_wp2
   go_ret
   exact⟨rfl,_,rfl⟩
 ·have HE:Hid (txR en T ⟨k,er⟩=ByteArray.empty):=by show _=_;unfold txR;rw[if_neg he]
  rw[HE.out];have q0:(er != 0)=true:=by simpa using he
  clear hr he;go_enter Tryz.func58,Tryz.ntmps58
  go_wp2
  go_quiet (fail)
  go_wp2
  go_ret
  exact⟨rfl,_,rfl⟩
theorem zRB (c:RC) (p:RP) (w:World) (h:RSt c p w) :
 Calls Tryz.prog 65 #[.pointer (some ⟨c.R,0,none⟩)] w fun e w'=>e=.returned (.int .i64 (zAI c.en (c.T.drop p.k)).place)∧∃n,w'=w.drewN n:=by
 obtain⟨N,NB,R,en,T,nm,vv,vc,g,x⟩:=c;obtain⟨k,er⟩:=p;obtain⟨h1,h2,hn,h3,hd,h4,v,hR,hT⟩:=h
 dsimp only at *
 obtain⟨a,c,rfl,hm,ht,hr⟩:=hT;have k0:w.cell? ⟨R,0,none⟩=some (.slice a T.length c):=blk9 hR 0 _ rfl;have k1:w.cell? ⟨R,1,none⟩=some (.int .i64 (k:Int)):=blk9 hR 1 _ rfl;have k2:w.cell? ⟨R,2,none⟩=some (.int .i64 en):=blk9 hR 2 _ rfl;unfold maxLen at hm;clear hR hd h4;by_cases hk:k<T.length
 ·obtain⟨t,htk⟩:∃t,T[k]? = some t:=⟨T[k],List.getElem?_eq_getElem hk⟩
  obtain⟨b,off,rfl,hb,c0,c1,c2⟩:=hr k t htk;rw[zGm en T k t htk];have q3:(k:Int)<(T.length:Int):=by omega
  have q4:decide (k<T.length)=true:=by simp;omega
  have q5:decide ((k:Int)<(T.length:Int))=true:=by simp;omega
  clear hr htk;go_enter Tryz.func65,Tryz.ntmps65
  go_wp2
  go_quiet (fail)
  go_wp2
  go_quiet (fail)
  go_wp2
  go_ret
  exact⟨rfl,_,zD0 _ _ _⟩
 ·rw[zHj en T k (by omega)]
  have q2:¬(k:Int)<(T.length:Int):=by omega
  have q4:decide (k<T.length)=false:=by simp;omega
  have q5:decide ((k:Int)<(T.length:Int))=false:=by simp;omega
  clear hr;go_enter Tryz.func65,Tryz.ntmps65
  go_wp2
  go_quiet (fail)
  go_wp2
  go_ret
  exact⟨rfl,_,rfl⟩
theorem zBX (c:RC) (p:RP) (e':Int) (w:World) (h:RSt c p w) :
 Calls Tryz.prog 60 #[.pointer (some ⟨c.R,0,none⟩),.int .i64 e'] w fun e w'=>e=.returned (.tuple #[])∧RSt c (zAT e' p) w'∧Fr (XR9 c.R) w w':=by
 have HS:Hid (RSt c p w):=h;obtain⟨N,NB,R,en,T,nm,vv,vc,g,x⟩:=c;obtain⟨k,er⟩:=p;obtain⟨h1,h2,hn,h3,hd,h4,v,hR,hT⟩:=h
 dsimp only at *
 have k3:w.cell? ⟨R,3,none⟩=some (.int .i64 er):=blk9 hR 3 _ rfl;have z3:=frz9 hR 3;clear hR hT hd h4;by_cases he:er=0
 ·subst he
  have HE:Hid (RSt ⟨N,NB,R,en,T,nm,vv,vc,g,x⟩ (zAT e' ⟨k,0⟩) (w.setCell ⟨R,3,none⟩ (.int .i64 e'))):=by
   have h:=HS.out.setE e';unfold zAT;rw[if_pos rfl];exact h
  have HF:Hid (Fr (XR9 R) w (w.setCell ⟨R,3,none⟩ (.int .i64 e'))):=zE5 _ _ _ _;go_enter Tryz.func60,Tryz.ntmps60
  go_wp2
  go_end0
  exact⟨rfl,HE.out,HF.out⟩
 ·have HE:Hid (RSt ⟨N,NB,R,en,T,nm,vv,vc,g,x⟩ (zAT e' ⟨k,er⟩) w):=by rw[zBv _ _ he];exact HS.out
  have q0:(er==0)=false:=by simpa using he
  clear he;go_enter Tryz.func60,Tryz.ntmps60
  go_wp2
  go_end0
  exact⟨rfl,HE.out,Fr.refl _ _⟩
theorem zRC (en:Int) (T:List Tok) (p:RP) (h:(ByteArray.empty.toList==(txR en T p).toList)=false):p.er=0∧p.k<T.length:=by
 unfold txR at h;by_cases he:p.er=0
 ·rw[if_pos he] at h
  refine⟨he,?_⟩;apply Classical.byContradiction;intro hk;rw[zHj en T p.k (by omega)] at h
  simp at h
 ·rw[if_neg he] at h
  simp at h
theorem RSt.step {c:RC} {p:RP} {w:World} (h:RSt c p w) (hk:p.k<c.T.length):RSt c (zCm p) (w.setCell ⟨c.R,1,none⟩ (.int .i64 ((p.k:Int)+1))):=by
 have:=h.setAt (p.k+1) (by omega)
 rw[Int.natCast_add] at this;exact this
theorem zBo (c:RC) (p:RP) (s:ByteArray) (hs:zBz s) (w:World) (h:RSt c p w) :
 Calls Tryz.prog 59 #[.pointer (some ⟨c.R,0,none⟩),.string s] w fun e w'=>e=.returned (.tuple #[])∧RSt c (zAU c.en c.T s p) w'∧Fr (XR9 c.R) w w':=by
 have HS:Hid (RSt c p w):=h;obtain⟨B,hB⟩:∃B,((txR c.en c.T p).toList==s.toList)=B:=⟨_,rfl⟩;have HBB:Hid (((txR c.en c.T p).toList==s.toList)=B):=hB;have hk3:=h.kT;obtain⟨v,hR,hT⟩:=h.blk;have hT4:c.T.length≤4000:=by obtain⟨a,c,_,_,ht,_⟩:=hT;exact ht.1
 have k3:w.cell? ⟨c.R,3,none⟩=some (.int .i64 p.er):=blk9 hR 3 _ rfl;have k1:w.cell? ⟨c.R,1,none⟩=some (.int .i64 (p.k:Int)):=blk9 hR 1 _ rfl;have z1:=frz9 hR 1;have hlt:=h.lt;have HSO:Hid (zBz s):=hs;clear hR hT h hs hB;by_cases he:p.er=0
 ·have HE0:Hid (p.er=0):=he
  rw[he] at k3;clear he;go_enter Tryz.func59,Tryz.ntmps59
  go_wp2_with fail
  refine (zCK c p _ HS.out).mono ?_;rintro e w1 ⟨rfl,n1,h1⟩;have hb:=zA2 h1;have HS1:Hid (RSt c p w1):=HS.out.below hb;have HF1:Hid (Fr (XR9 c.R) w w1):=Fr.below hb;have j1:=(hb.cell (p:=⟨c.R,1,none⟩) hlt).trans k1;obtain⟨v,hR,_⟩:=HS1.out.blk;have y1:=frz9 hR 1;clear hR h1 hb k1 k3 z1 hlt;cases B
  ·have HN:Hid (zAU c.en c.T s p=zAT 1 p):=by show _=_;unfold zAU;rw[if_pos HE0.out,HBB.out,if_neg (by simp)]
   have hq:=HBB.out;go_wp2_with fail
   refine (zBX c p 1 _ HS1.out).mono ?_;rintro e w2 ⟨rfl,h2,hf2⟩;have HS2:Hid (RSt c (zAT 1 p) w2):=h2;have HF2:Hid (Fr (XR9 c.R) w w2):=HF1.out.trans hf2;clear h2 hf2 j1 y1;go_wp2
   go_end0
   exact⟨rfl,by rw[HN.out];exact HS2.out,HF2.out⟩
  ·have HN:Hid (zAU c.en c.T s p=zCm p):=by show _=_;unfold zAU;rw[if_pos HE0.out,HBB.out,if_pos rfl]
   have hk:p.k<c.T.length:=(zRC c.en c.T p (by have h1:=HSO.out;unfold zBz at h1;have h2:=HBB.out;rw[beq_iff_eq] at h2;rw[h2];exact h1)).2
   have HS2:Hid (RSt c (zCm p) (w1.setCell ⟨c.R,1,none⟩ (.int .i64 ((p.k:Int)+1)))):=HS1.out.step hk;have HF2:Hid (Fr (XR9 c.R) w (w1.setCell ⟨c.R,1,none⟩ (.int .i64 ((p.k:Int)+1)))):=HF1.out.trans (zE5 _ _ _ _);have hq:=HBB.out;go_wp2
   go_end0
   exact⟨rfl,by rw[HN.out];exact HS2.out,HF2.out⟩
 ·have HN:Hid (zAU c.en c.T s p=p):=zBn _ _ _ _ he
  have HW:Hid (zAT 1 p=p):=zBv _ _ he;have q0:(p.er==0)=false:=by simpa using he
  clear he;go_enter Tryz.func59,Tryz.ntmps59
  go_wp2_with fail
  refine (zBX c p 1 _ HS.out).mono ?_;rintro e w2 ⟨rfl,h2,hf2⟩;have HS2:Hid (RSt c p w2):=by rw[HW.out] at h2;exact h2
  have HF2:Hid (Fr (XR9 c.R) w w2):=hf2;clear h2 hf2 k1 k3 z1;go_wp2
  go_end0
  exact⟨rfl,by rw[HN.out];exact HS2.out,HF2.out⟩
end Go.Proofs.YtdjbejlbmaiocagGreatDoor
