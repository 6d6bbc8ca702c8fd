/- What the proof leans on, part 47. -/
import Derived.Test.YtdjbejlbmaiocagGreatDoorPartBt
import Derived.Test.YtdjbejlbmaiocagGreatDoorPartBh
import Derived.Test.YtdjbejlbmaiocagGreatDoorPartBb
import Derived.Lib.AppendIntMem
import Derived.Test.YtdjbejlbmaiocagGreatDoorPartBk
import Derived.Test.YtdjbejlbmaiocagGreatDoorPartBa
set_option maxRecDepth 100000
set_option maxHeartbeats 3200000
namespace Go.Proofs.YtdjbejlbmaiocagGreatDoor
theorem zRb (en:Int) (T:List Tok) (p:RP):∀(ws:List ByteArray) (i:Nat),(zAn en T p ws i).1=0∨((i:Int)≤(zAn en T p ws i).1∧(zAn en T p ws i).1<((i+ws.length:Nat):Int))
 | [],i=>by unfold zAn;exact Or.inl rfl
 | s :: r,i=>by
   unfold zAn
   split
   ·right;dsimp only;simp only[List.length_cons];omega
   ·rcases zRb en T p r (i+1) with h | h
    ·exact Or.inl h
    ·right;simp only[List.length_cons] at h ⊢;omega
def OpIn (l:MLit):Prop:=1≤l.op∧l.op≤4
theorem zTF (en:Int) (T:List Tok) (nm:List ByteArray) (p:RP):OpIn (litR en T nm p).1:=by
 unfold litR OpIn
 dsimp only
 have:=zRb en T (vR en T nm p).2 opWL.tail 0;have e:opWL.tail.length=4:=rfl;rw[e] at this;omega
theorem zOG {α:Type} (en:Int) (T:List Tok) (item:RP→α×RP) (P:α→Prop) (hi:∀p,P (item p).1):∀(f:Nat) (acc:List α) (q:Bool×RP),(∀x∈acc,P x)→∀x∈(zCJ en T item f acc q).1,P x
 | 0,acc,q,h=>by unfold zCJ;exact h
 | f+1,acc,q,h=>by
   unfold zCJ
   split
   ·refine zOG en T item P hi f _ _ (fun x hx=>?_)
    rcases List.mem_append.1 hx with hx | hx
    ·exact h x hx
    ·rw[List.mem_singleton.1 hx];exact hi _
   ·exact h
theorem zS2 {α:Type} (en:Int) (T:List Tok) (item:RP→α×RP) (P:α→Prop) (hi:∀p,P (item p).1) (p:RP):∀x∈(zAV en T item p).1,P x :=
 zOG en T item P hi _ _ _ (fun x hx=>by cases hx)
theorem zRc {α:Type} (en:Int) (T:List Tok) (wd:List UInt8) (item:RP→α×RP) (P:α→Prop) (hi:∀p,P (item p).1):∀(f:Nat) (acc:List α) (p:RP),(∀x∈acc,P x)→∀x∈(rowR en T wd item f acc p).1,P x
 | 0,acc,p,h=>by unfold rowR;exact h
 | f+1,acc,p,h=>by
   unfold rowR
   split
   ·refine zRc en T wd item P hi f _ _ (fun x hx=>?_)
    rcases List.mem_append.1 hx with hx | hx
    ·exact h x hx
    ·rw[List.mem_singleton.1 hx];exact hi _
   ·exact h
theorem zUL (en:Int) (T:List Tok) (nm:List ByteArray) (p:RP):∀l∈(conR en T nm p).1.lits,OpIn l:=by
 unfold conR;generalize (zAn en T p zBy.tail 0).2=p1;generalize 1+(zAn en T p zBy.tail 0).1=k;unfold zFZ
 split
 ·intro l hl;cases hl
 split
 ·intro l hl;cases hl
 split
 ·intro l hl;cases hl
 split
 ·intro l hl;cases hl
 split
 ·intro l hl;cases hl
 split
 ·intro l hl;cases hl
 split
 ·exact zS2 en T (litR en T nm) OpIn (zTF en T nm) p1
 split
 ·intro l hl;rw[List.mem_singleton.1 hl];exact zTF en T nm _
 ·intro l hl;cases hl
theorem zPS (en:Int) (T:List Tok) (p:RP):zTD (zDD en T p).1:=by
 intro c hc;unfold zDD at hc;exact zRc en T [99,111,110] _ (fun c=>∀l∈c.lits,OpIn l) (fun p=>zUL en T _ _) _ _ _ (fun x hx=>by cases hx) c hc
theorem zI4 (s:ByteArray):zDH s=zAy s:=by
 unfold zDH zAy;by_cases h0:(zAO s).2.2=0
 ·rw[if_pos h0,if_pos h0]
  have hm:=zPQ (s.size:Int) (zAO s).1 (zKD s) ⟨0,0⟩ rfl (Nat.zero_le _);have hl:=zPS (s.size:Int) (zAO s).1 ⟨0,0⟩;rw[show (zAO s).1.drop (⟨0,0⟩:RP).k=(zAO s).1 from rfl] at hm
  unfold zEU;cases hq:zIc (s.size:Int) (zAO s).1 with
  | ok m r =>
    rw[hq] at hm;obtain⟨e1,e2,e3,e4⟩:=hm;have h1:=zMB _ hl;have h2:=zNO _ _ e4;rw[if_pos e1]
    dsimp only
    rw[if_pos rfl,h1,h2.1];by_cases hc:zAF m=0
    ·rw[if_pos hc,if_pos hc,h2.2 hc]
    ·rw[if_neg hc,if_neg hc]
  | bad x e =>
    rw[hq] at hm;obtain⟨e1,e2,e3,e4⟩:=hm;rw[if_neg (by rw[e1];exact e2)]
    dsimp only
    rw[if_neg e2,e3,e1]
 ·rw[if_neg h0,if_neg h0]
open Go.RowKit
def TabN (N:Nat) (w:World):Prop:=Lib.TabIs Tryz.prog w "internal/strconv.uint64pow10" .u64 Lib.pow10Tab∧∀g,Tryz.prog.globalNamed "internal/strconv.uint64pow10" = some g→g<N
theorem TabN.fr {X:Nat→Prop} {N:Nat} {w w':World} (h:TabN N w) (hf:Fr X w w') (hX:∀k,X k→N≤k):TabN N w':=by
 refine⟨?_,h.2⟩;have h1:=h.1;unfold Lib.TabIs World.var? at h1 ⊢;cases hg:Tryz.prog.globalNamed "internal/strconv.uint64pow10" with
 | none=>rw[hg] at h1;exact h1
 | some g =>
   rw[hg] at h1;have hlt:g<w.heap.size:=by
    rcases Nat.lt_or_ge g w.heap.size with h' | h'
    ·exact h'
    ·simp[Array.getElem?_eq_none h'] at h1
   have hb:=hf.block g hlt (fun hx=>by have:=hX g hx;have:=h.2 g hg;omega)
   simp only[Option.bind_some] at h1 ⊢;rw[hb];exact h1
theorem TabN.below {N:Nat} {w w':World} (h:TabN N w) (hb:Below w.heap.size w w'):TabN N w':=h.fr (X:=fun _=>False) (Fr.below hb) (fun _ hk=>hk.elim)
structure PrS (N B b:Nat) (vsl:Value) (l:List UInt8) (w:World):Prop where
 nb:N≤b
 bB:b<B
 Bw:B≤w.heap.size
 tab:TabN N w
 blk:∃p buf,(p=.pointer none∨p=.pointer (some ⟨b,0,none⟩))∧w.heap[b]? = some (.cells #[p,buf,vsl] 166)∧w.ownsRow B 5 1 buf l.length (Lib.byteCells l)
theorem PrS.below {N B b:Nat} {vsl:Value} {l:List UInt8} {w w':World} (h:PrS N B b vsl l w) (hb:Below w.heap.size w w'):PrS N B b vsl l w':=by
 obtain⟨h1,h2,h3,h4,p,buf,hp,hk,ho⟩:=h;exact⟨h1,h2,Nat.le_trans h3 hb.size,h4.below hb,p,buf,hp,(hb.block b (by omega)).trans hk,zAG ho hb⟩
theorem zHY (s:ByteArray):∀(f k:Nat) (acc:List Tok),(∀t∈acc,0≤t.place∧t.place≤(s.size:Int))→(∀t∈(zDE f s k acc).1,0≤t.place∧t.place≤(s.size:Int))∧(zDE f s k acc).2.1≤s.size
 | 0,_,_,h=>⟨h,Nat.zero_le _⟩
 | f+1,k,acc,h=>by
   unfold zDE;by_cases h1:zAS false s.data.toList k<s.size
   ·rw[if_pos h1]
    split
    ·refine zHY s f _ _ fun t ht=>?_
     rcases List.mem_append.1 ht with ht | ht
     ·exact h t ht
     ·rw[List.mem_singleton.1 ht]
      unfold zAj
      split
      ·exact⟨Int.le_refl _,by simp⟩
      ·simp only;omega
    ·exact⟨fun t ht=>by simp at ht,by simp only;omega⟩
   ·rw[if_neg h1]
    exact⟨h,Nat.zero_le _⟩
theorem zMI (N:Int) (hN:0≤N) (l:List Tok) (h:∀t∈l,0≤t.place∧t.place≤N):0≤(zAI N l).place∧(zAI N l).place≤N:=by
 cases l with
 | nil=>exact⟨hN,Int.le_refl _⟩
 | cons t l=>exact h t (List.mem_cons_self ..)
theorem zI5 (s:ByteArray) (h4:¬4000<s.size):-1000000≤(zAy s).2.1∧(zAy s).2.1≤1000000:=by
 rw[←zI4];have hsc:(∀t∈(zAO s).1,0≤t.place∧t.place≤(s.size:Int))∧(zAO s).2.1≤s.size:=by
  unfold zAO;rw[if_neg h4];exact zHY s _ _ _ (fun t ht=>by simp at ht)
 unfold zDH
 split
 ·split
  ·split
   ·simp only;omega
   ·simp only;omega
  ·have:=zMI (s.size:Int) (by omega) ((zAO s).1.drop (zDD s.size (zAO s).1 ⟨0,0⟩).2.k) (fun t ht=>hsc.1 t (List.mem_of_mem_drop ht))
   simp only;omega
 ·simp only
  have:=hsc.2;omega
theorem zGo (m:Mod) (hm:zAF m=0) (hg:m.goal=1∨m.goal=2):∀(N:Nat) (R:Int×List Int×Sk) (b:List Int),zEA m R<N→(R.1=1→Sol m R.2.1)→(R.1=1∨R.1=2∨R.1=3)→((zBc m R b).verdict=1∨(zBc m R b).verdict=2∨(zBc m R b).verdict=3)
 | 0,R,b,h,_,_=>by omega
 | N+1,R,b,h,hs,hb=>by
   rw[zDR m hm hg R b hs]
   split
   ·rename_i h1
    refine zGo m hm hg N _ _ (by have:=zDQ m hm hg R h1 (hs h1);omega) (fun h=>(zBP m hm _ h).1) ?_
    obtain⟨_,_,_,n4,_⟩:=zCv m hm (fun _=>False) _ (zBl m R) (Nat.lt_succ_self _) (fun x _ hf=>hf.elim)
    exact n4
   ·split
    ·exact Or.inr (Or.inr rfl)
    ·split
     ·exact Or.inl rfl
     ·exact hb
theorem zMJ (m:Mod) (hm:zAF m=0) (fuel:Int) (hf:¬(fuel<0∨300<fuel)):(zBt m fuel).1.verdict=1∨(zBt m fuel).1.verdict=2∨(zBt m fuel).1.verdict=3:=by
 obtain⟨_,_,_,n4,_⟩:=zCv m hm (fun _=>False) _ (zC6 fuel) (Nat.lt_succ_self _) (fun x _ hf=>hf.elim)
 unfold zBt;by_cases hg:m.goal=0
 ·rw[if_pos hg]
  unfold zFQ;rw[if_pos hm,if_neg hf]
  split
  ·exact Or.inr (Or.inl rfl)
  ·exact n4
 ·rw[if_neg hg,if_pos hm,if_neg hf]
  obtain⟨_,_,hgo⟩:=zDa m hm;have hg2:m.goal=1∨m.goal=2:=by omega
  exact zGo m hm hg2 _ _ _ (Nat.lt_succ_self _) (fun h=>(zBP m hm _ h).1) n4
theorem zTx (m:Mod) (hm:zAF m=0) (fuel:Int):(∀x∈(zBt m fuel).1.values,-1000≤x∧x≤1000)∧(zBt m fuel).1.values.length≤m.vars.length:=by
 have hbv:=zIs m hm fuel;obtain⟨RX,hX⟩:∃RX,(zBt m fuel).1.values=RX:=⟨_,rfl⟩;rw[hX] at hbv ⊢;refine⟨fun x hx=>?_,?_⟩
 ·rcases hbv with h | h
  ·rw[h] at hx;cases hx
  ·obtain⟨i,hi⟩:=List.mem_iff_getElem?.1 hx
   have hil:=(List.getElem?_eq_some_iff.1 hi).1;have h1:RX.length=m.vars.length:=h.1.1;have h2:=h.1.2 i (by omega)
   have h3:=zCg m hm i (by omega)
   have h4:zAZ RX (i:Int)=x:=by unfold zAZ;rw[Int.toNat_natCast,List.getD_eq_getElem?_getD,hi];rfl
   change (zAK m.vars i).lo≤zAZ RX (i:Int)∧zAZ RX (i:Int)≤(zAK m.vars i).hi at h2
   omega
 ·rcases hbv with h | h
  ·rw[h];simp
  ·have h1:RX.length=m.vars.length:=h.1.1
   omega
theorem zMK (N:Nat) (s:ByteArray) (fuel:Int) (w:World) (hs:s.size≤maxLen) (hT:TabT w) (hN:TabN N w) (hNw:N≤w.heap.size) :
 Calls Tryz.prog 5 #[.string s,.int .i64 fuel] w fun e w'=>e=.returned (.bool true)∧Below w.heap.size w w':=by
 have HT:Hid (∀w',Below w.heap.size w w'→TabT w'):=fun w' h=>hT.below h
 have HN:Hid (∀w',Below w.heap.size w w'→TabN N w'∧N≤w'.heap.size):=fun w' h=>⟨hN.below h,Nat.le_trans hNw h.size⟩
 have HS:Hid (s.size≤maxLen):=hs;have HAA:Hid (Calls Tryz.prog 20 #[.string s,.int .i64 fuel] w fun e w'=>e=.returned (.tuple #[.string (zEV s fuel).1,.int .i64 (zEV s fuel).2])∧Below w.heap.size w w'):=zJ7 s hs fuel (zI5 s) w hT hN.1
 obtain⟨⟨T,E⟩,hR⟩:∃R,zEV s fuel=R:=⟨_,rfl⟩;rw[hR] at HAA;unfold zEV at hR;have HR:=(show Hid _ from hR)
 have HPL:Hid (¬4000<s.size→-1000000≤(zAy s).2.1∧(zAy s).2.1≤1000000):=zI5 s;clear hR hT hN hNw hs;go_enter Tryz.func5,Tryz.ntmps5
 go_wp2_with fail
 refine HAA.out.mono ?_;rintro e w1 ⟨rfl,hb1⟩;have HB1:Hid (Below w.heap.size w w1):=hb1;clear hb1;go_wp2_with fail
 refine (zL0 _ (HT.out _ HB1.out) (HN.out _ HB1.out).1.1).mono ?_;rintro e w2 ⟨rfl,hb2⟩;have HB2:Hid (Below w.heap.size w w2):=HB1.out.trans (hb2.mono HB1.out.size);clear hb2;go_wp2_with fail
 refine (zO4 _ (HT.out _ HB2.out)).mono ?_;rintro e w3 ⟨rfl,hb3⟩;have HB3:Hid (Below w.heap.size w w3):=HB2.out.trans (hb3.mono HB2.out.size);clear hb3;by_cases h4:4000<s.size
 ·have hR:=HR.out
  rw[if_pos h4] at hR;have e1:T=⟨#[]⟩:=(congrArg Prod.fst hR).symm;have e2:E=2:=(congrArg Prod.snd hR).symm;subst e1 e2;have h4':decide ((s.size:Int) > 4000)=true:=by simp;omega
  clear hR HR;go_wp2
  go_ret
  exact⟨rfl,HB3.out⟩
 ·have h4':decide ((s.size:Int) > 4000)=false:=by simp;omega
  by_cases hf:fuel<0∨300<fuel
  ·have hR:=HR.out
   rw[if_neg h4,if_pos hf] at hR;have e1:T=⟨#[]⟩:=(congrArg Prod.fst hR).symm;have e2:E=3:=(congrArg Prod.snd hR).symm;subst e1 e2;clear hR HR;by_cases hf0:fuel<0
   ·clear hf
    go_wp2
    go_ret
    exact⟨rfl,HB3.out⟩
   ·have hf1:300<fuel:=by rcases hf with h | h;exact absurd h hf0;exact h
    clear hf;go_wp2
    go_ret
    exact⟨rfl,HB3.out⟩
  ·have hR:=HR.out
   rw[if_neg h4,if_neg hf] at hR;have HR2:=(show Hid _ from hR)
   have hf0:¬fuel<0:=fun h=>hf (Or.inl h)
   have hf1:¬300<fuel:=fun h=>hf (Or.inr h)
   have HFF:Hid (¬(fuel<0∨300<fuel)):=hf;have hbd:=HPL.out h4;have HPM:Hid ((zAy s).2.2=0→zAF (zAy s).1=0):=zIt s;obtain⟨⟨m,at0,er⟩,hp⟩:∃P,zAy s=P:=⟨_,rfl⟩;have HPA:Hid (zDH s=(m,at0,er)):=(zI4 s).trans hp;rw[hp] at HR2 hbd HPM;simp only at hbd;clear hR HR hp hf;go_wp2_with fail
   refine (zPR s HS.out _).mono ?_;rintro e w4 ⟨vs,cs,rfl,hm4,hb4⟩;rw[HPA.out] at hm4 ⊢
   dsimp only at hm4 ⊢
   have HMA:Hid (∀w',Below w4.heap.size w4 w'→MArg w' vs cs m):=fun w' h=>MArg.below h hm4.marg
   have HB4:Hid (Below w.heap.size w w4):=HB3.out.trans (hb4.mono HB3.out.size);obtain⟨⟨a1,c1,rfl,_,_⟩,⟨a2,c2,rfl,_,_⟩⟩:=hm4.marg;unfold modV;clear hm4 hb4;by_cases he:er=0
   ·have hR:=HR2.out
    rw[if_pos he] at hR;have HCM:Hid (zAF m=0):=HPM.out he;subst he;have e1:E=0:=(congrArg Prod.snd hR).symm;have HTT:Hid (T=zFX m (zBt m fuel).1):=(congrArg Prod.fst hR).symm;subst e1;clear hR HR2 HPM;obtain⟨hin,hlen⟩:=zTx m HCM.out fuel;have hvd:=zMJ m HCM.out fuel HFF.out;have HBE:Hid ((zBt m fuel).2=0):=zOB m HCM.out fuel HFF.out;obtain⟨⟨⟨RV,RX,RP⟩,RE⟩,hB⟩:∃B,zBt m fuel=B:=⟨_,rfl⟩;have HBA:Hid (zBt m fuel=(⟨RV,RX,RP⟩,RE)):=hB;rw[hB] at hin hlen hvd HBE HTT;have hre:RE=0:=HBE.out;subst hre;have HAT:Hid (∀(Y:World) (vx:Value) (ap:Option Addr) (np cp:Nat),Below w4.heap.size w4 Y→IArg Y vx RX→Calls Tryz.prog 24 #[modV (.slice a1 m.vars.length c1) (.slice a2 m.cons.length c2) m,.agg #[.int .i64 RV,vx,.slice ap np cp]] Y fun e w'=>e=.returned (.string T)∧Below Y.heap.size Y w'):=fun Y vx ap np cp h1 h2=>by
     rw[HTT.out];exact zQ9 m ⟨RV,RX,RP⟩ hvd (fun x hx=>by have:=zJ5 m HCM.out x hx;omega) hlen ((zA9 m HCM.out).2.1) hin (fun x hx=>zJ6 x (hin x hx)) _ _ vx ap np cp Y (HMA.out _ h1) h2
    clear hB hin hlen hvd;go_wp2_with fail
    have hbY:Below w4.heap.size w4 (w4.alloc (.cells #[.slice a1 m.vars.length c1,.slice a2 m.cons.length c2,.int .i64 m.goal,.int .i64 m.var] 25)):=zAA _ _;have hblY:=heap_alloc_new w4 (.cells #[.slice a1 m.vars.length c1,.slice a2 m.cons.length c2,.int .i64 m.goal,.int .i64 m.var] 25);refine (zHh m fuel (.slice a1 m.vars.length c1) (.slice a2 m.cons.length c2) _ (HMA.out _ hbY) (HT.out _ (HB4.out.trans (hbY.mono HB4.out.size)))).mono ?_;rintro e w5 ⟨vv,pp,rfl,hq,hb5⟩;rw[HBA.out] at hq ⊢
    dsimp only at hq ⊢
    obtain⟨⟨ax,cx,rfl⟩,ap,np,cp,rfl⟩:=hq.forms;have HQ5:Hid (w5.heap[w4.heap.size]? = some (.cells #[.slice a1 m.vars.length c1,.slice a2 m.cons.length c2,.int .i64 m.goal,.int .i64 m.var] 25)):=(hb5.block _ (by simp)).trans hblY
    have HB45:Hid (Below w4.heap.size w4 w5):=hbY.trans (hb5.mono (by simp))
    have HX:Hid (∀Y,Below w5.heap.size w5 Y→IArg Y (.slice ax RX.length cx) RX):=fun Y hY=>IArg.below hY (zD5 hq.val)
    simp only;clear hb5 hbY hblY hq;have k0:=blk9 HQ5.out 0 _ rfl;have k1:=blk9 HQ5.out 1 _ rfl;have k2:=blk9 HQ5.out 2 _ rfl;have k3:=blk9 HQ5.out 3 _ rfl;have kl:=(Array.getElem?_eq_some_iff.1 HQ5.out).1;go_wp2_with fail
    have hbZ:Below w5.heap.size w5 (w5.alloc (.cells #[.int .i64 RV,.slice ax RX.length cx,.slice ap np cp] 29)):=zAA _ _;have hbZ1:=HB45.out.trans (hbZ.mono HB45.out.size);have HBZ:Hid (Below w.heap.size w (w5.alloc (.cells #[.int .i64 RV,.slice ax RX.length cx,.slice ap np cp] 29))):=HB4.out.trans (hbZ1.mono HB4.out.size);refine (HAT.out _ _ ap np cp hbZ1 (HX.out _ hbZ)).mono ?_;rintro e w6 ⟨rfl,hb6⟩;have HB6:Hid (Below w.heap.size w w6):=HBZ.out.trans (hb6.mono HBZ.out.size);clear hb6 hbZ hbZ1;go_wp2
    go_ret
    exact⟨rfl,HB6.out⟩
   ·have hR:=HR2.out
    rw[if_neg he] at hR;have e1:E=0:=(congrArg Prod.snd hR).symm;have HTT:Hid (T=zQ7 at0):=(congrArg Prod.fst hR).symm;subst e1;have he':(er != 0)=true:=by simpa using he
    have HIT:Hid (∀Y:World,Calls Tryz.prog 23 #[.int .i64 at0] Y fun e w'=>e=.returned (.string (zBG at0))∧Below Y.heap.size Y w'):=fun Y=>zG8 at0 hbd Y
    have his:=zIr at0 hbd;obtain⟨ix,hix⟩:∃ix,zBG at0=ix:=⟨_,rfl⟩;unfold zQ7 at HTT;rw[hix] at HIT his HTT;have z1:¬(9223372036854775807<5+ix.size):=by omega
    have z2:¬(9223372036854775807<5+ix.size+1):=by omega
    clear hR HR2 he hix;go_wp2_with fail
    refine (HIT.out _).mono ?_;rintro e w5 ⟨rfl,hb5⟩;rw[HTT.out];have HB5:Hid (Below w.heap.size w w5):=by
     have h1:=HB4.out.alloc HB4.out.size (.cells #[.slice a1 m.vars.length c1,.slice a2 m.cons.length c2,.int .i64 m.goal,.int .i64 m.var] 25);exact h1.trans (hb5.mono h1.size)
    clear hb5;go_wp2
    go_ret
    exact⟨rfl,HB5.out⟩
end Go.Proofs.YtdjbejlbmaiocagGreatDoor
