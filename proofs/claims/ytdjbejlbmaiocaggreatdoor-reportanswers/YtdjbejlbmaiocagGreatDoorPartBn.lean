/- What the proof leans on, part 40. -/
import Derived.Test.YtdjbejlbmaiocagGreatDoorPartBm
import Derived.Test.YtdjbejlbmaiocagGreatDoorPartBc
import Derived.Test.YtdjbejlbmaiocagGreatDoorPartBk
set_option maxRecDepth 100000
set_option maxHeartbeats 3200000
namespace Go.Proofs.YtdjbejlbmaiocagGreatDoor
open Go.RowKit
def zHX {α:Type} (f:RP→α×RP):Prop:=∀p,p.k≤(f p).2.k
theorem zHC (e:Int) (p:RP):(zAT e p).k=p.k:=by unfold zAT;split <;> rfl
theorem zKA (en:Int) (T:List Tok) (s:ByteArray) (p:RP):p.k≤(zAU en T s p).k:=by
 unfold zAU
 split
 ·split
  ·show p.k≤p.k+1;omega
  ·rw[zHC];exact Nat.le_refl _
 ·exact Nat.le_refl _
theorem zRK (en:Int) (T:List Tok) (p:RP):∀(ws:List ByteArray) (i:Nat),p.k≤(zAn en T p ws i).2.k
 | [],i=>by unfold zAn;show _≤(zAT 1 p).k;rw[zHC];exact Nat.le_refl _
 | s :: r,i=>by
   unfold zAn
   split
   ·show p.k≤p.k+1;omega
   ·exact zRK en T p r (i+1)
theorem zUI (s:ByteArray) (p:RP):∀(nm:List ByteArray) (i:Nat),p.k≤(vAtR s p nm i).2.k
 | [],i=>by unfold vAtR;show _≤(zAT 5 p).k;rw[zHC];exact Nat.le_refl _
 | n :: r,i=>by
   unfold vAtR
   split
   ·show p.k≤p.k+1;omega
   ·exact zUI s p r (i+1)
theorem v_k (en:Int) (T:List Tok) (nm:List ByteArray):zHX (vR en T nm):=fun p=>by
 unfold vR
 split
 ·exact zUI _ _ _ _
 ·show _≤(zAT 1 p).k;rw[zHC];exact Nat.le_refl _
theorem zTC (en:Int) (T:List Tok) (ng:Bool):zHX (zG9 en T ng):=fun p=>by
 unfold zG9
 split
 ·show _≤(zAT 1 p).k;rw[zHC];exact Nat.le_refl _
 ·show p.k≤p.k+1;omega
theorem k_k (en:Int) (T:List Tok):zHX (kR en T):=fun p=>by
 unfold kR
 split
 ·exact Nat.le_trans (zKA en T _ p) (zTC en T true _)
 ·exact zTC en T false p
theorem zTt (en:Int) (T:List Tok) (nm:List ByteArray):zHX (litR en T nm):=fun p =>
 Nat.le_trans (v_k en T nm p) (Nat.le_trans (zRK en T _ _ _) (k_k en T _))
theorem zKf (en:Int) (T:List Tok) (p:RP) (h:(zBK en T p).1=true):(zBK en T p).2.k=p.k+1:=by
 unfold zBK at h ⊢
 split at h
 ·rename_i hq
  rw[if_pos hq];have he:p.er=0:=by
   apply Classical.byContradiction;intro he;rw[zDB en T p he] at hq
   revert hq
   decide +kernel
  show (zAU en T ⟨#[44]⟩ p).k=p.k+1;unfold zAU;rw[if_pos he,if_pos (by rw[show (⟨#[44]⟩:ByteArray).toList=[44] by rw[ByteArray.toList_eq]];exact hq)]
  rfl
 ·cases h
def zNH (v:Value):Nat:=match v with | .slice _ n _=>n | _=>0
theorem zKg {α:Type} (en:Int) (T:List Tok) (item:RP→α×RP) (f:Nat) (acc:List α) (p:RP):zCJ en T item (f+1) acc (true,p)=zCJ en T item f (acc++[(item p).1]) (zBK en T (item p).2):=by
 conv=>lhs;unfold zCJ
 rfl
theorem zHk {α:Type} (en:Int) (T:List Tok) (item:RP→α×RP) (f:Nat) (acc:List α) (p:RP):zCJ en T item f acc (false,p)=(acc,p):=by
 cases f <;> (unfold zCJ;rfl)
theorem zIy (c:RC) (p:RP) (w:World) (h:RSt c p w) :
 Calls Tryz.prog 115 #[.pointer (some ⟨c.R,0,none⟩)] w fun e w'=>∃v,e=.returned v∧w'.ownsRow w.heap.size 3 1 v (zAV c.en c.T (kR c.en c.T) p).1.length ((zAV c.en c.T (kR c.en c.T) p).1.map (Value.int .i64))∧RSt c (zAV c.en c.T (kR c.en c.T) p).2 w'∧Fr (XR9 c.R) w w':=by
 have HS:Hid (RSt c p w):=h;obtain⟨Q,hQ⟩:∃Q,zAV c.en c.T (kR c.en c.T) p=Q:=⟨_,rfl⟩;rw[hQ];have HQ:Hid (zCJ c.en c.T (kR c.en c.T) (c.T.length+2) [] (zDA c.en c.T p)=Q):=hQ;have hT4:c.T.length≤4000:=by obtain⟨v,_,a,c,_,_,ht,_⟩:=h.blk;exact ht.1
 have HLT:=h.lt;have HNW:Hid (c.N≤w.heap.size∧c.NB≤w.heap.size):=⟨h.Nw,h.nb⟩;obtain⟨i0,hi,hz0,hz1,hz2⟩:=info_parts Tryz.infoInt5;clear h hQ;go_enter Tryz.func115,Tryz.ntmps115
 go_wp2_with fail
 refine (zFk c p _ HS.out).mono ?_;rintro e w1 ⟨rfl,h1,hf1⟩;obtain⟨q,hq⟩:∃q,zDA c.en c.T p=q:=⟨_,rfl⟩;rw[hq] at HQ h1 ⊢;obtain⟨b,p1⟩:=q;have HS1:Hid (RSt c p1 w1):=h1;have HF1:Hid (Fr (XR9 c.R) w w1):=hf1;clear h1 hf1 hq
 dsimp only
 go_wp2_with fail
 go_loopw [3,4] (fun o mo wr=>∃(f:Nat) (acc:List Int) (b:Bool) (p:RP),Hid (zCJ c.en c.T (kR c.en c.T) f acc (b,p)=Q)∧mo=.bool b∧Hid (RSt c p wr)∧wr.ownsRow w.heap.size 3 1 o acc.length (acc.map (Value.int .i64))∧Hid (Fr (XR9 c.R) w wr)∧acc.length+f=c.T.length+2∧(b=true→c.T.length+2≤f+p.k)) (fun o _ _=>c.T.length+3 - zNH o)
 case atStart=>exact⟨c.T.length+2,[],b,p1,HQ,rfl,HS1,World.ownsRow_nil _ _ _ _,HF1,by simp,fun _=>by omega⟩
 case round =>
  obtain⟨f,acc,b,p2,HQ2,rfl,HS2,hown,HF2,haf,hbf⟩:=hrel;have HOW:Hid (wr.ownsRow w.heap.size 3 1 u3 acc.length (acc.map (Value.int .i64))):=hown;obtain⟨al,cl,rfl⟩:=zAB hown;have HKT:=HS2.out.kT;clear hown;cases b
  ·have HE:Hid (Q=(acc,p2)):=HQ2.out.symm.trans (zHk _ _ _ _ _ _)
   clear hbf;go_wp2
   go_ret
   exact⟨_,rfl,by rw[HE.out];exact HOW.out,by rw[HE.out];exact HS2.out,HF2.out⟩
  ·have hbf2:=hbf rfl
   obtain⟨g,rfl⟩:∃g,f=g+1:=⟨f - 1,by omega⟩
   have HQ3:Hid (zCJ c.en c.T (kR c.en c.T) g (acc++[((kR c.en c.T) p2).1]) (zBK c.en c.T ((kR c.en c.T) p2).2)=Q):=(zKg _ _ _ _ _ _).symm.trans HQ2.out;have HKK:Hid (p2.k≤((kR c.en c.T) p2).2.k):=k_k c.en c.T p2;clear hbf HQ2;go_wp2_with fail
   refine (zIx c p2 _ HS2.out).mono ?_;rintro e w3 ⟨rfl,h3,hf3⟩;obtain⟨X,hX⟩:∃X,(kR c.en c.T) p2=X:=⟨_,rfl⟩;rw[hX] at HQ3 HKK h3 ⊢;obtain⟨x,p3⟩:=X;have HS3:Hid (RSt c p3 w3):=h3;have HF3:Hid (Fr (XR9 c.R) w w3):=HF2.out.trans hf3;have HO3:Hid (w3.ownsRow w.heap.size 3 1 (.slice al acc.length cl) acc.length (acc.map (Value.int .i64))):=zCT HOW.out hf3 (fun k hk=>by rw[hk];exact HLT)
   have hsz3:w.heap.size≤w3.heap.size:=HF3.out.size;have hox:=HO3.out.alloc (.cells #[.int .i64 x] 3);clear h3 hf3 hX HOW
   dsimp only at *
   go_wp2_with (at_builtin;refine wpList_append_own _ rfl _ _ 26 rfl w.heap.size 3 i0 (.int .i64 0) 1 8 Tryz.underInts5 hi hz0 hz1 hz2 rfl (by decide) _ _ _ rfl hox ⟨w3.heap.size,0,none⟩ 1 1 [.int .i64 x] rfl rfl ?c1 ?c2 ?c3 ?c4 ?c5 ?_)
   case c1=>exact zGj w3 x
   case c2=>intro u hu;rcases List.mem_singleton.1 hu with rfl;rfl
   case c3=>unfold maxLen;omega
   case c4=>omega
   case c5=>simp;omega
   intro v9 w9 hown9 hg9 _;have hrow:∀k,(Value.slice al acc.length cl).ownBlock=some k→w.heap.size≤k:=fun k hk=>(HO3.out.lt k hk).1
   have HS9:Hid (RSt c p3 w9):=(HS3.out.below (zAA _ _)).grown hg9 (fun k hk=>by have h1:=hrow k hk;have h2:=HNW.out;exact⟨by omega,by omega,by omega⟩)
   have HF9:Hid (Fr (XR9 c.R) w w9):=(HF3.out.alloc _).grown hg9 (fun k hk=>Or.inr (hrow k hk))
   have HO9:Hid (w9.ownsRow w.heap.size 3 1 v9 (acc++[x]).length ((acc++[x]).map (Value.int .i64))):=by
    show w9.ownsRow _ _ _ _ _ _;rw[List.length_append,List.map_append];exact hown9
   clear hown9 hg9 hrow hox;obtain⟨a9,c9,rfl⟩:=zAB HO9.out;go_wp2_with fail
   refine (zFl c p3 _ HS9.out).mono ?_;rintro e w4 ⟨rfl,h4,hf4⟩;have HM2:Hid ((zBK c.en c.T p3).1=true→(zBK c.en c.T p3).2.k=p3.k+1):=zKf c.en c.T p3;obtain⟨q,hq⟩:∃q,zBK c.en c.T p3=q:=⟨_,rfl⟩;rw[hq] at HQ3 h4 HM2 ⊢;obtain⟨b4,p4⟩:=q;have HS4:Hid (RSt c p4 w4):=h4;have HF4:Hid (Fr (XR9 c.R) w w4):=HF9.out.trans hf4;have HO4:Hid (w4.ownsRow w.heap.size 3 1 (.slice a9 (acc++[x]).length c9) (acc++[x]).length ((acc++[x]).map (Value.int .i64))):=zCT HO9.out hf4 (fun k hk=>by rw[hk];exact HLT)
   clear h4 hf4 hq
   dsimp only at *
   have HB4:Hid (b4=true→c.T.length+2≤g+p4.k):=fun hb=>by have h1:=HM2.out hb;have h2:=HKK.out;omega
   have HA4:Hid ((acc++[x]).length+g=c.T.length+2):=by show _=_;simp;omega
   have HL4:Hid ((acc++[x]).length=acc.length+1):=by show _=_;simp
   obtain⟨acc2,hacc2⟩:∃acc2,acc++[x]=acc2:=⟨_,rfl⟩;rw[hacc2] at HQ3 HO4 HA4 HL4 HO9 ⊢;clear hacc2;go_wp2
   go_roundw
   case rel=>exact⟨g,acc2,b4,p4,HQ3,rfl,HS4,HO4.out,HF4,HA4.out,HB4.out⟩
   case measure=>have h1:=HL4.out;have h2:=HA4.out;simp[zNH];omega
theorem zHD (c:RC) (p:RP) (w:World) (h:RSt c p w) :
 Calls Tryz.prog 116 #[.pointer (some ⟨c.R,0,none⟩)] w fun e w'=>∃v,e=.returned v∧w'.ownsRow w.heap.size 3 1 v (zAV c.en c.T (vR c.en c.T c.nm) p).1.length ((zAV c.en c.T (vR c.en c.T c.nm) p).1.map (Value.int .i64))∧RSt c (zAV c.en c.T (vR c.en c.T c.nm) p).2 w'∧Fr (XR9 c.R) w w':=by
 have HS:Hid (RSt c p w):=h;obtain⟨Q,hQ⟩:∃Q,zAV c.en c.T (vR c.en c.T c.nm) p=Q:=⟨_,rfl⟩;rw[hQ];have HQ:Hid (zCJ c.en c.T (vR c.en c.T c.nm) (c.T.length+2) [] (zDA c.en c.T p)=Q):=hQ;have hT4:c.T.length≤4000:=by obtain⟨v,_,a,c,_,_,ht,_⟩:=h.blk;exact ht.1
 have HLT:=h.lt;have HNW:Hid (c.N≤w.heap.size∧c.NB≤w.heap.size):=⟨h.Nw,h.nb⟩;obtain⟨i0,hi,hz0,hz1,hz2⟩:=info_parts Tryz.infoInt5;clear h hQ;go_enter Tryz.func116,Tryz.ntmps116
 go_wp2_with fail
 refine (zFk c p _ HS.out).mono ?_;rintro e w1 ⟨rfl,h1,hf1⟩;obtain⟨q,hq⟩:∃q,zDA c.en c.T p=q:=⟨_,rfl⟩;rw[hq] at HQ h1 ⊢;obtain⟨b,p1⟩:=q;have HS1:Hid (RSt c p1 w1):=h1;have HF1:Hid (Fr (XR9 c.R) w w1):=hf1;clear h1 hf1 hq
 dsimp only
 go_wp2_with fail
 go_loopw [3,4] (fun o mo wr=>∃(f:Nat) (acc:List Int) (b:Bool) (p:RP),Hid (zCJ c.en c.T (vR c.en c.T c.nm) f acc (b,p)=Q)∧mo=.bool b∧Hid (RSt c p wr)∧wr.ownsRow w.heap.size 3 1 o acc.length (acc.map (Value.int .i64))∧Hid (Fr (XR9 c.R) w wr)∧acc.length+f=c.T.length+2∧(b=true→c.T.length+2≤f+p.k)) (fun o _ _=>c.T.length+3 - zNH o)
 case atStart=>exact⟨c.T.length+2,[],b,p1,HQ,rfl,HS1,World.ownsRow_nil _ _ _ _,HF1,by simp,fun _=>by omega⟩
 case round =>
  obtain⟨f,acc,b,p2,HQ2,rfl,HS2,hown,HF2,haf,hbf⟩:=hrel;have HOW:Hid (wr.ownsRow w.heap.size 3 1 u3 acc.length (acc.map (Value.int .i64))):=hown;obtain⟨al,cl,rfl⟩:=zAB hown;have HKT:=HS2.out.kT;clear hown;cases b
  ·have HE:Hid (Q=(acc,p2)):=HQ2.out.symm.trans (zHk _ _ _ _ _ _)
   clear hbf;go_wp2
   go_ret
   exact⟨_,rfl,by rw[HE.out];exact HOW.out,by rw[HE.out];exact HS2.out,HF2.out⟩
  ·have hbf2:=hbf rfl
   obtain⟨g,rfl⟩:∃g,f=g+1:=⟨f - 1,by omega⟩
   have HQ3:Hid (zCJ c.en c.T (vR c.en c.T c.nm) g (acc++[((vR c.en c.T c.nm) p2).1]) (zBK c.en c.T ((vR c.en c.T c.nm) p2).2)=Q):=(zKg _ _ _ _ _ _).symm.trans HQ2.out;have HKK:Hid (p2.k≤((vR c.en c.T c.nm) p2).2.k):=v_k c.en c.T c.nm p2;clear hbf HQ2;go_wp2_with fail
   refine (zFv c p2 _ HS2.out).mono ?_;rintro e w3 ⟨rfl,h3,hf3⟩;obtain⟨X,hX⟩:∃X,(vR c.en c.T c.nm) p2=X:=⟨_,rfl⟩;rw[hX] at HQ3 HKK h3 ⊢;obtain⟨x,p3⟩:=X;have HS3:Hid (RSt c p3 w3):=h3;have HF3:Hid (Fr (XR9 c.R) w w3):=HF2.out.trans hf3;have HO3:Hid (w3.ownsRow w.heap.size 3 1 (.slice al acc.length cl) acc.length (acc.map (Value.int .i64))):=zCT HOW.out hf3 (fun k hk=>by rw[hk];exact HLT)
   have hsz3:w.heap.size≤w3.heap.size:=HF3.out.size;have hox:=HO3.out.alloc (.cells #[.int .i64 x] 3);clear h3 hf3 hX HOW
   dsimp only at *
   go_wp2_with (at_builtin;refine wpList_append_own _ rfl _ _ 26 rfl w.heap.size 3 i0 (.int .i64 0) 1 8 Tryz.underInts5 hi hz0 hz1 hz2 rfl (by decide) _ _ _ rfl hox ⟨w3.heap.size,0,none⟩ 1 1 [.int .i64 x] rfl rfl ?c1 ?c2 ?c3 ?c4 ?c5 ?_)
   case c1=>exact zGj w3 x
   case c2=>intro u hu;rcases List.mem_singleton.1 hu with rfl;rfl
   case c3=>unfold maxLen;omega
   case c4=>omega
   case c5=>simp;omega
   intro v9 w9 hown9 hg9 _;have hrow:∀k,(Value.slice al acc.length cl).ownBlock=some k→w.heap.size≤k:=fun k hk=>(HO3.out.lt k hk).1
   have HS9:Hid (RSt c p3 w9):=(HS3.out.below (zAA _ _)).grown hg9 (fun k hk=>by have h1:=hrow k hk;have h2:=HNW.out;exact⟨by omega,by omega,by omega⟩)
   have HF9:Hid (Fr (XR9 c.R) w w9):=(HF3.out.alloc _).grown hg9 (fun k hk=>Or.inr (hrow k hk))
   have HO9:Hid (w9.ownsRow w.heap.size 3 1 v9 (acc++[x]).length ((acc++[x]).map (Value.int .i64))):=by
    show w9.ownsRow _ _ _ _ _ _;rw[List.length_append,List.map_append];exact hown9
   clear hown9 hg9 hrow hox;obtain⟨a9,c9,rfl⟩:=zAB HO9.out;go_wp2_with fail
   refine (zFl c p3 _ HS9.out).mono ?_;rintro e w4 ⟨rfl,h4,hf4⟩;have HM2:Hid ((zBK c.en c.T p3).1=true→(zBK c.en c.T p3).2.k=p3.k+1):=zKf c.en c.T p3;obtain⟨q,hq⟩:∃q,zBK c.en c.T p3=q:=⟨_,rfl⟩;rw[hq] at HQ3 h4 HM2 ⊢;obtain⟨b4,p4⟩:=q;have HS4:Hid (RSt c p4 w4):=h4;have HF4:Hid (Fr (XR9 c.R) w w4):=HF9.out.trans hf4;have HO4:Hid (w4.ownsRow w.heap.size 3 1 (.slice a9 (acc++[x]).length c9) (acc++[x]).length ((acc++[x]).map (Value.int .i64))):=zCT HO9.out hf4 (fun k hk=>by rw[hk];exact HLT)
   clear h4 hf4 hq
   dsimp only at *
   have HB4:Hid (b4=true→c.T.length+2≤g+p4.k):=fun hb=>by have h1:=HM2.out hb;have h2:=HKK.out;omega
   have HA4:Hid ((acc++[x]).length+g=c.T.length+2):=by show _=_;simp;omega
   have HL4:Hid ((acc++[x]).length=acc.length+1):=by show _=_;simp
   obtain⟨acc2,hacc2⟩:∃acc2,acc++[x]=acc2:=⟨_,rfl⟩;rw[hacc2] at HQ3 HO4 HA4 HL4 HO9 ⊢;clear hacc2;go_wp2
   go_roundw
   case rel=>exact⟨g,acc2,b4,p4,HQ3,rfl,HS4,HO4.out,HF4,HA4.out,HB4.out⟩
   case measure=>have h1:=HL4.out;have h2:=HA4.out;simp[zNH];omega
theorem RSt.set {c:RC} {p:RP} {w:World} (h:RSt c p w) {q:Addr} (hR:q.block≠c.R) (hN:c.N≤q.block) (hNB:c.NB≤q.block) (u:Value):RSt c p (w.setCell q u):=by
 obtain⟨h1,h2,hn,h3,hd,h4,v,hb,hT⟩:=h;refine⟨h1,by simpa using h2,by simpa using hn,h3,hd,?_,v,(Below.heap_setCell _ _ _ _ (by omega)).trans hb,hT.old fun q' hq=>World.cell?_of_block (Below.heap_setCell _ _ _ _ (by omega))⟩
 obtain⟨a,cc,hv,hm,hr⟩:=h4;refine⟨a,cc,hv,hm,fun i t ht=>?_⟩
 obtain⟨b,off,ha,hb2,hlt,hc⟩:=hr i t ht;exact⟨b,off,ha,hb2,hlt,(World.cell?_of_block (Below.heap_setCell _ _ _ _ (fun e=>by have e2:b=q.block:=e;omega))).trans hc⟩
theorem zHE (en:Int) (T:List Tok) (p:RP):∀(ws:List ByteArray) (i:Nat),0≤(zAn en T p ws i).1∧(zAn en T p ws i).1≤((i+ws.length:Nat):Int)
 | [],i=>by unfold zAn;simp
 | s :: r,i=>by
   unfold zAn
   split
   ·simp;omega
   ·have:=zHE en T p r (i+1)
    simp at this ⊢;omega
theorem zRL:∀s∈opWL.tail,zBz s:=by
 intro s hs;simp only[opWL,List.tail_cons,List.mem_cons,List.not_mem_nil,or_false] at hs;rcases hs with rfl | rfl | rfl | rfl <;> (unfold zBz;rw[ByteArray.toList_eq,ByteArray.toList_eq];rfl)
theorem zL3 (c:RC) (p:RP) (w:World) (h:RSt c p w) :
 Calls Tryz.prog 118 #[.pointer (some ⟨c.R,0,none⟩)] w fun e w'=>e=.returned (litA (litR c.en c.T c.nm p).1)∧RSt c (litR c.en c.T c.nm p).2 w'∧Fr (XR9 c.R) w w':=by
 have HS:Hid (RSt c p w):=h;obtain⟨Q,hQ⟩:∃Q,litR c.en c.T c.nm p=Q:=⟨_,rfl⟩;rw[hQ];have HQ:Hid (Q=(⟨(vR c.en c.T c.nm p).1,1+(zAn c.en c.T (vR c.en c.T c.nm p).2 opWL.tail 0).1,(kR c.en c.T (zAn c.en c.T (vR c.en c.T c.nm p).2 opWL.tail 0).2).1⟩,(kR c.en c.T (zAn c.en c.T (vR c.en c.T c.nm p).2 opWL.tail 0).2).2)):=by
  show _=_;rw[←hQ];rfl
 have hlt:=h.lt;have HNW:Hid (c.N≤w.heap.size∧c.NB≤w.heap.size):=⟨h.Nw,h.nb⟩;clear h hQ;go_enter Tryz.func118,Tryz.ntmps118
 go_wp2_with fail
 have hb0:Below w.heap.size w ((w.alloc (.cells #[.int .i64 0,.int .i64 0,.int .i64 0] 88)).alloc (.cells #[.int .i64 0,.int .i64 0,.int .i64 0] 88)):=(zAA _ _).alloc (by simp) _
 refine (zFv c p _ (HS.out.below hb0)).mono ?_;rintro e w1 ⟨rfl,h1,hf1⟩;obtain⟨q,hq⟩:∃q,vR c.en c.T c.nm p=q:=⟨_,rfl⟩;rw[hq] at HQ h1 ⊢;obtain⟨x,p1⟩:=q;clear hq
 dsimp only at HQ h1 ⊢
 have HB0:Hid (w1.heap[w.heap.size]? = some (.cells #[.int .i64 0,.int .i64 0,.int .i64 0] 88)):=(hf1.block _ (by simp;omega) (by show ¬_=_;omega)).trans ((Below.heap_alloc _ _ _ (by simp)).trans (heap_alloc_new w _))
 have hb1:w1.heap[w.heap.size+1]? = some (.cells #[.int .i64 0,.int .i64 0,.int .i64 0] 88):=(hf1.block _ (by simp) (by show ¬_=_;omega)).trans (by have:=heap_alloc_new (w.alloc (.cells #[.int .i64 0,.int .i64 0,.int .i64 0] 88)) (.cells #[.int .i64 0,.int .i64 0,.int .i64 0] 88);rw[show (w.alloc (.cells #[.int .i64 0,.int .i64 0,.int .i64 0] 88)).heap.size=w.heap.size+1 by simp] at this;exact this)
 have HF1:Hid (Fr (XR9 c.R) w w1):=(Fr.below hb0).trans hf1;have HS1:Hid (RSt c p1 w1):=h1;have z1:=frz9 hb1 0;have HB1:Hid ((w1.setCell ⟨w.heap.size+1,0,none⟩ (.int .i64 x)).heap[w.heap.size+1]? = some (.cells #[.int .i64 x,.int .i64 0,.int .i64 0] 88)):=by
  show _=_;rw[heap_setCell_same w1 _ 0 _ _ _ hb1];rfl
 have HS1':Hid (RSt c p1 (w1.setCell ⟨w.heap.size+1,0,none⟩ (.int .i64 x))):=HS1.out.set (by show w.heap.size+1≠_;omega) (by have:=HNW.out.1;show _≤w.heap.size+1;omega) (by have:=HNW.out.2;show _≤w.heap.size+1;omega) _
 have HF1':Hid (Fr (XR9 c.R) w (w1.setCell ⟨w.heap.size+1,0,none⟩ (.int .i64 x))):=HF1.out.setNew (by show _≤w.heap.size+1;omega) _
 have HB0':Hid ((w1.setCell ⟨w.heap.size+1,0,none⟩ (.int .i64 x)).heap[w.heap.size]? = some (.cells #[.int .i64 0,.int .i64 0,.int .i64 0] 88)):=(Below.heap_setCell _ _ _ _ (fun e=>by have e2:w.heap.size=w.heap.size+1:=e;omega)).trans HB0.out
 obtain⟨y1,hy1⟩:∃y1,w1.setCell ⟨w.heap.size+1,0,none⟩ (.int .i64 x)=y1:=⟨_,rfl⟩;have HZ1:Hid (w1.heap.size=y1.heap.size):=by show _=_;rw[←hy1];simp
 have HY1:Hid (w1.setCell ⟨w.heap.size+1,0,none⟩ (.int .i64 x)=y1):=hy1;rw[hy1] at HB1 HS1' HF1' HB0';have c0:w1.cell? ⟨w.heap.size+1,0,none⟩=some (.int .i64 0):=blk9 hb1 0 _ rfl;clear hf1 hb1 h1 hy1 HB0 HF1 HS1 hb0;go_wp2_with fail
 rw[HY1.out];clear z1 c0;have hsz:w.heap.size≤y1.heap.size:=HF1'.out.size;have hlt1:w.heap.size+1<y1.heap.size:=(Array.getElem?_eq_some_iff.1 HB1.out).1;have HSA:Hid (SArg (y1.alloc (.cells #[.string ⟨#[60,61]⟩,.string ⟨#[62,61]⟩,.string ⟨#[61,61]⟩,.string ⟨#[33,61]⟩] 9)) (.slice (some ⟨w1.heap.size,0,none⟩) 4 4) opWL.tail):=zSq y1 opWL.tail _ HZ1.out (by decide)
 refine (zIw c p1 opWL.tail zRL _ _ ?_ HSA.out).mono ?_
 ·exact HS1'.out.below (zAA _ _)
 rintro e w2 ⟨rfl,h2,hf2⟩;have HWB:Hid (0≤(zAn c.en c.T p1 opWL.tail 0).1∧(zAn c.en c.T p1 opWL.tail 0).1≤((0+opWL.tail.length:Nat):Int)):=zHE c.en c.T p1 opWL.tail 0;obtain⟨q,hq⟩:∃q,zAn c.en c.T p1 opWL.tail 0=q:=⟨_,rfl⟩;rw[hq] at HQ h2 HWB ⊢;obtain⟨o,p2⟩:=q;clear hq
 dsimp only at HQ h2 HWB ⊢
 have ho:0≤o∧o≤4:=by have h:=HWB.out;have e:opWL.tail.length=4:=rfl;rw[e] at h;omega
 have hfy:Fr (XR9 c.R) y1 w2:=(Fr.below (zAA _ _)).trans hf2;have HF2:Hid (Fr (XR9 c.R) w w2):=HF1'.out.trans hfy;have HB2:Hid (w2.heap[w.heap.size]? = some (.cells #[.int .i64 0,.int .i64 0,.int .i64 0] 88)):=(hfy.block _ (by omega) (by show ¬_=_;omega)).trans HB0'.out
 have hb2:w2.heap[w.heap.size+1]? = some (.cells #[.int .i64 x,.int .i64 0,.int .i64 0] 88):=(hfy.block _ hlt1 (by show ¬_=_;omega)).trans HB1.out
 have HS2:Hid (RSt c p2 w2):=h2;have z2:=frz9 hb2 1;have c2:w2.cell? ⟨w.heap.size+1,1,none⟩=some (.int .i64 0):=blk9 hb2 1 _ rfl;have HC2:Hid ((w2.setCell ⟨w.heap.size+1,1,none⟩ (.int .i64 (1+o))).heap[w.heap.size+1]? = some (.cells #[.int .i64 x,.int .i64 (1+o),.int .i64 0] 88)):=by
  show _=_;rw[heap_setCell_same w2 _ 1 _ _ _ hb2];rfl
 have HS2':Hid (RSt c p2 (w2.setCell ⟨w.heap.size+1,1,none⟩ (.int .i64 (1+o)))):=HS2.out.set (by show w.heap.size+1≠_;omega) (by have:=HNW.out.1;show _≤w.heap.size+1;omega) (by have:=HNW.out.2;show _≤w.heap.size+1;omega) _
 have HF2':Hid (Fr (XR9 c.R) w (w2.setCell ⟨w.heap.size+1,1,none⟩ (.int .i64 (1+o)))):=HF2.out.setNew (by show _≤w.heap.size+1;omega) _
 have HB2':Hid ((w2.setCell ⟨w.heap.size+1,1,none⟩ (.int .i64 (1+o))).heap[w.heap.size]? = some (.cells #[.int .i64 0,.int .i64 0,.int .i64 0] 88)):=(Below.heap_setCell _ _ _ _ (fun e=>by have e2:w.heap.size=w.heap.size+1:=e;omega)).trans HB2.out
 obtain⟨y2,hy2⟩:∃y2,w2.setCell ⟨w.heap.size+1,1,none⟩ (.int .i64 (1+o))=y2:=⟨_,rfl⟩;have HY2:Hid (w2.setCell ⟨w.heap.size+1,1,none⟩ (.int .i64 (1+o))=y2):=hy2;rw[hy2] at HC2 HS2' HF2' HB2';clear hf2 hfy hb2 h2 hy2 HB2 HF2 HS2 HB1 HS1' HF1' HB0' hlt1 hsz HY1;go_wp2_with fail
 rw[HY2.out];clear z2 c2;have hlt2:w.heap.size+1<y2.heap.size:=(Array.getElem?_eq_some_iff.1 HC2.out).1;refine (zIx c p2 _ HS2'.out).mono ?_;rintro e w3 ⟨rfl,h3,hf3⟩;obtain⟨q,hq⟩:∃q,kR c.en c.T p2=q:=⟨_,rfl⟩;rw[hq] at HQ h3 ⊢;obtain⟨n,p3⟩:=q;clear hq
 dsimp only at HQ h3 ⊢
 have hb3:w3.heap[w.heap.size+1]? = some (.cells #[.int .i64 x,.int .i64 (1+o),.int .i64 0] 88):=(hf3.block _ hlt2 (by show ¬_=_;omega)).trans HC2.out
 have hb4:w3.heap[w.heap.size]? = some (.cells #[.int .i64 0,.int .i64 0,.int .i64 0] 88):=(hf3.block _ (by omega) (by show ¬_=_;omega)).trans HB2'.out
 have HF3:Hid (Fr (XR9 c.R) w w3):=HF2'.out.trans hf3;have HS3:Hid (RSt c p3 w3):=h3;have d0:w3.cell? ⟨w.heap.size+1,0,none⟩=some (.int .i64 x):=blk9 hb3 0 _ rfl;have d1:w3.cell? ⟨w.heap.size+1,1,none⟩=some (.int .i64 (1+o)):=blk9 hb3 1 _ rfl;have d2:w3.cell? ⟨w.heap.size+1,2,none⟩=some (.int .i64 0):=blk9 hb3 2 _ rfl;have y2z:=frz9 hb3 2;have r0:w3.cell? ⟨w.heap.size,0,none⟩=some (.int .i64 0):=blk9 hb4 0 _ rfl;have r1:w3.cell? ⟨w.heap.size,1,none⟩=some (.int .i64 0):=blk9 hb4 1 _ rfl;have r2:w3.cell? ⟨w.heap.size,2,none⟩=some (.int .i64 0):=blk9 hb4 2 _ rfl;have x0:=frz9 hb4 0;have x1:=frz9 hb4 1;have x2:=frz9 hb4 2;have HLIT:Hid (Q=(⟨x,1+o,n⟩,p3)):=HQ.out;clear h3 hf3 HC2 HS2' HF2' HB2' hlt2 HY2 HQ hb3 hb4;go_wp2
 refine bodyPost_ret (by simp[results,Tryz.results118,go_sem, *];try rfl) rfl ?_
 refine⟨by rw[HLIT.out];first | rfl | (unfold litA;rfl),?_,?_⟩
 ·rw[HLIT.out]
  have hn:=HNW.out
  repeat refine RSt.set ?_ (by simp only;omega) (by simp only;omega) (by simp only;omega) _
  exact HS3.out
 ·repeat refine Fr.setNew ?_ (by simp only;omega) _
  exact HF3.out
def zDp {α β:Type} (en:Int) (T:List Tok) (R:α→β→Prop) (q:α×RP) (r:PR β):Prop :=
 match r with
 | .ok y l=>q.2.er=0∧T.drop q.2.k=l∧q.2.k≤T.length∧R q.1 y
 | .bad pl e=>q.2.er=e∧e≠0∧(zAI en (T.drop q.2.k)).place=pl∧q.2.k≤T.length
structure Same {α β:Type} (en:Int) (T:List Tok) (R:α→β→Prop) (f:RP→α×RP) (P:List Tok→PR β):Prop where
 still:zJH f
 same:∀p,p.er=0→p.k≤T.length→zDp en T R (f p) (P (T.drop p.k))
theorem Same.bind {α β γ δ:Type} {en:Int} {T:List Tok} {R:α→β→Prop} {S:γ→δ→Prop} {f:RP→α×RP} {P:List Tok→PR β} {g:α→RP→γ×RP} {Q:β→List Tok→PR δ}
 (hf:Same en T R f P) (hs:∀x,zJH (g x)) (hg:∀x y,R x y→∀p,p.er=0→p.k≤T.length→zDp en T S (g x p) (Q y (T.drop p.k))):Same en T S (fun p=>g (f p).1 (f p).2) (fun l=>(P l).bind Q):=by
 refine⟨fun p hp=>?_,fun p hp hk=>?_⟩
 ·show (g (f p).1 (f p).2).2=p
  rw[hf.still p hp];exact hs _ p hp
 ·have h:=hf.same p hp hk
  show zDp en T S (g (f p).1 (f p).2) ((P (T.drop p.k)).bind Q);cases hq:P (T.drop p.k) with
  | ok y l =>
    rw[hq] at h;obtain⟨h1,h2,h3,h4⟩:=h;have h5:=hg _ y h4 _ h1 h3;rw[h2] at h5;exact h5
  | bad pl e =>
    rw[hq] at h;obtain⟨h1,h2,h3,h4⟩:=h;have h5:(g (f p).1 (f p).2).2=(f p).2:=hs _ _ (by rw[h1];exact h2)
    show _∧_∧_∧_;rw[h5];exact⟨h1,h2,h3,h4⟩
theorem Same.bindS {α β γ δ:Type} {en:Int} {T:List Tok} {R:α→β→Prop} {S:γ→δ→Prop} {f:RP→α×RP} {P:List Tok→PR β} {g:α→RP→γ×RP} {Q:β→List Tok→PR δ}
 (hf:Same en T R f P) (hs:∀x,zJH (g x)) (hg:∀x y,R x y→Same en T S (g x) (Q y)):Same en T S (fun p=>g (f p).1 (f p).2) (fun l=>(P l).bind Q) :=
 hf.bind hs fun x y hr=>(hg x y hr).same
theorem Same.pure {α β:Type} {en:Int} {T:List Tok} {R:α→β→Prop} {x:α} {y:β} (h:R x y):Same en T R (fun p=>(x,p)) (fun l=>.ok y l) :=
 ⟨fun _ _=>rfl,fun _ hp hk=>⟨hp,rfl,hk,h⟩⟩
theorem zCx {α β:Type} {en:Int} {T:List Tok} {R:α→β→Prop} (p:RP) (hp:p.er=0) (hk:p.k≤T.length) (fits:Bool) (q:α×RP) (y:Tok→β)
 (h1:fits=true→q.2=zCm p∧p.k<T.length∧R q.1 (y (zAI en (T.drop p.k)))) (h2:fits=false→q.2=zAT 1 p):zDp en T R q ((zBm en fits (T.drop p.k)).bind fun t r=>.ok (y t) r):=by
 unfold zBm;cases fits
 ·rw[if_neg (by simp)]
  have h:=h2 rfl;have e:zAT 1 p=⟨p.k,1⟩:=by unfold zAT;rw[if_pos hp]
  rw[e] at h;show _∧_∧_∧_;rw[h];exact⟨rfl,by omega,rfl,hk⟩
 ·rw[if_pos rfl]
  obtain⟨h3,h4,h5⟩:=h1 rfl;show _∧_∧_∧_;rw[h3];refine⟨hp,?_,by show p.k+1≤_;omega,h5⟩
  show T.drop (p.k+1)=_;rw[List.tail_drop]
theorem zDC (en:Int) (T:List Tok) (p:RP) (hp:p.er=0):txR en T p=(zAI en (T.drop p.k)).text:=by unfold txR;rw[if_pos hp]
theorem zIz (en:Int) (T:List Tok) (k:Nat) (h:(zAI en (T.drop k)).text≠ByteArray.empty):k<T.length:=by
 apply Classical.byContradiction;intro hn;rw[List.drop_eq_nil_of_le (by omega)] at h
 exact h rfl
theorem zED (en:Int) (T:List Tok) (s:ByteArray) (hs:(ByteArray.empty.toList==s.toList)=false):Same en T (fun _ _=>True) (fun p=>((),zAU en T s p)) (fun l=>zAP en s l):=by
 refine⟨fun p hp=>zBn en T s p hp,fun p hp hk=>?_⟩
 have h:=zCx (en:=en) (T:=T) (R:=fun (_:Unit) (_:Tok)=>True) p hp hk ((zAI en (T.drop p.k)).text.toList==s.toList) ((),zAU en T s p) id
  (fun hq=>by
    refine⟨?_,zIz en T p.k (fun he=>by rw[he,hs] at hq;cases hq),trivial⟩
    show zAU en T s p=_;unfold zAU;rw[if_pos hp,zDC en T p hp,if_pos hq])
  (fun hq=>by
    show zAU en T s p=_;unfold zAU;rw[if_pos hp,zDC en T p hp,hq,if_neg (by simp)])
 show zDp en T _ _ (zAP en s (T.drop p.k));unfold zAP;cases hq:zBm en ((zAI en (T.drop p.k)).text.toList==s.toList) (T.drop p.k) with
 | ok t r=>rw[hq] at h;exact h
 | bad x e=>rw[hq] at h;exact h
theorem zKh (en:Int) (T:List Tok) (p:RP) (hp:p.er=0):∀(ws:List ByteArray) (j:Nat),zAn en T p ws j=if 0≤idxA ws (txR en T p) j then (idxA ws (txR en T p) j,zCm p) else (0,zAT 1 p)
 | [],j=>by unfold zAn idxA;rw[if_neg (by omega)]
 | s :: r,j=>by
   unfold zAn idxA;by_cases h:((txR en T p).toList==s.toList)=true
   ·rw[if_pos ⟨hp,h⟩,h,if_pos rfl,if_pos (by omega)]
   ·rw[if_neg (fun hq=>h hq.2),if_neg h]
    exact zKh en T p hp r (j+1)
theorem zL4 (n:ByteArray):∀(ws:List ByteArray) (j:Nat),idxA ws n (j+1)=if 0≤idxA ws n j then idxA ws n j+1 else -1
 | [],j=>by unfold idxA;rfl
 | s :: r,j=>by
   unfold idxA;by_cases h:(n.toList==s.toList)=true
   ·rw[if_pos h,if_pos h,if_pos (by omega)];simp
   ·rw[if_neg h,if_neg h]
    exact zL4 n r (j+1)
def zGF (T:List Tok):Prop:=∀t∈T,t.kind≠0∧(t.text.toList==ByteArray.empty.toList)=false∧(t.kind=2↔dig0 t.text=true)
theorem zHl (en:Int) (T:List Tok) (k:Nat) (h:k<T.length):zAI en (T.drop k)∈T:=by
 rw[List.drop_eq_getElem_cons h];exact List.getElem_mem h
theorem zFY (en:Int) (T:List Tok) (k:Nat) (h:¬k<T.length):zAI en (T.drop k)=⟨0,en,ByteArray.empty⟩:=by
 rw[List.drop_eq_nil_of_le (by omega)];rfl
theorem zNI (en:Int) (T:List Tok) (ws:List ByteArray) (f:Int→Int):zJH (fun p=>(f (zAn en T p ws 0).1,(zAn en T p ws 0).2)):=fun p hp=>zDw en T p hp ws 0
theorem zL5 (ws:List ByteArray) (h:∀s∈ws,(ByteArray.empty.toList==s.toList)=false):∀j,idxA ws ByteArray.empty j=-1:=by
 induction ws with
 | nil=>intro j;rfl
 | cons s r ih =>
   intro j;unfold idxA;rw[if_neg (by rw[h s (List.mem_cons_self ..)];simp)]
   exact ih (fun t ht=>h t (List.mem_cons_of_mem _ ht)) (j+1)
theorem zRM (en:Int) (T:List Tok) (hT:zGF T) (ws:List ByteArray) (h:∀s∈ws,(ByteArray.empty.toList==s.toList)=false):Same en T Eq (fun p=>zAn en T p ws 0) (zBO en ws):=by
 refine⟨fun p hp=>zDw en T p hp ws 0,fun p hp hk=>?_⟩
 show zDp en T Eq (zAn en T p ws 0) (zBO en ws (T.drop p.k));unfold zBO;rw[zKh en T p hp,zDC en T p hp];by_cases hin:p.k<T.length
 ·have h1:=hT _ (zHl en T p.k hin)
  refine zCx (y:=fun _=>idxA ws (zAI en (T.drop p.k)).text 0) p hp hk _ _ (fun hq=>?_) (fun hq=>?_)
  ·rw[Bool.and_eq_true,decide_eq_true_eq] at hq
   rw[if_pos hq.1];exact⟨rfl,hin,rfl⟩
  ·rw[show ((zAI en (T.drop p.k)).kind != 0)=true by simpa using h1.1,Bool.and_true,decide_eq_false_iff_not] at hq
   rw[if_neg hq]
 ·rw[zFY en T p.k hin]
  refine zCx (y:=fun _=>idxA ws ByteArray.empty 0) p hp hk _ _ (fun hq=>?_) (fun hq=>?_)
  ·simp at hq
  ·rw[zL5 ws h,if_neg (by omega)]
theorem zKB (en:Int) (T:List Tok) (hT:zGF T) (ws:List ByteArray) (h:∀s∈ws,(ByteArray.empty.toList==s.toList)=false):Same en T Eq (fun p=>(1+(zAn en T p ws 0).1,(zAn en T p ws 0).2)) (zBO en (ByteArray.empty :: ws)):=by
 refine⟨zNI en T ws (fun x=>1+x),fun p hp hk=>?_⟩
 show zDp en T Eq (1+(zAn en T p ws 0).1,(zAn en T p ws 0).2) (zBO en (ByteArray.empty :: ws) (T.drop p.k));unfold zBO;rw[zKh en T p hp,zDC en T p hp];by_cases hin:p.k<T.length
 ·have h1:=hT _ (zHl en T p.k hin)
  have e:idxA (ByteArray.empty :: ws) (zAI en (T.drop p.k)).text 0=if 0≤idxA ws (zAI en (T.drop p.k)).text 0 then idxA ws (zAI en (T.drop p.k)).text 0+1 else -1:=by
   conv=>lhs;unfold idxA
   rw[if_neg (by rw[h1.2.1];simp)]
   exact zL4 _ ws 0
  rw[e];refine zCx (y:=fun _=>if 0≤idxA ws (zAI en (T.drop p.k)).text 0 then idxA ws (zAI en (T.drop p.k)).text 0+1 else -1) p hp hk _ _ (fun hq=>?_) (fun hq=>?_)
  ·rw[Bool.and_eq_true,decide_eq_true_eq] at hq
   by_cases h0:0≤idxA ws (zAI en (T.drop p.k)).text 0
   ·rw[if_pos h0,if_pos h0]
    exact⟨rfl,hin,by show 1+_=_;omega⟩
   ·rw[if_neg h0] at hq;omega
  ·rw[show ((zAI en (T.drop p.k)).kind != 0)=true by simpa using h1.1,Bool.and_true,decide_eq_false_iff_not] at hq
   by_cases h0:0≤idxA ws (zAI en (T.drop p.k)).text 0
   ·rw[if_pos h0] at hq;omega
   ·rw[if_neg h0]
 ·rw[zFY en T p.k hin]
  refine zCx (y:=fun _=>idxA (ByteArray.empty :: ws) ByteArray.empty 0) p hp hk _ _ (fun hq=>?_) (fun hq=>?_)
  ·simp at hq
  ·rw[zL5 ws h,if_neg (by omega)]
theorem zPL:dig0 ByteArray.empty=false:=rfl
theorem zKC (en:Int) (T:List Tok) (hT:zGF T) (ng:Bool) (p:RP) (hp:p.er=0) (hk:p.k≤T.length) :
 zDp en T Eq (zG9 en T ng p) ((zBm en (((zAI en (T.drop p.k)).kind==2)&&!(ng&&((zAI en (T.drop p.k)).text.toList==[48]))) (T.drop p.k)).bind fun t r=>.ok ((if ng then -1 else 1) * digV t.text.data.toList) r):=by
 have hd:((zAI en (T.drop p.k)).kind==2)=dig0 (zAI en (T.drop p.k)).text:=by
  by_cases hin:p.k<T.length
  ·have h1:=(hT _ (zHl en T p.k hin)).2.2
   cases hq:dig0 (zAI en (T.drop p.k)).text
   ·have:¬(zAI en (T.drop p.k)).kind=2:=fun h=>by rw[h1.1 h] at hq;cases hq
    simpa using this
   ·simpa using h1.2 hq
  ·rw[zFY en T p.k hin];rfl
 unfold zG9 zE4;rw[zDC en T p hp,hd];refine zCx (y:=fun t=>(if ng then -1 else 1) * digV t.text.data.toList) p hp hk _ _ (fun hq=>?_) (fun hq=>?_)
 ·rw[Bool.and_eq_true] at hq
  have h2:(ng&&((zAI en (T.drop p.k)).text.toList==[48]))=false:=by
   cases hx:(ng&&((zAI en (T.drop p.k)).text.toList==[48]))
   ·rfl
   ·rw[hx] at hq;exact absurd hq.2 (by simp)
  rw[if_neg (by rw[hq.1,h2];simp)]
  refine⟨rfl,?_,rfl⟩;apply Classical.byContradiction;intro hn;rw[zFY en T p.k hn] at hq;exact absurd hq.1 (by rw[zPL];simp)
 ·rw[if_pos (by
   cases h1:dig0 (zAI en (T.drop p.k)).text
   ·rfl
   ·rw[h1] at hq
    simpa using hq)]
theorem zGG (en:Int) (T:List Tok) (hT:zGF T):Same en T Eq (kR en T) (zAN en):=by
 refine⟨zNF en T,fun p hp hk=>?_⟩
 unfold kR zAN;rw[zDC en T p hp];by_cases h:((zAI en (T.drop p.k)).text.toList==[45])=true
 ·rw[if_pos h,if_pos h]
  exact ((zED en T ⟨#[45]⟩ (by decide +kernel)).bind (S:=Eq) (g:=fun _ p=>zG9 en T true p) (fun _=>zJ8 en T true)
   (Q:=fun _ l=>(zBm en (((zAI en l).kind==2)&&(!((zAI en l).text.toList==[48]))) l).bind fun t r=>.ok (-1 * digV t.text.data.toList) r)
   (fun _ _ _ p hp hk=>by have:=zKC en T hT true p hp hk;simpa using this)).same p hp hk
 ·rw[if_neg h,if_neg h]
  have:=zKC en T hT false p hp hk;simpa using this
def zDU (nm:List ByteArray):Prop:=nm.Pairwise fun a b=>a.data.toList≠b.data.toList
def RD {α:Type} (D:Prop) (x y:α):Prop:=D→x=y
theorem Same.weak {α:Type} {en:Int} {T:List Tok} {f:RP→α×RP} {P:List Tok→PR α} (h:Same en T Eq f P) (D:Prop):Same en T (RD D) f P :=
 ⟨h.still,fun p hp hk=>by
   have h1:=h.same p hp hk;cases hq:P (T.drop p.k) with
   | ok y l=>rw[hq] at h1;exact⟨h1.1,h1.2.1,h1.2.2.1,fun _=>h1.2.2.2⟩
   | bad pl e=>rw[hq] at h1;exact h1⟩
theorem zKi (a b:ByteArray):(a.toList==b.toList)=true↔a.data.toList=b.data.toList:=by
 rw[beq_iff_eq,ByteArray.toList_eq,ByteArray.toList_eq]
theorem zI0 (s:ByteArray):∀nm:List ByteArray,(zBB nm s).2=true→∃n∈nm,n.data.toList=s.data.toList
 | [],h=>by cases h
 | n :: r,h=>by
   unfold zBB at h;by_cases h1:(zBB r s).2=true
   ·obtain⟨m,hm,he⟩:=zI0 s r h1
    exact⟨m,List.mem_cons_of_mem _ hm,he⟩
   ·rw[if_neg h1] at h
    by_cases h2:n.data.toList=s.data.toList
    ·exact⟨n,List.mem_cons_self ..,h2⟩
    ·rw[if_neg h2] at h;cases h
theorem zL6 (s:ByteArray) (p:RP):∀(nm:List ByteArray) (i:Nat),((zBB nm s).2=true→∃j:Nat,vAtR s p nm i=(((i+j:Nat):Int),zCm p)∧(zDU nm→(zBB nm s).1=(j:Int)))∧((zBB nm s).2=false→vAtR s p nm i=(0,zAT 5 p))
 | [],i=>⟨(fun h=>by cases h),(fun _=>by unfold vAtR;rfl)⟩
 | n :: r,i=>by
   obtain⟨ih1,ih2⟩:=zL6 s p r (i+1);by_cases h:n.data.toList=s.data.toList
   ·have hv:vAtR s p (n :: r) i=((i:Int),zCm p):=by unfold vAtR;rw[if_pos ((zKi n s).2 h)]
    refine⟨fun _=>⟨0,by rw[hv];rfl,fun hA=>?_⟩,fun hf=>?_⟩
    ·have hno:(zBB r s).2=false:=by
      cases hq:(zBB r s).2
      ·rfl
      ·obtain⟨m,hm,he⟩:=zI0 s r hq
       exact absurd (h.trans he.symm) ((List.pairwise_cons.1 hA).1 m hm)
     unfold zBB;rw[hno,if_neg (by simp),if_pos h]
     rfl
    ·unfold zBB at hf
     cases hq:(zBB r s).2 <;> simp[hq,h] at hf
   ·have hv:vAtR s p (n :: r) i=vAtR s p r (i+1):=by
     conv=>lhs;unfold vAtR
     rw[if_neg (fun hq=>h ((zKi n s).1 hq))]
    have hn:zBB (n :: r) s=if (zBB r s).2 then ((zBB r s).1+1,true) else (0,false):=by
     conv=>lhs;unfold zBB
     rw[if_neg h]
    rw[hv,hn];cases hq:(zBB r s).2
    ·refine⟨fun hf=>by simp at hf,fun _=>ih2 hq⟩
    ·obtain⟨j,hj1,hj2⟩:=ih1 hq
     refine⟨fun _=>⟨j+1,by rw[hj1];congr 2;omega,fun hA=>?_⟩,fun hf=>by simp at hf⟩
     have:=hj2 (List.pairwise_cons.1 hA).2;simp only[if_true];rw[this];simp
theorem zNJ (s:ByteArray):zFo s=zAb s:=by
 have h1:∀m,zAF ⟨[⟨s,0,0⟩],[],0,0⟩=m→zFo s=(m==0):=fun m h=>by unfold zFo;rw[h]
 cases hq:zAb s
 ·refine (h1 1 ?_).trans rfl
  have h2:varE [] ⟨s,0,0⟩=1:=by unfold varE;rw[hq];rfl
  have h3:zKu [⟨s,0,0⟩]=1:=by show zAQ [varE [] ⟨s,0,0⟩]=1;rw[h2];rfl
  unfold zAF;simp[h3]
 ·refine (h1 0 ?_).trans rfl
  have h2:varE [] ⟨s,0,0⟩=0:=by
   unfold varE;rw[if_pos hq,if_neg (by simp),if_pos (by simp[inB]),if_neg (by simp)]
  have h3:zKu [⟨s,0,0⟩]=0:=by show zAQ [varE [] ⟨s,0,0⟩]=0;rw[h2];rfl
  unfold zAF;simp[h3]
  try rfl
theorem zI1 (en:Int) (T:List Tok) (nm:List ByteArray) (hn:∀n∈nm,∀s:ByteArray,n.data.toList=s.data.toList→zAb s=true):Same en T (RD (zDU nm)) (vR en T nm) (zA7 en nm):=by
 refine⟨zTj en T nm,fun p hp hk=>?_⟩
 unfold vR zA7;rw[zDC en T p hp,zNJ];obtain⟨f1,f2⟩:=zL6 (zAI en (T.drop p.k)).text p nm 0;cases hq:(zBB nm (zAI en (T.drop p.k)).text).2
 ·rw[f2 hq]
  cases hb:zAb (zAI en (T.drop p.k)).text
  ·simp only[Bool.false_eq_true,if_false]
   have e:zAT 1 p=⟨p.k,1⟩:=by unfold zAT;rw[if_pos hp]
   rw[e];exact⟨rfl,by omega,rfl,hk⟩
  ·simp only[Bool.false_eq_true,if_false,if_true]
   have e:zAT 5 p=⟨p.k,5⟩:=by unfold zAT;rw[if_pos hp]
   rw[e];exact⟨rfl,by omega,rfl,hk⟩
 ·obtain⟨n,hm,he⟩:=zI0 _ nm hq
  have hb:=hn n hm _ he;rw[if_pos rfl,hb,if_pos rfl];obtain⟨j,hj1,hj2⟩:=f1 hq;rw[hj1];refine zCx (y:=fun _=>(zBB nm (zAI en (T.drop p.k)).text).1) p hp hk true _ (fun _=>⟨rfl,zIz en T p.k (fun h0=>by rw[h0,zCn] at hb;cases hb),fun hA=>?_⟩) (fun h=>by cases h)
  rw[hj2 hA];simp
end Go.Proofs.YtdjbejlbmaiocagGreatDoor
