/- What the proof leans on, part 28. -/
import Derived.Test.YtdjbejlbmaiocagGreatDoorPartBa
import Derived.Test.YtdjbejlbmaiocagGreatDoorPartAb
import Derived.Test.YtdjbejlbmaiocagGreatDoorPartAq
import Derived.Defers
import Derived.Recover
import Derived.Test.YtdjbejlbmaiocagGreatDoorPartAe
import Derived.Test.YtdjbejlbmaiocagGreatDoorProg
import Derived.Shelf.Strings.Builder1
import Derived.Shelf.Strings.Builder2
import Derived.Shelf.Strings.OnBuilder
import Derived.Shelf.Strings.BuilderF
import Derived.Shelf.Strconv.Atoi
import Derived.Shelf.Strconv.Itoa0
import Derived.Shelf.Strconv.Itoa1
import Derived.Shelf.LaysM
import Derived.Shelf.Strconv.Itoa2
import Derived.Shelf.Strconv.Itoa3
set_option maxRecDepth 100000
set_option maxHeartbeats 800000
namespace Go.Proofs.YtdjbejlbmaiocagGreatDoor
open Go.RowKit
def TArg (N:Nat) (w:World) (v:Value) (l:List Tok):Prop :=
 ∃a c,v=.slice a l.length c∧(l.length≤c∧c≤maxLen)∧(l.length≤4000∧∀t∈l,zJE t)∧∀(i:Nat) (t:Tok),l[i]? = some t→∃b off,a=some ⟨b,off,none⟩∧b<N∧w.cell? ⟨b,off+i * 3,none⟩=some (.int .i64 t.kind)∧w.cell? ⟨b,off+i * 3+1,none⟩=some (.int .i64 t.place)∧w.cell? ⟨b,off+i * 3+2,none⟩=some (.string t.text)
def Rd (N R M:Nat) (en:Int) (w:World) (l:List Tok):Prop :=
 (N≤R∧N≤w.heap.size∧M≠R)∧∃v,w.heap[R]? = some (.cells #[v,.int .i64 en,.map (some M)] 177)∧TArg N w v l
theorem TArg.old {N:Nat} {w w':World} {v:Value} {l:List Tok} (h:TArg N w v l) (hc:∀p:Addr,p.block<N→w'.cell? p=w.cell? p):TArg N w' v l:=by
 obtain⟨a,c,hv,hm,ht,hr⟩:=h;refine⟨a,c,hv,hm,ht,fun i t hi=>?_⟩
 obtain⟨b,off,ha,hlt,c0,c1,c2⟩:=hr i t hi;exact⟨b,off,ha,hlt,(hc ⟨b,off+i * 3,none⟩ hlt).trans c0,(hc ⟨b,off+i * 3+1,none⟩ hlt).trans c1,(hc ⟨b,off+i * 3+2,none⟩ hlt).trans c2⟩
theorem Rd.len {N R M:Nat} {en:Int} {w:World} {l:List Tok} (h:Rd N R M en w l):l.length≤4000:=by
 obtain⟨_,v,_,_,_,_,_,ht,_⟩:=h;exact ht.1
theorem Rd.set {N R M:Nat} {en:Int} {w:World} {l:List Tok} (h:Rd N R M en w l) {p:Addr} (hp:p.block≠R) (hN:N≤p.block) (u:Value):Rd N R M en (w.setCell p u) l:=by
 obtain⟨⟨h1,h2,h3⟩,v,hR,ht⟩:=h;exact⟨⟨h1,by simpa using h2,h3⟩,v,(Below.heap_setCell _ _ _ _ (Ne.symm hp)).trans hR,ht.old fun q hq=>World.cell?_of_block (Below.heap_setCell _ _ _ _ (by omega))⟩
theorem Rd.put {N R M:Nat} {en:Int} {w:World} {l r:List Tok} {v:Value} (h:Rd N R M en w l) (hv:TArg N w v r):Rd N R M en (w.setCell ⟨R,0,none⟩ v) r:=by
 obtain⟨⟨h1,h2,h3⟩,v0,hR,_⟩:=h;refine⟨⟨h1,by simpa using h2,h3⟩,v,?_,hv.old fun q hq=>World.cell?_of_block (Below.heap_setCell _ _ _ _ (by simp only;omega))⟩
 rw[heap_setCell_same w R 0 _ _ v hR];rfl
def tokA (t:Tok):Value:=.agg #[.int .i64 t.kind,.int .i64 t.place,.string t.text]
theorem zAX (N R M:Nat) (en:Int) (w:World) (l:List Tok) (h:Rd N R M en w l) :
 Calls Tryz.prog 175 #[.pointer (some ⟨R,0,none⟩)] w fun e w'=>e=.returned (tokA (zAI en l))∧Below w.heap.size w w':=by
 obtain⟨⟨_,hNw,_⟩,v,hR,a,c,rfl,hm,_,hr⟩:=h;have c0:w.cell? ⟨R,0,none⟩=some (.slice a l.length c):=by rw[Lib.cell_of_heap hR];rfl
 have c1:w.cell? ⟨R,1,none⟩=some (.int .i64 en):=by rw[Lib.cell_of_heap hR];rfl
 have hRl:R<w.heap.size:=(Array.getElem?_eq_some_iff.1 hR).1;unfold maxLen at hm;obtain⟨hm1,hm⟩:=hm;cases l with
 | nil =>
   clear hr hR;go_enter Tryz.func175,Tryz.ntmps175
   go_wp2
   refine bodyPost_ret (by simp[results,Tryz.results175,go_sem, *];try rfl) rfl ⟨rfl,?_⟩
   exact zAA _ _
 | cons t r =>
   obtain⟨b,off,rfl,hb,g0,g1,g2⟩:=hr 0 t rfl;simp only[Nat.zero_mul,Nat.add_zero] at g0 g1 g2;have hbw:b<w.heap.size:=by omega
   have hlen:((t :: r).length:Int)=(r.length:Int)+1:=by simp
   clear hr hR;go_enter Tryz.func175,Tryz.ntmps175
   go_wp2
   refine bodyPost_ret (by simp[results,Tryz.results175,go_sem, *];try rfl) rfl ⟨rfl,?_⟩
   exact zAA _ _
theorem zTf (t:Tok) (w:World):Sem.run Tryz.prog (Instr.field 158 (.agg #[.int .i64 t.kind,.int .i64 t.place,.string t.text]) 0) w=.ok (.int .i64 t.kind) w:=by kernel_rfl
theorem zUR (t:Tok) (w:World):Sem.run Tryz.prog (Instr.field 158 (.agg #[.int .i64 t.kind,.int .i64 t.place,.string t.text]) 1) w=.ok (.int .i64 t.place) w:=by kernel_rfl
theorem zGD (t:Tok) (w:World):Sem.run Tryz.prog (Instr.field 158 (.agg #[.int .i64 t.kind,.int .i64 t.place,.string t.text]) 2) w=.ok (.string t.text) w:=by kernel_rfl
theorem zG5 (N R M:Nat) (en er:Int) (w:World) (l:List Tok) (h:Rd N R M en w l) :
 Calls Tryz.prog 179 #[.pointer (some ⟨R,0,none⟩),.int .i64 er] w fun e w'=>e=.panicked [{ v:=.iface 172 (.agg #[.int .i64 (zAI en l).place,.int .i64 er]),recovered:=false }]∧Below w.heap.size w w':=by
 have hf1:=zUR (zAI en l);go_enter Tryz.func179,Tryz.ntmps179
 go_wp2_with fail
 refine (zAX N R M en _ l h).mono ?_;rintro e w1 ⟨rfl,hb1⟩;unfold tokA;go_wp2
 exact⟨rfl,rfl,hb1⟩
def zCk {α:Type} (p:PR α) (G:α→Value→World→Prop) (N R M:Nat) (en:Int) (X:Nat→Prop) (w:World) (e:Ending) (w':World):Prop :=
 match p with
 | .ok a r=>∃v,e=.returned v∧G a v w'∧Rd N R M en w' r∧Fr X w w'
 | .bad x er=>e=.panicked [{ v:=.iface 172 (.agg #[.int .i64 x,.int .i64 er]),recovered:=false }]∧Fr X w w'
theorem Rd.below {N R M:Nat} {en:Int} {w w':World} {l:List Tok} (h:Rd N R M en w l) (hb:Below w.heap.size w w'):Rd N R M en w' l:=by
 obtain⟨⟨h1,h2,h3⟩,v,hR,a,c,hv,hm,ht,hr⟩:=h;have hRl:R<w.heap.size:=(Array.getElem?_eq_some_iff.1 hR).1;refine⟨⟨h1,Nat.le_trans h2 hb.size,h3⟩,v,(hb.block R hRl).trans hR,a,c,hv,hm,ht,fun i t hi=>?_⟩
 obtain⟨b,off,ha,hlt,c0,c1,c2⟩:=hr i t hi;have hbw:b<w.heap.size:=by omega
 exact⟨b,off,ha,hlt,(hb.cell (p:=⟨b,off+i * 3,none⟩) hbw).trans c0,(hb.cell (p:=⟨b,off+i * 3+1,none⟩) hbw).trans c1,(hb.cell (p:=⟨b,off+i * 3+2,none⟩) hbw).trans c2⟩
theorem zQl {N R M B:Nat} {en:Int} {w1:World} {l r:List Tok} {v x y z:Value} {o:Obj} (h:Rd N R M en w1 l) (hv:TArg N w1 v r) (hne:B≠R) (hN:N≤B) :
 Rd N R M en (((((w1.setCell ⟨R,0,none⟩ v).setCell ⟨B,0,none⟩ x).setCell ⟨B,1,none⟩ y).setCell ⟨B,2,none⟩ z).alloc o) r :=
 ((((h.put hv).set (p:=⟨B,0,none⟩) hne hN _).set (p:=⟨B,1,none⟩) hne hN _).set (p:=⟨B,2,none⟩) hne hN _).below (zAA _ _)
theorem zQm {R:Nat} {w w1:World} {v x y z:Value} {o:Obj} (h:Below w.heap.size w w1) :
 Fr (fun k=>k=R) w (((((w1.setCell ⟨R,0,none⟩ v).setCell ⟨w.heap.size,0,none⟩ x).setCell ⟨w.heap.size,1,none⟩ y).setCell ⟨w.heap.size,2,none⟩ z).alloc o) :=
 (((((Fr.below (X:=fun k=>k=R) h).setX (p:=⟨R,0,none⟩) rfl _).setNew (p:=⟨w.heap.size,0,none⟩) (Nat.le_refl _) _).setNew (p:=⟨w.heap.size,1,none⟩) (Nat.le_refl _) _).setNew (p:=⟨w.heap.size,2,none⟩) (Nat.le_refl _) _).alloc _
theorem zC8 (N R M:Nat) (en:Int) (fits:Bool) (w:World) (l:List Tok) (h:Rd N R M en w l) (hf:fits=true→l≠[]) :
 Calls Tryz.prog 272 #[.pointer (some ⟨R,0,none⟩),.bool fits] w (zCk (zBm en fits l) (fun t v _=>v=tokA t) N R M en (fun k=>k=R) w):=by
 cases fits
 ·have HB:Hid (Rd N R M en w l):=h
  go_enter Tryz.func272,Tryz.ntmps272
  go_wp2_with fail
  refine (zG5 N R M en 1 _ l (HB.out.below (zAA _ _))).mono ?_;rintro e w1 ⟨rfl,hb1⟩;go_wp2
  exact⟨rfl,rfl,Fr.below ((zAA _ _).trans (hb1.mono (by simp)))⟩
 ·have HB:Hid (Rd N R M en w l):=h
  obtain⟨t,r,rfl⟩:∃t r,l=t :: r:=by
   cases l with
   | nil=>exact absurd rfl (hf rfl)
   | cons t r=>exact⟨t,r,rfl⟩
  go_enter Tryz.func272,Tryz.ntmps272
  go_wp2_with fail
  refine (zAX N R M en _ (t :: r) (HB.out.below (zAA _ _))).mono ?_;rintro e w1 ⟨rfl,hb1⟩;have HR1:Hid (Rd N R M en w1 (t :: r)):=(HB.out.below (zAA _ _)).below hb1;obtain⟨⟨_,hNw,_⟩,v,hR,a,c,rfl,hm,ht,hr⟩:=HR1.out;have c0:w1.cell? ⟨R,0,none⟩=some (.slice a (t :: r).length c):=by rw[Lib.cell_of_heap hR];rfl
  have hRl:R<w1.heap.size:=(Array.getElem?_eq_some_iff.1 hR).1;have z0:w1.frozen? ⟨R,0,none⟩=false:=by unfold World.frozen?;simp only[hR];simp
  obtain⟨b,off,rfl,hb,_,_,_⟩:=hr 0 t rfl;unfold maxLen at hm;obtain⟨hm1,hm⟩:=hm;have HB1:Hid (Below w.heap.size w w1):=(zAA _ _).trans (hb1.mono (by simp))
  have HW:w1.heap[w.heap.size]? = some (.cells #[.int .i64 0,.int .i64 0,.string ⟨#[]⟩] 158):=(hb1.block _ (by simp)).trans (by show (w.heap.push _)[w.heap.size]? = _;simp)
  have d0:w1.cell? ⟨w.heap.size,0,none⟩=some (.int .i64 0):=by rw[Lib.cell_of_heap HW];rfl
  have d1:w1.cell? ⟨w.heap.size,1,none⟩=some (.int .i64 0):=by rw[Lib.cell_of_heap HW];rfl
  have d2:w1.cell? ⟨w.heap.size,2,none⟩=some (.string ⟨#[]⟩):=by rw[Lib.cell_of_heap HW];rfl
  have y0:w1.frozen? ⟨w.heap.size,0,none⟩=false:=by unfold World.frozen?;simp only[HW];simp
  have y1:w1.frozen? ⟨w.heap.size,1,none⟩=false:=by unfold World.frozen?;simp only[HW];simp
  have y2:w1.frozen? ⟨w.heap.size,2,none⟩=false:=by unfold World.frozen?;simp only[HW];simp
  have hsw:w.heap.size<w1.heap.size:=(Array.getElem?_eq_some_iff.1 HW).1;have hN0:N≤w.heap.size:=HB.out.1.2.1;have hne:w.heap.size≠R:=by obtain⟨_,_,hR0,_⟩:=HB.out;have:=(Array.getElem?_eq_some_iff.1 hR0).1;omega
  unfold tokA;simp only[zAI];clear hr hR ht hb1 hf h HW;go_wp2
  ·have hr0:r=[]:=by
    rcases r with _ | ⟨x,r⟩
    ·rfl
    ·simp at hm1;omega
   have HT:TArg N w1 (.slice (some ⟨b,off,none⟩) r.length 0) r:=by
    subst hr0;exact⟨_,_,rfl,⟨Nat.le_refl _,Nat.zero_le _⟩,⟨by simp,fun t ht=>by (cases ht)⟩,fun i t hi=>by (simp at hi)⟩
   refine bodyPost_ret (by simp[results,Tryz.results272,go_sem, *];try rfl) rfl ?_
   exact⟨_,rfl,rfl,zQl HR1.out HT hne hN0,zQm HB1.out⟩
  ·have HT:TArg N w1 (.slice (some ⟨b,off+3,none⟩) r.length (c - 1)) r:=by
    obtain⟨_,v2,hR2,a2,c2,hv2,hm2,ht2,hr2⟩:=HR1.out;have hv3:v2=.slice (some ⟨b,off,none⟩) (t :: r).length c:=by
     have h1:=c0;rw[Lib.cell_of_heap hR2] at h1;exact Option.some.inj h1
    rw[hv2] at hv3;simp only[Value.slice.injEq] at hv3;obtain⟨rfl,_,rfl⟩:=hv3;refine⟨_,_,rfl,⟨by simp at hm1;omega,by unfold maxLen;omega⟩,⟨by have:=ht2.1;simp at this;omega,fun x hx=>ht2.2 x (List.mem_cons_of_mem _ hx)⟩,fun i x hi=>?_⟩
    obtain⟨b',off',ha,hlt,q0,q1,q2⟩:=hr2 (i+1) x (by simpa using hi)
    simp only[Option.some.injEq,Addr.mk.injEq,and_true] at ha;obtain⟨rfl,rfl⟩:=ha;refine⟨_,_,rfl,hlt,?_,?_,?_⟩
    ·rw[show off+3+i * 3=off+(i+1) * 3 by omega];exact q0
    ·rw[show off+3+i * 3=off+(i+1) * 3 by omega];exact q1
    ·rw[show off+3+i * 3=off+(i+1) * 3 by omega];exact q2
   refine bodyPost_ret (by simp[results,Tryz.results272,go_sem, *];try rfl) rfl ?_
   exact⟨_,rfl,rfl,zQl HR1.out HT hne hN0,zQm HB1.out⟩
def zBz (s:ByteArray):Prop:=(ByteArray.empty.toList==s.toList)=false
theorem zFR (en:Int) (l:List Tok) (s:ByteArray) (hs:zBz s) (h:((zAI en l).text.toList==s.toList)=true):l≠[]:=by
 intro hl;subst hl;have h2:(ByteArray.empty.toList==s.toList)=true:=h;rw[hs] at h2;cases h2
theorem zCk.fr {α:Type} {p:PR α} {G:α→Value→World→Prop} {N R M:Nat} {en:Int} {X:Nat→Prop} {w0 w w':World} {e:Ending} (h0:Fr X w0 w) (h:zCk p G N R M en X w e w'):zCk p G N R M en X w0 e w':=by
 unfold zCk at *;cases p with
 | ok a r=>obtain⟨v,h1,h2,h3,h4⟩:=h;exact⟨v,h1,h2,h3,h0.trans h4⟩
 | bad x er=>exact⟨h.1,h0.trans h.2⟩
theorem zAw (N R M:Nat) (en:Int) (s:ByteArray) (hs:zBz s) (w:World) (l:List Tok) (h:Rd N R M en w l) :
 Calls Tryz.prog 236 #[.pointer (some ⟨R,0,none⟩),.string s] w (zCk (zAP en s l) (fun _ v _=>v=.tuple #[]) N R M en (fun k=>k=R) w):=by
 have hf2:=zGD (zAI en l);have HB:Hid (Rd N R M en w l):=h;have HS:Hid (zBz s):=hs;obtain⟨B,hB⟩:∃B,((zAI en l).text.toList==s.toList)=B:=⟨_,rfl⟩;have HBB:Hid (((zAI en l).text.toList==s.toList)=B):=hB;have HP:Hid (zAP en s l=zBm en B l):=by show _=_;unfold zAP;rw[hB]
 rw[HP.out];clear hs hB;go_enter Tryz.func236,Tryz.ntmps236
 go_wp2_with fail
 refine (zAX N R M en _ l HB.out).mono ?_;rintro e w1 ⟨rfl,hb1⟩;have HR1:Hid (Rd N R M en w1 l):=HB.out.below hb1;have HF1:Hid (Fr (fun k=>k=R) w w1):=Fr.below hb1
 unfold tokA;go_wp2_with fail
 rw[HBB.out];refine (zC8 N R M en B w1 l HR1.out (fun hb=>zFR en l s HS.out (HBB.out.trans hb))).mono ?_
 intro e w2 hp;have HP2:Hid (zCk (zBm en B l) (fun t v _=>v=tokA t) N R M en (fun k=>k=R) w e w2):=hp.fr HF1.out
 clear hp hb1 h;cases B
 ·obtain⟨rfl,hfr⟩:=HP2.out
  go_wp2
  exact⟨rfl,rfl,hfr⟩
 ·obtain⟨v,rfl,rfl,hrd,hfr⟩:=HP2.out
  unfold tokA;go_wp2
  go_end0
  exact⟨_,rfl,rfl,hrd,hfr⟩
theorem zM7 (w:World) (s:ByteArray) (hs:s.size≤maxLen):MArg (w.alloc (.cells #[.string s,.int .i64 0,.int .i64 0] 71)) (.slice (some ⟨w.heap.size,0,none⟩) 1 1) (.slice none 0 0) ⟨[⟨s,0,0⟩],[],0,0⟩:=by
 refine⟨⟨_,1,rfl,⟨Nat.le_refl _,by unfold maxLen;omega⟩,fun i t ht=>?_⟩,⟨none,0,rfl,⟨Nat.le_refl _,Nat.zero_le _⟩,fun i t ht=>by simp at ht⟩⟩
 match i,ht with
 | 0,ht =>
   cases ht
   exact⟨hs,_,0,rfl,by simp,World.cell?_alloc_at _ _ _ 0 (by simp),World.cell?_alloc_at _ _ _ 1 (by simp),World.cell?_alloc_at _ _ _ 2 (by simp)⟩
theorem zId (s:ByteArray) (hs:s.size≤maxLen) (w:World) :
 Calls Tryz.prog 273 #[.string s] w fun e w'=>e=.returned (.bool (zFo s))∧Below w.heap.size w w':=by
 obtain⟨er,her⟩:∃er,zAF ⟨[⟨s,0,0⟩],[],0,0⟩=er:=⟨_,rfl⟩;have HER:Hid (zAF ⟨[⟨s,0,0⟩],[],0,0⟩=er):=her;have HN:Hid (zFo s=(er==0)):=by show _=_;unfold zFo;rw[her]
 rw[HN.out];have HA:Hid (MArg (w.alloc (.cells #[.string s,.int .i64 0,.int .i64 0] 71)) (.slice (some ⟨w.heap.size,0,none⟩) 1 1) (.slice none 0 0) ⟨[⟨s,0,0⟩],[],0,0⟩):=zM7 w s hs;clear her hs;go_enter Tryz.func273,Tryz.ntmps273
 go_wp2_with fail
 refine (show Calls Tryz.prog 40 #[.agg #[.slice (some ⟨w.heap.size,0,none⟩) 1 1,.slice none 0 0,.int .i64 0,.int .i64 0]] _ _ from zCD ⟨[⟨s,0,0⟩],[],0,0⟩ _ _ _ HA.out).mono ?_
 rintro e w1 ⟨rfl,hb1⟩;rw[HER.out];have hb2:Below w.heap.size w w1:=(zAA _ _).trans (hb1.mono (by simp))
 clear hb1;go_wp2
 go_ret
 exact⟨rfl,hb2⟩
theorem zJz:zFo ByteArray.empty=false:=by kernel_rfl
theorem zLg {N R M:Nat} {en:Int} {w:World} {l:List Tok} (h:Rd N R M en w l):(zAI en l).text.size≤maxLen:=by
 obtain⟨_,v,_,_,_,_,_,ht,_⟩:=h;cases l with
 | nil=>show ByteArray.empty.size≤maxLen;exact Nat.zero_le _
 | cons t r=>have:=(ht.2 t (List.mem_cons_self ..)).1;show t.text.size≤maxLen;unfold maxLen;omega
theorem zM8 (N R M:Nat) (en:Int) (w:World) (l:List Tok) (h:Rd N R M en w l) :
 Calls Tryz.prog 237 #[.pointer (some ⟨R,0,none⟩)] w (zCk (zCQ en l) (fun s v _=>v=.string s∧s.size≤maxLen) N R M en (fun k=>k=R) w):=by
 have hf2:=zGD (zAI en l);have HB:Hid (Rd N R M en w l):=h;have hsz:=zLg h;obtain⟨B,hB⟩:∃B,zFo (zAI en l).text=B:=⟨_,rfl⟩;have HBB:Hid (zFo (zAI en l).text=B):=hB;have HP:Hid (zCQ en l=(zBm en B l).bind fun t r=>.ok t.text r):=by show _=_;unfold zCQ;rw[hB]
 have HL:Hid (B=true→l≠[]):=by
  intro hb hl;subst hl;rw[hb] at hB;have h2:zFo ByteArray.empty=true:=hB;rw[zJz] at h2;cases h2
 have HSZ:Hid ((zAI en l).text.size≤maxLen):=hsz;rw[HP.out];clear hB hsz h;go_enter Tryz.func237,Tryz.ntmps237
 go_wp2_with fail
 refine (zAX N R M en _ l HB.out).mono ?_;rintro e w1 ⟨rfl,hb1⟩;have HR1:Hid (Rd N R M en w1 l):=HB.out.below hb1;have HF1:Hid (Fr (fun k=>k=R) w w1):=Fr.below hb1
 unfold tokA;clear hb1;go_wp2_with fail
 refine (zId _ HSZ.out _).mono ?_;rintro e w2 ⟨rfl,hb2⟩;rw[HBB.out];have HR2:Hid (Rd N R M en w2 l):=HR1.out.below hb2;have HF2:Hid (Fr (fun k=>k=R) w w2):=HF1.out.trans (Fr.below hb2)
 clear hb2 hf2;go_wp2_with fail
 refine (zC8 N R M en B w2 l HR2.out HL.out).mono ?_;intro e w3 hp;have HP2:Hid (zCk (zBm en B l) (fun t v _=>v=tokA t) N R M en (fun k=>k=R) w e w3):=hp.fr HF2.out
 clear hp;cases B
 ·obtain⟨rfl,hfr⟩:=HP2.out
  go_wp2
  exact⟨rfl,rfl,hfr⟩
 ·obtain⟨v,rfl,rfl,hrd,hfr⟩:=HP2.out
  have hf2:=zGD (zAI en l);unfold tokA;go_wp2
  go_ret
  exact⟨_,rfl,⟨rfl,HSZ.out⟩,hrd,hfr⟩
def SArg (w:World) (v:Value) (l:List ByteArray):Prop :=
 ∃a c,v=.slice a l.length c∧(l.length≤c∧c≤maxLen)∧∀(i:Nat) (z:ByteArray),l[i]? = some z→∃b off,a=some ⟨b,off,none⟩∧b<w.heap.size∧w.cell? ⟨b,off+i,none⟩=some (.string z)
theorem SArg.below {w w':World} {v:Value} {l:List ByteArray} (hb:Below w.heap.size w w') (h:SArg w v l):SArg w' v l:=by
 obtain⟨a,c,hv,hm,hr⟩:=h;refine⟨a,c,hv,hm,fun i z hz=>?_⟩
 obtain⟨b,off,ha,hlt,hc⟩:=hr i z hz;exact⟨b,off,ha,Nat.lt_of_lt_of_le hlt hb.size,(hb.cell (p:=⟨b,off+i,none⟩) hlt).trans hc⟩
theorem zTg (l:List ByteArray) (n:ByteArray) (m:Nat) (z:ByteArray) (hz:l[m]? = some z) (h:(n.toList==z.toList)=true):idxA (l.drop m) n m=(m:Int):=by
 have hm:m<l.length:=(List.getElem?_eq_some_iff.1 hz).1;rw[List.drop_eq_getElem_cons hm];have:l[m]=z:=by rw[List.getElem?_eq_getElem hm] at hz;exact Option.some.inj hz
 rw[this,idxA,h,if_pos rfl]
theorem zSV (l:List ByteArray) (n:ByteArray) (m:Nat) (z:ByteArray) (hz:l[m]? = some z) (h:(n.toList==z.toList)=false):idxA (l.drop m) n m=idxA (l.drop (m+1)) n (m+1):=by
 have hm:m<l.length:=(List.getElem?_eq_some_iff.1 hz).1;rw[List.drop_eq_getElem_cons hm];have:l[m]=z:=by rw[List.getElem?_eq_getElem hm] at hz;exact Option.some.inj hz
 rw[this,idxA,h,if_neg (by simp)]
theorem zO5 (l:List ByteArray) (v:Value) (n:ByteArray) (w:World) (hv:SArg w v l) :
 Calls Tryz.prog 275 #[v,.string n] w fun e w'=>e=.returned (.int .i64 (idxA l n 0))∧w'=w:=by
 obtain⟨a,c,rfl,hm,hr⟩:=hv;have HV:Hid (∀(i:Nat) (z:ByteArray),l[i]? = some z→∃b off,a=some ⟨b,off,none⟩∧b<w.heap.size∧w.cell? ⟨b,off+i,none⟩=some (.string z)):=hr;obtain⟨R,hR⟩:∃R,idxA l n 0=R:=⟨_,rfl⟩;rw[hR];have HR:Hid (idxA l n 0=R):=hR;unfold maxLen at hm;obtain⟨hm1,hm⟩:=hm;clear hr hR;go_enter Tryz.func275,Tryz.ntmps275
 go_wp2_with fail
 go_loop [8] (fun i=>∃m:Nat,m≤l.length∧i=.int .i64 m∧Hid (idxA (l.drop m) n m=R)) (fun i=>l.length - (intOf i).toNat)
 case atStart=>exact⟨0,by omega,rfl,HR⟩
 case round =>
  obtain⟨m,hml,rfl,hall⟩:=hrel;by_cases hlt:m<l.length
  ·obtain⟨z,hz⟩:∃z,l[m]? = some z:=⟨l[m],by simp[hlt]⟩
   obtain⟨b,off,ha,hb,hc⟩:=HV.out m z hz;have HZ:Hid (l[m]? = some z):=hz;subst ha;clear hz;cases hq:(n.toList==z.toList)
   ·have HN:Hid (idxA (l.drop (m+1)) n (m+1)=R):=by show _=_;rw[←zSV l n m z HZ.out hq];exact hall.out
    go_wp2
    go_round
    case rel=>exact⟨m+1,by omega,by go_num,HN⟩
    case measure=>simp[intOf];omega
   ·have HN:Hid (R=(m:Int)):=by rw[←hall.out];exact zTg l n m z HZ.out hq
    go_wp2
    go_ret
    exact⟨zAE HN.out.symm,rfl⟩
  ·have HN:Hid (R=-1):=by
    have h:=hall.out;rw[List.drop_eq_nil_of_le (by omega)] at h
    exact h.symm
   go_wp2
   go_ret
   exact⟨zAE HN.out.symm,rfl⟩
theorem zIe (N R M:Nat) (en:Int) (texts:List ByteArray) (v:Value) (w:World) (l:List Tok) (h:Rd N R M en w l) (hv:SArg w v texts) :
 Calls Tryz.prog 239 #[.pointer (some ⟨R,0,none⟩),v] w (zCk (zBO en texts l) (fun i v _=>v=.int .i64 i) N R M en (fun k=>k=R) w):=by
 have hf0:=zTf (zAI en l);have hf2:=zGD (zAI en l);have HB:Hid (Rd N R M en w l):=h;have HV:Hid (∀w',Below w.heap.size w w'→SArg w' v texts):=fun w' hb=>SArg.below hb hv
 obtain⟨a,c,rfl,_,_⟩:=hv;obtain⟨I,hI⟩:∃I,idxA texts (zAI en l).text 0=I:=⟨_,rfl⟩;have HI:Hid (idxA texts (zAI en l).text 0=I):=hI;obtain⟨P,hP⟩:∃P,zBO en texts l=P:=⟨_,rfl⟩;have HP:Hid (P=(zBm en (decide (0≤I)&&((zAI en l).kind != 0)) l).bind fun _ r=>.ok I r):=by show _=_;rw[←hP];unfold zBO;rw[hI]
 rw[hP];have HL:Hid (((zAI en l).kind != 0)=true→l≠[]):=by
  intro hb hl;subst hl;have h2:((0:Int) != 0)=true:=hb;simp at h2
 clear hI h hP;go_enter Tryz.func239,Tryz.ntmps239
 go_wp2_with fail
 refine (zAX N R M en _ l HB.out).mono ?_;rintro e w1 ⟨rfl,hb1⟩;have HR1:Hid (Rd N R M en w1 l):=HB.out.below hb1;have HF1:Hid (Fr (fun k=>k=R) w w1):=Fr.below hb1
 have HV1:Hid (SArg w1 (.slice a texts.length c) texts):=HV.out _ hb1;unfold tokA;clear hb1;go_wp2_with fail
 refine (zO5 texts _ _ _ HV1.out).mono ?_;rintro e w1 ⟨rfl,rfl⟩;rw[HI.out];by_cases h0:0≤I
 ·have HD:Hid (decide (0≤I)=true):=decide_eq_true h0
  obtain⟨K,hK⟩:∃K,((zAI en l).kind != 0)=K:=⟨_,rfl⟩;have HK:Hid (((zAI en l).kind != 0)=K):=hK;have HP2:Hid (P=(zBm en K l).bind fun _ r=>.ok I r):=by show _=_;rw[HP.out,HD.out,hK];rfl
  clear hK;go_wp2_with fail
  refine (zAX N R M en _ l HR1.out).mono ?_;rintro e w2 ⟨rfl,hb2⟩;have HR2:Hid (Rd N R M en w2 l):=HR1.out.below hb2;have HF2:Hid (Fr (fun k=>k=R) w w2):=HF1.out.trans (Fr.below hb2)
  unfold tokA;clear hb2;go_wp2_with fail
  rw[HK.out];refine (zC8 N R M en K w2 l HR2.out (fun hb=>HL.out (HK.out.trans hb))).mono ?_
  intro e w3 hp;have HP3:Hid (zCk (zBm en K l) (fun t v _=>v=tokA t) N R M en (fun k=>k=R) w e w3):=hp.fr HF2.out
  clear hp;cases K
  ·obtain⟨rfl,hfr⟩:=HP3.out
   go_wp2
   exact⟨rfl,by rw[HP2.out];exact⟨rfl,hfr⟩⟩
  ·obtain⟨v,rfl,rfl,hrd,hfr⟩:=HP3.out
   unfold tokA;go_wp2
   go_ret
   rw[HP2.out];exact⟨_,rfl,rfl,hrd,hfr⟩
 ·have HP2:Hid (P=(zBm en false l).bind fun _ r=>.ok I r):=by show _=_;rw[HP.out,decide_eq_false h0];rfl
  go_wp2_with fail
  refine (zC8 N R M en false w1 l HR1.out (fun hb=>by cases hb)).mono ?_
  intro e w3 hp;have HP3:Hid (zCk (zBm en false l) (fun t v _=>v=tokA t) N R M en (fun k=>k=R) w e w3):=hp.fr HF1.out
  clear hp;obtain⟨rfl,hfr⟩:=HP3.out;go_wp2
  exact⟨rfl,by rw[HP2.out];exact⟨rfl,hfr⟩⟩
end Go.Proofs.YtdjbejlbmaiocagGreatDoor
namespace Go.Proofs
open Go.Shelf
def Tryz.lays169_ren:Go.Shelf.Ren:=⟨fun | 169=>112 | n=>n,fun | 70=>148 | 9=>9 | 0=>0 | 72=>150 | 37=>107 | 127=>217 | 3=>3 | 5=>5 | n=>n,fun | n=>n⟩
theorem Tryz.lays169:Go.Proofs.Lays.n169 Tryz.prog Tryz.lays169_ren:={
 mixed:=by kernel_rfl
 f169:=Tryz.func112.trans (congrArg some (by kernel_rfl))
 t0:=Tryz.underlying0
 a0:=Tryz.isAgg0
 z0:=Tryz.sizeOf0
 v0:=Tryz.zeroValue0
 t3:=Tryz.underlying3
 a3:=Tryz.isAgg3
 z3:=Tryz.sizeOf3
 v3:=Tryz.zeroValue3
 t9:=Tryz.underlying9
 a9:=Tryz.isAgg9
 z9:=Tryz.sizeOf9
 v9:=Tryz.zeroValue9
 t37:=Tryz.underlying107
 a37:=Tryz.isAgg107
 z37:=Tryz.sizeOf107
 v37:=Tryz.zeroValue107
 t70:=Tryz.underlying148
 a70:=Tryz.isAgg148
 z70:=Tryz.sizeOf148
 v70:=Tryz.zeroValue148
 t72:=Tryz.underlying150
 a72:=Tryz.isAgg150
 z72:=Tryz.sizeOf150
 v72:=Tryz.zeroValue150
 t127:=Tryz.underlying217
 a127:=Tryz.isAgg217
 z127:=Tryz.sizeOf217
 v127:=Tryz.zeroValue217 }
theorem Tryz.Builder_Extra_169:Builder.Extra Tryz.prog Tryz.lays169_ren:={
 sizeBuilder:=by kernel_rfl
 liesBuilder:=by kernel_rfl
 t5:=Tryz.underlying5
 a5:=Tryz.isAgg5
 z5:=Tryz.sizeOf5
 v5:=Tryz.zeroValue5
 infoByte:=by kernel_rfl
 cellsByte:=by kernel_rfl
 sizeByte:=by kernel_rfl
 neB5:=by decide }
def Tryz.lays172_ren:Go.Shelf.Ren:=⟨fun | 172=>274 | 244=>289 | 245=>290 | 247=>292 | 279=>293 | 280=>294 | 281=>295 | 282=>296 | 287=>297 | 316=>298 | 171=>55 | 205=>299 | 321=>300 | 322=>301 | 243=>109 | 246=>161 | 283=>224 | 284=>225 | 285=>226 | 286=>227 | 129=>210 | 317=>266 | 318=>267 | 319=>268 | 320=>269 | 337=>287 | 338=>258 | n=>n,fun | 9=>9 | 3=>3 | 75=>152 | 76=>153 | 4=>4 | 5=>5 | 167=>319 | 37=>107 | 0=>0 | 85=>320 | 2=>2 | 168=>322 | 53=>182 | 175=>325 | 46=>197 | 210=>329 | 127=>217 | 145=>334 | 143=>332 | 21=>21 | 171=>265 | 173=>267 | 212=>300 | 51=>254 | 20=>20 | 213=>301 | 232=>317 | 233=>313 | 80=>100 | n=>n,fun | 15=>4 | 16=>5 | 17=>0 | 18=>2 | 19=>1 | n=>n⟩
theorem Tryz.lays172:Go.Proofs.Lays.n172 Tryz.prog Tryz.lays172_ren:={
 mixed:=by kernel_rfl
 f129:=Tryz.func210.trans (congrArg some (by kernel_rfl))
 f171:=Tryz.func55.trans (congrArg some (by kernel_rfl))
 f172:=Tryz.func274.trans (congrArg some (by kernel_rfl))
 f205:=Tryz.func299.trans (congrArg some (by kernel_rfl))
 f243:=Tryz.func109.trans (congrArg some (by kernel_rfl))
 f244:=Tryz.func289.trans (congrArg some (by kernel_rfl))
 f245:=Tryz.func290.trans (congrArg some (by kernel_rfl))
 f246:=Tryz.func161.trans (congrArg some (by kernel_rfl))
 f247:=Tryz.func292.trans (congrArg some (by kernel_rfl))
 f279:=Tryz.func293.trans (congrArg some (by kernel_rfl))
 f280:=Tryz.func294.trans (congrArg some (by kernel_rfl))
 f281:=Tryz.func295.trans (congrArg some (by kernel_rfl))
 f282:=Tryz.func296.trans (congrArg some (by kernel_rfl))
 f283:=Tryz.func224.trans (congrArg some (by kernel_rfl))
 f284:=Tryz.func225.trans (congrArg some (by kernel_rfl))
 f285:=Tryz.func226.trans (congrArg some (by kernel_rfl))
 f286:=Tryz.func227.trans (congrArg some (by kernel_rfl))
 f287:=Tryz.func297.trans (congrArg some (by kernel_rfl))
 f316:=Tryz.func298.trans (congrArg some (by kernel_rfl))
 f317:=Tryz.func266.trans (congrArg some (by kernel_rfl))
 f318:=Tryz.func267.trans (congrArg some (by kernel_rfl))
 f319:=Tryz.func268.trans (congrArg some (by kernel_rfl))
 f320:=Tryz.func269.trans (congrArg some (by kernel_rfl))
 f321:=Tryz.func300.trans (congrArg some (by kernel_rfl))
 f322:=Tryz.func301.trans (congrArg some (by kernel_rfl))
 f337:=Tryz.func287.trans (congrArg some (by kernel_rfl))
 f338:=Tryz.func258.trans (congrArg some (by kernel_rfl))
 t0:=Tryz.underlying0
 a0:=Tryz.isAgg0
 z0:=Tryz.sizeOf0
 v0:=Tryz.zeroValue0
 t2:=Tryz.underlying2
 a2:=Tryz.isAgg2
 z2:=Tryz.sizeOf2
 v2:=Tryz.zeroValue2
 t3:=Tryz.underlying3
 a3:=Tryz.isAgg3
 z3:=Tryz.sizeOf3
 v3:=Tryz.zeroValue3
 t4:=Tryz.underlying4
 a4:=Tryz.isAgg4
 z4:=Tryz.sizeOf4
 v4:=Tryz.zeroValue4
 t5:=Tryz.underlying5
 a5:=Tryz.isAgg5
 z5:=Tryz.sizeOf5
 v5:=Tryz.zeroValue5
 t9:=Tryz.underlying9
 a9:=Tryz.isAgg9
 z9:=Tryz.sizeOf9
 v9:=Tryz.zeroValue9
 t20:=Tryz.underlying20
 a20:=Tryz.isAgg20
 z20:=Tryz.sizeOf20
 v20:=Tryz.zeroValue20
 t21:=Tryz.underlying21
 a21:=Tryz.isAgg21
 z21:=Tryz.sizeOf21
 v21:=Tryz.zeroValue21
 t37:=Tryz.underlying107
 a37:=Tryz.isAgg107
 z37:=Tryz.sizeOf107
 v37:=Tryz.zeroValue107
 t46:=Tryz.underlying197
 a46:=Tryz.isAgg197
 z46:=Tryz.sizeOf197
 v46:=Tryz.zeroValue197
 t51:=Tryz.underlying254
 a51:=Tryz.isAgg254
 z51:=Tryz.sizeOf254
 v51:=Tryz.zeroValue254
 t53:=Tryz.underlying182
 a53:=Tryz.isAgg182
 z53:=Tryz.sizeOf182
 v53:=Tryz.zeroValue182
 t75:=Tryz.underlying152
 a75:=Tryz.isAgg152
 z75:=Tryz.sizeOf152
 v75:=Tryz.zeroValue152
 t76:=Tryz.underlying153
 a76:=Tryz.isAgg153
 z76:=Tryz.sizeOf153
 v76:=Tryz.zeroValue153
 t85:=Tryz.underlying320
 a85:=Tryz.isAgg320
 z85:=Tryz.sizeOf320
 v85:=Tryz.zeroValue320
 t127:=Tryz.underlying217
 a127:=Tryz.isAgg217
 z127:=Tryz.sizeOf217
 v127:=Tryz.zeroValue217
 t143:=Tryz.underlying332
 a143:=Tryz.isAgg332
 z143:=Tryz.sizeOf332
 v143:=Tryz.zeroValue332
 t145:=Tryz.underlying334
 a145:=Tryz.isAgg334
 z145:=Tryz.sizeOf334
 v145:=Tryz.zeroValue334
 t167:=Tryz.underlying319
 a167:=Tryz.isAgg319
 z167:=Tryz.sizeOf319
 v167:=Tryz.zeroValue319
 t168:=Tryz.underlying322
 a168:=Tryz.isAgg322
 z168:=Tryz.sizeOf322
 v168:=Tryz.zeroValue322
 t171:=Tryz.underlying265
 a171:=Tryz.isAgg265
 z171:=Tryz.sizeOf265
 v171:=Tryz.zeroValue265
 t173:=Tryz.underlying267
 a173:=Tryz.isAgg267
 z173:=Tryz.sizeOf267
 v173:=Tryz.zeroValue267
 t175:=Tryz.underlying325
 a175:=Tryz.isAgg325
 z175:=Tryz.sizeOf325
 v175:=Tryz.zeroValue325
 t210:=Tryz.underlying329
 a210:=Tryz.isAgg329
 z210:=Tryz.sizeOf329
 v210:=Tryz.zeroValue329
 t212:=Tryz.underlying300
 a212:=Tryz.isAgg300
 z212:=Tryz.sizeOf300
 v212:=Tryz.zeroValue300
 t213:=Tryz.underlying301
 a213:=Tryz.isAgg301
 z213:=Tryz.sizeOf301
 t232:=Tryz.underlying317
 a232:=Tryz.isAgg317
 z232:=Tryz.sizeOf317
 v232:=Tryz.zeroValue317
 t233:=Tryz.underlying313
 a233:=Tryz.isAgg313
 z233:=Tryz.sizeOf313
 v233:=Tryz.zeroValue313
 g15:=by kernel_rfl
 g16:=by kernel_rfl
 g17:=by kernel_rfl
 g18:=by kernel_rfl
 g19:=by kernel_rfl }
open Go.RowKit in
theorem Tryz.strconv_Atoi (s:ByteArray) (n:Int) (hl:s.size≤18) (h:Lib.atoi s.data.toList=some n) (w:World) :
 Calls Tryz.prog 274 #[.string s] w fun e w'=>e=.returned (.tuple #[.int .i64 n,.nilIface])∧∃t,w'=Lib.bytesWorld w 5 t:=Any.strconv_Atoi Tryz.lays172 s n hl h w
def Tryz.laysM171_ren:Go.Shelf.Ren:=⟨fun | 171=>55 | 243=>109 | 246=>161 | 283=>224 | 284=>225 | 285=>226 | 286=>227 | 129=>210 | 317=>266 | 318=>267 | 319=>268 | 320=>269 | 337=>287 | 338=>258 | n=>n,fun | 3=>3 | 9=>9 | 2=>2 | 4=>4 | 171=>265 | 0=>0 | 53=>182 | 37=>107 | 5=>5 | 173=>267 | 212=>300 | 51=>254 | 20=>20 | 213=>301 | 46=>197 | 232=>317 | 233=>313 | n=>n,fun | 17=>0 | 18=>2 | 19=>1 | n=>n⟩
theorem Tryz.laysM171:Go.Proofs.LaysM.n171 Tryz.prog Tryz.laysM171_ren:={
 mixed:=by kernel_rfl
 f129:=Tryz.func210.trans (congrArg some (by kernel_rfl))
 f171:=Tryz.func55.trans (congrArg some (by kernel_rfl))
 f243:=Tryz.func109.trans (congrArg some (by kernel_rfl))
 f246:=Tryz.func161.trans (congrArg some (by kernel_rfl))
 f283:=Tryz.func224.trans (congrArg some (by kernel_rfl))
 f284:=Tryz.func225.trans (congrArg some (by kernel_rfl))
 f285:=Tryz.func226.trans (congrArg some (by kernel_rfl))
 f286:=Tryz.func227.trans (congrArg some (by kernel_rfl))
 f317:=Tryz.func266.trans (congrArg some (by kernel_rfl))
 f318:=Tryz.func267.trans (congrArg some (by kernel_rfl))
 f319:=Tryz.func268.trans (congrArg some (by kernel_rfl))
 f320:=Tryz.func269.trans (congrArg some (by kernel_rfl))
 f337:=Tryz.func287.trans (congrArg some (by kernel_rfl))
 f338:=Tryz.func258.trans (congrArg some (by kernel_rfl))
 t0:=Tryz.underlying0
 a0:=Tryz.isAgg0
 z0:=Tryz.sizeOf0
 v0:=Tryz.zeroValue0
 t2:=Tryz.underlying2
 a2:=Tryz.isAgg2
 z2:=Tryz.sizeOf2
 v2:=Tryz.zeroValue2
 t3:=Tryz.underlying3
 a3:=Tryz.isAgg3
 z3:=Tryz.sizeOf3
 v3:=Tryz.zeroValue3
 t4:=Tryz.underlying4
 a4:=Tryz.isAgg4
 z4:=Tryz.sizeOf4
 v4:=Tryz.zeroValue4
 t5:=Tryz.underlying5
 a5:=Tryz.isAgg5
 z5:=Tryz.sizeOf5
 v5:=Tryz.zeroValue5
 t9:=Tryz.underlying9
 a9:=Tryz.isAgg9
 z9:=Tryz.sizeOf9
 v9:=Tryz.zeroValue9
 t20:=Tryz.underlying20
 a20:=Tryz.isAgg20
 z20:=Tryz.sizeOf20
 v20:=Tryz.zeroValue20
 t37:=Tryz.underlying107
 a37:=Tryz.isAgg107
 z37:=Tryz.sizeOf107
 v37:=Tryz.zeroValue107
 t46:=Tryz.underlying197
 a46:=Tryz.isAgg197
 z46:=Tryz.sizeOf197
 v46:=Tryz.zeroValue197
 t51:=Tryz.underlying254
 a51:=Tryz.isAgg254
 z51:=Tryz.sizeOf254
 v51:=Tryz.zeroValue254
 t53:=Tryz.underlying182
 a53:=Tryz.isAgg182
 z53:=Tryz.sizeOf182
 v53:=Tryz.zeroValue182
 t171:=Tryz.underlying265
 a171:=Tryz.isAgg265
 z171:=Tryz.sizeOf265
 v171:=Tryz.zeroValue265
 t173:=Tryz.underlying267
 a173:=Tryz.isAgg267
 z173:=Tryz.sizeOf267
 v173:=Tryz.zeroValue267
 t212:=Tryz.underlying300
 a212:=Tryz.isAgg300
 z212:=Tryz.sizeOf300
 v212:=Tryz.zeroValue300
 t213:=Tryz.underlying301
 a213:=Tryz.isAgg301
 z213:=Tryz.sizeOf301
 t232:=Tryz.underlying317
 a232:=Tryz.isAgg317
 z232:=Tryz.sizeOf317
 v232:=Tryz.zeroValue317
 t233:=Tryz.underlying313
 a233:=Tryz.isAgg313
 z233:=Tryz.sizeOf313
 v233:=Tryz.zeroValue313
 g17:=by kernel_rfl
 g18:=by kernel_rfl
 g19:=by kernel_rfl
 i0:=by kernel_rfl
 i2:=by kernel_rfl
 i3:=by kernel_rfl
 i4:=by kernel_rfl
 i5:=by kernel_rfl
 i9:=by kernel_rfl
 i20:=by kernel_rfl
 i37:=by kernel_rfl
 i46:=by kernel_rfl
 i51:=by kernel_rfl
 i53:=by kernel_rfl
 i171:=by kernel_rfl
 i173:=by kernel_rfl
 i212:=by kernel_rfl
 i232:=by kernel_rfl
 i233:=by kernel_rfl
 m17:=by kernel_rfl
 m18:=by kernel_rfl
 m19:=by kernel_rfl }
open Go.RowKit Go.Sort Go.Lib in
theorem Tryz.strconv_Itoa (n:Int) (h0:-9223372036854775808≤n) (h1:n≤9223372036854775807) (w:World) (htab:Lib.TabIs Tryz.prog w "internal/strconv.uint64pow10" .u64 Lib.pow10Tab) :
 Calls Tryz.prog 55 #[.int .i64 n] w fun e w'=>e=.returned (.string ⟨(Lib.itoa n).toArray⟩)∧∃k os,w'=grow (w.drewN k) os:=Any.strconv_Itoa Tryz.laysM171 n h0 h1 w htab
end Go.Proofs
