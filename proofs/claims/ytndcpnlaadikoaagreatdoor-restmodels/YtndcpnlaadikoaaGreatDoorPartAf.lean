/- What the proof leans on, part 6. -/
import Derived.Test.YtndcpnlaadikoaaGreatDoorPartAe
import Derived.Test.YtndcpnlaadikoaaGreatDoorPartAc
import Derived.Test.YtndcpnlaadikoaaGreatDoorProg
import Derived.Test.YtndcpnlaadikoaaGreatDoorPartAb
import Derived.Shelf.Strings.Builder1
import Derived.Shelf.Strings.Builder2
import Derived.Shelf.Strings.OnBuilder
import Derived.Shelf.Strings.BuilderF
import Derived.Shelf.Strconv.Atoi
import Derived.Shelf.Strconv.Itoa0
import Derived.Shelf.Strconv.Itoa1
import Derived.Shelf.LaysM
import Derived.Shelf.Strconv.Itoa2
import Derived.Shelf.Strconv.Itoa3
set_option maxRecDepth 100000
set_option maxHeartbeats 1600000
namespace Go.Proofs.YtndcpnlaadikoaaGreatDoor
open Go.RowKit
def varL (m:Mod):List Int:=(List.range m.vars.length).map fun i=>varE (m.vars.take i) (m.vars.getD i ⟨ByteArray.empty,0,0⟩)
theorem zQY (m:Mod) (k:Nat) (t:MVar) (h:m.vars[k]? = some t):(varL m)[k]? = some (varE (m.vars.take k) t):=by
 have hk:k<m.vars.length:=(List.getElem?_eq_some_iff.1 h).1;unfold varL;rw[List.getElem?_map,List.getElem?_range hk];simp[List.getD,h]
theorem zQZ (m:Mod):(varL m).length=m.vars.length:=by simp[varL]
def conL (m:Mod):List Int:=m.cons.map (conE m.vars.length)
theorem zQa (m:Mod) (k:Nat) (t:MCon) (h:m.cons[k]? = some t):(conL m)[k]? = some (conE m.vars.length t):=by simp[conL,h]
theorem zA9 (m:Mod) (vs cs:Value) (w:World) (hm:MArg w vs cs m) :
 Calls Tryz.prog 59 #[modV vs cs m] w fun e w'=>e=.returned (.int .i64 (zAG m))∧Below w.heap.size w w':=by
 have HMA:Hid (∀w':World,Below w.heap.size w w'→MArg w' vs cs m):=fun w' h=>MArg.below h hm
 obtain⟨⟨a1,c1,rfl,hl1,hr1⟩,⟨a2,c2,rfl,hl2,hr2⟩⟩:=hm;obtain⟨R,hR⟩:∃R,zAG m=R:=⟨_,rfl⟩;rw[hR];unfold maxLen at hl1 hl2;obtain⟨hl11,hl1⟩:=hl1;obtain⟨hl21,hl2⟩:=hl2;clear hr1 hr2;unfold modV;by_cases h0:m.vars.length=0
 ·have HE:Hid (R=1):=by rw[←hR];unfold zAG;rw[if_pos h0];rfl
  have g0:((m.vars.length:Int)==0)=true:=by simp[h0]
  clear hR h0;go_enter Tryz.func59,Tryz.ntmps59
  go_wp2
  go_ret
  exact⟨zAI HE.out.symm,zAA _ _⟩
 ·have g0:((m.vars.length:Int)==0)=false:=by simpa using h0
  by_cases h6:6<m.vars.length
  ·have HE:Hid (R=2):=by rw[←hR];unfold zAG;rw[if_neg h0,if_pos (Or.inl h6)];rfl
   clear hR h0;go_enter Tryz.func59,Tryz.ntmps59
   go_wp2
   go_ret
   exact⟨zAI HE.out.symm,zAA _ _⟩
  ·by_cases h8:8<m.cons.length
   ·have HE:Hid (R=2):=by rw[←hR];unfold zAG;rw[if_neg h0,if_pos (Or.inr h8)];rfl
    clear hR h0;go_enter Tryz.func59,Tryz.ntmps59
    go_wp2
    go_ret
    exact⟨zAI HE.out.symm,zAA _ _⟩
   ·have HE:Hid (R=if zAj (varL m)=0 then (if zAj (conL m)=0 then zJT m else zAj (conL m)) else zAj (varL m)):=by
     rw[←hR];unfold zAG;rw[if_neg h0,if_neg (by omega)];rfl
    clear hR h0;go_enter Tryz.func59,Tryz.ntmps59
    go_wp2
    obtain⟨w0,hw0⟩:∃w0:World,w0=w.alloc (.cells #[.slice a1 m.vars.length c1,.slice a2 m.cons.length c2,.int .i64 m.goal,.int .i64 m.var] 25):=⟨_,rfl⟩;rw[←hw0];have HB0:Hid (Below w.heap.size w w0):=by rw[hw0];exact zAA _ _
    have HZ0:Hid (w0.heap.size=w.heap.size+1):=by show _=_;rw[hw0];simp
    have HD:Hid (w0.cell? ⟨w.heap.size,0,none⟩=some (.slice a1 m.vars.length c1)∧w0.cell? ⟨w.heap.size,1,none⟩=some (.slice a2 m.cons.length c2)∧w0.cell? ⟨w.heap.size,2,none⟩=some (.int .i64 m.goal)∧w0.cell? ⟨w.heap.size,3,none⟩=some (.int .i64 m.var)):=by
     rw[hw0];exact⟨by simp,by simp,by simp,by simp⟩
    clear hw0;go_loopw [25] (fun i wr=>∃k:Nat,k≤m.vars.length∧i=.int .i64 k∧Hid (zAj ((varL m).take k)=0)∧Below w0.heap.size w0 wr) (fun i _=>m.vars.length - (intOf i).toNat)
    case atStart=>exact⟨0,by omega,rfl,rfl,Below.refl _ _⟩
    case round =>
     obtain⟨k,hk,rfl,hno,hbw⟩:=hrel;have hlt0:w.heap.size<w0.heap.size:=by rw[HZ0.out];omega
     have d0:=(hbw.cell (p:=⟨w.heap.size,0,none⟩) hlt0).trans HD.out.1;have d1:=(hbw.cell (p:=⟨w.heap.size,1,none⟩) hlt0).trans HD.out.2.1;have d2:=(hbw.cell (p:=⟨w.heap.size,2,none⟩) hlt0).trans HD.out.2.2.1;have d3:=(hbw.cell (p:=⟨w.heap.size,3,none⟩) hlt0).trans HD.out.2.2.2;have HBW:Hid (Below w.heap.size w wr):=HB0.out.trans (hbw.mono (by omega))
     by_cases hlt:k<m.vars.length
     ·obtain⟨t,ht⟩:∃t,m.vars[k]? = some t:=⟨m.vars[k],by simp[hlt]⟩
      have HG:Hid ((varL m)[k]? = some (varE (m.vars.take k) t)):=zQY m k t ht;have HT:Hid (m.vars[k]? = some t):=ht;clear ht;go_wp2_with fail
      refine (zOl m.vars _ k t _ (HMA.out _ HBW.out).1 HT.out).mono ?_;rintro e w1 ⟨rfl,hb1⟩;obtain⟨er,her⟩:∃er,varE (m.vars.take k) t=er:=⟨_,rfl⟩;have HG2:Hid ((varL m)[k]? = some er):=by rw[←her];exact HG.out
      rw[her];clear her;have hbt:Below w0.heap.size w0 w1:=hbw.trans (hb1.mono hbw.size);by_cases he:er=0
      ·subst he
       have HN:Hid (zAj ((varL m).take (k+1))=0):=zDF _ k hno.out HG2.out;clear hb1;go_wp2
       go_roundw
       case rel=>exact⟨k+1,by omega,by go_num,HN,hbt⟩
       case measure=>simp[intOf];omega
      ·have HN:Hid (R=er):=by
        have hf:=zDm (varL m) k er hno.out HG2.out he;rw[HE.out,hf,if_neg he];rfl
       have he2:(er != 0)=true:=by simpa using he
       clear hb1 he;go_wp2
       go_ret
       exact⟨zAI HN.out.symm,HB0.out.trans (hbt.mono (by omega))⟩
     ·have HV:Hid (zAj (varL m)=0):=by
       have:=hno.out;rw[List.take_of_length_le (by rw[zQZ];omega)] at this;exact this
      have HBO:Hid (Below w0.heap.size w0 wr):=hbw;obtain⟨wo,rfl⟩:∃wo:World,wo=wr:=⟨_,rfl⟩;go_wp2
      clear hk hno hbw hlt d0 d1 d2 d3;go_loopw [39] (fun i wr=>∃k:Nat,k≤m.cons.length∧i=.int .i64 k∧Hid (zAj ((conL m).take k)=0)∧Below w0.heap.size w0 wr) (fun i _=>m.cons.length - (intOf i).toNat)
      case atStart=>exact⟨0,by omega,rfl,rfl,HBO.out⟩
      case round =>
       obtain⟨k,hk,rfl,hno,hbw⟩:=hrel;have d0:=(hbw.cell (p:=⟨w.heap.size,0,none⟩) hlt0).trans HD.out.1;have d1:=(hbw.cell (p:=⟨w.heap.size,1,none⟩) hlt0).trans HD.out.2.1;have d2:=(hbw.cell (p:=⟨w.heap.size,2,none⟩) hlt0).trans HD.out.2.2.1;have d3:=(hbw.cell (p:=⟨w.heap.size,3,none⟩) hlt0).trans HD.out.2.2.2;have HB2:Hid (Below w.heap.size w wr):=HB0.out.trans (hbw.mono (by omega))
       by_cases hlt:k<m.cons.length
       ·obtain⟨t,ht⟩:∃t,m.cons[k]? = some t:=⟨m.cons[k],by simp[hlt]⟩
        have HG:Hid ((conL m)[k]? = some (conE m.vars.length t)):=zQa m k t ht;obtain⟨a2',c2',hva,_,hrc⟩:=(HMA.out _ HB2.out).2;obtain⟨b,off,vv,vc,vr,vl,ha,hb,e0,e1,e2,e3,e4,e5,hka⟩:=hrc k t ht;have ha2:a2=some ⟨b,off,none⟩:=by cases hva;exact ha
        subst ha2;have HKA:Hid (KArg wr vv vc vr vl t):=hka;obtain⟨⟨q1,r1,rfl,_,_⟩,⟨q2,r2,rfl,_,_⟩,⟨q3,r3,rfl,_,_⟩,⟨q4,r4,rfl,_,_⟩⟩:=hka;have hsz:=hbw.size;have hlw:w.heap.size<wr.heap.size:=by omega
        clear ht hva hrc ha;go_wp2_with fail
        refine (zSI t _ _ _ _ _ _ (KArg.below (zAA _ _) HKA.out)).mono ?_;rintro e w1 ⟨rfl,hb1⟩;obtain⟨er,her⟩:∃er,conE m.vars.length t=er:=⟨_,rfl⟩;have HG2:Hid ((conL m)[k]? = some er):=by rw[←her];exact HG.out
        rw[her];clear her;have hbt:Below w0.heap.size w0 w1:=(hbw.alloc hsz _).trans (hb1.mono (by simp;omega))
        by_cases he:er=0
        ·subst he
         have HN:Hid (zAj ((conL m).take (k+1))=0):=zDF _ k hno.out HG2.out;clear hb1;go_wp2
         go_roundw
         case rel=>exact⟨k+1,by omega,by go_num,HN,hbt⟩
         case measure=>simp[intOf];omega
        ·have HN:Hid (R=er):=by
          have hf:=zDm (conL m) k er hno.out HG2.out he;rw[HE.out,HV.out,if_pos rfl,hf,if_neg he];rfl
         have he2:(er != 0)=true:=by simpa using he
         clear hb1 he;go_wp2
         go_ret
         exact⟨zAI HN.out.symm,HB0.out.trans (hbt.mono (by omega))⟩
       ·have HN:Hid (R=zJT m):=by
         have hc0:zAj (conL m)=0:=by have:=hno.out;rw[List.take_of_length_le (by simp[conL];omega)] at this;exact this
         rw[HE.out,HV.out,if_pos rfl,hc0,if_pos rfl];rfl
        go_wp2_with fail
        refine (zQX m _ _ _ (HMA.out _ HB2.out)).mono ?_;rintro e w3 ⟨rfl,hb3⟩;go_wp2
        go_ret
        exact⟨zAI HN.out.symm,HB2.out.trans (hb3.mono HB2.out.size)⟩
def zC6 (s:ByteArray):Prop:=(ByteArray.empty.toList==s.toList)=false
theorem zEU (en:Int) (l:List Tok) (s:ByteArray) (hs:zC6 s) (h:((zAN en l).text.toList==s.toList)=true):l≠[]:=by
 intro hl;subst hl;have h2:(ByteArray.empty.toList==s.toList)=true:=h;rw[hs] at h2;cases h2
theorem zB7.fr {α:Type} {p:PR α} {G:α→Value→World→Prop} {N R M:Nat} {en:Int} {X:Nat→Prop} {w0 w w':World} {e:Ending} (h0:Fr X w0 w) (h:zB7 p G N R M en X w e w'):zB7 p G N R M en X w0 e w':=by
 unfold zB7 at *;cases p with
 | ok a r=>obtain⟨v,h1,h2,h3,h4⟩:=h;exact⟨v,h1,h2,h3,h0.trans h4⟩
 | bad x er=>exact⟨h.1,h0.trans h.2⟩
theorem zAp (N R M:Nat) (en:Int) (s:ByteArray) (hs:zC6 s) (w:World) (l:List Tok) (h:Rd N R M en w l) :
 Calls Tryz.prog 259 #[.pointer (some ⟨R,0,none⟩),.string s] w (zB7 (zAY en s l) (fun _ v _=>v=.tuple #[]) N R M en (fun k=>k=R) w):=by
 have hf2:=zFD (zAN en l);have HB:Hid (Rd N R M en w l):=h;have HS:Hid (zC6 s):=hs;obtain⟨B,hB⟩:∃B,((zAN en l).text.toList==s.toList)=B:=⟨_,rfl⟩;have HBB:Hid (((zAN en l).text.toList==s.toList)=B):=hB;have HP:Hid (zAY en s l=zBu en B l):=by show _=_;unfold zAY;rw[hB]
 rw[HP.out];clear hs hB;go_enter Tryz.func259,Tryz.ntmps259
 go_wp2_with fail
 refine (zAS N R M en _ l HB.out).mono ?_;rintro e w1 ⟨rfl,hb1⟩;have HR1:Hid (Rd N R M en w1 l):=HB.out.below hb1;have HF1:Hid (Fr (fun k=>k=R) w w1):=Fr.below hb1
 unfold tokA;go_wp2_with fail
 rw[HBB.out];refine (zCM N R M en B w1 l HR1.out (fun hb=>zEU en l s HS.out (HBB.out.trans hb))).mono ?_
 intro e w2 hp;have HP2:Hid (zB7 (zBu en B l) (fun t v _=>v=tokA t) N R M en (fun k=>k=R) w e w2):=hp.fr HF1.out
 clear hp hb1 h;cases B
 ·obtain⟨rfl,hfr⟩:=HP2.out
  go_wp2
  exact⟨rfl,rfl,hfr⟩
 ·obtain⟨v,rfl,rfl,hrd,hfr⟩:=HP2.out
  unfold tokA;go_wp2
  go_end0
  exact⟨_,rfl,rfl,hrd,hfr⟩
theorem zLP (w:World) (s:ByteArray) (hs:s.size≤maxLen):MArg (w.alloc (.cells #[.string s,.int .i64 0,.int .i64 0] 67)) (.slice (some ⟨w.heap.size,0,none⟩) 1 1) (.slice none 0 0) ⟨[⟨s,0,0⟩],[],0,0⟩:=by
 refine⟨⟨_,1,rfl,⟨Nat.le_refl _,by unfold maxLen;omega⟩,fun i t ht=>?_⟩,⟨none,0,rfl,⟨Nat.le_refl _,Nat.zero_le _⟩,fun i t ht=>by simp at ht⟩⟩
 match i,ht with
 | 0,ht =>
   cases ht
   exact⟨hs,_,0,rfl,by simp,World.cell?_alloc_at _ _ _ 0 (by simp),World.cell?_alloc_at _ _ _ 1 (by simp),World.cell?_alloc_at _ _ _ 2 (by simp)⟩
theorem zHJ (s:ByteArray) (hs:s.size≤maxLen) (w:World) :
 Calls Tryz.prog 279 #[.string s] w fun e w'=>e=.returned (.bool (zGw s))∧Below w.heap.size w w':=by
 obtain⟨er,her⟩:∃er,zAG ⟨[⟨s,0,0⟩],[],0,0⟩=er:=⟨_,rfl⟩;have HER:Hid (zAG ⟨[⟨s,0,0⟩],[],0,0⟩=er):=her;have HN:Hid (zGw s=(er==0)):=by show _=_;unfold zGw;rw[her]
 rw[HN.out];have HA:Hid (MArg (w.alloc (.cells #[.string s,.int .i64 0,.int .i64 0] 67)) (.slice (some ⟨w.heap.size,0,none⟩) 1 1) (.slice none 0 0) ⟨[⟨s,0,0⟩],[],0,0⟩):=zLP w s hs;clear her hs;go_enter Tryz.func279,Tryz.ntmps279
 go_wp2_with fail
 refine (show Calls Tryz.prog 59 #[.agg #[.slice (some ⟨w.heap.size,0,none⟩) 1 1,.slice none 0 0,.int .i64 0,.int .i64 0]] _ _ from zA9 ⟨[⟨s,0,0⟩],[],0,0⟩ _ _ _ HA.out).mono ?_
 rintro e w1 ⟨rfl,hb1⟩;rw[HER.out];have hb2:Below w.heap.size w w1:=(zAA _ _).trans (hb1.mono (by simp))
 clear hb1;go_wp2
 go_ret
 exact⟨rfl,hb2⟩
theorem zIZ:zGw ByteArray.empty=false:=by kernel_rfl
theorem zJ7 {N R M:Nat} {en:Int} {w:World} {l:List Tok} (h:Rd N R M en w l):(zAN en l).text.size≤maxLen:=by
 obtain⟨_,v,_,_,_,_,_,ht,_⟩:=h;cases l with
 | nil=>show ByteArray.empty.size≤maxLen;exact Nat.zero_le _
 | cons t r=>have:=(ht.2 t (List.mem_cons_self ..)).1;show t.text.size≤maxLen;unfold maxLen;omega
theorem zLQ (N R M:Nat) (en:Int) (w:World) (l:List Tok) (h:Rd N R M en w l) :
 Calls Tryz.prog 260 #[.pointer (some ⟨R,0,none⟩)] w (zB7 (zC5 en l) (fun s v _=>v=.string s∧s.size≤maxLen) N R M en (fun k=>k=R) w):=by
 have hf2:=zFD (zAN en l);have HB:Hid (Rd N R M en w l):=h;have hsz:=zJ7 h;obtain⟨B,hB⟩:∃B,zGw (zAN en l).text=B:=⟨_,rfl⟩;have HBB:Hid (zGw (zAN en l).text=B):=hB;have HP:Hid (zC5 en l=(zBu en B l).bind fun t r=>.ok t.text r):=by show _=_;unfold zC5;rw[hB]
 have HL:Hid (B=true→l≠[]):=by
  intro hb hl;subst hl;rw[hb] at hB;have h2:zGw ByteArray.empty=true:=hB;rw[zIZ] at h2;cases h2
 have HSZ:Hid ((zAN en l).text.size≤maxLen):=hsz;rw[HP.out];clear hB hsz h;go_enter Tryz.func260,Tryz.ntmps260
 go_wp2_with fail
 refine (zAS N R M en _ l HB.out).mono ?_;rintro e w1 ⟨rfl,hb1⟩;have HR1:Hid (Rd N R M en w1 l):=HB.out.below hb1;have HF1:Hid (Fr (fun k=>k=R) w w1):=Fr.below hb1
 unfold tokA;clear hb1;go_wp2_with fail
 refine (zHJ _ HSZ.out _).mono ?_;rintro e w2 ⟨rfl,hb2⟩;rw[HBB.out];have HR2:Hid (Rd N R M en w2 l):=HR1.out.below hb2;have HF2:Hid (Fr (fun k=>k=R) w w2):=HF1.out.trans (Fr.below hb2)
 clear hb2 hf2;go_wp2_with fail
 refine (zCM N R M en B w2 l HR2.out HL.out).mono ?_;intro e w3 hp;have HP2:Hid (zB7 (zBu en B l) (fun t v _=>v=tokA t) N R M en (fun k=>k=R) w e w3):=hp.fr HF2.out
 clear hp;cases B
 ·obtain⟨rfl,hfr⟩:=HP2.out
  go_wp2
  exact⟨rfl,rfl,hfr⟩
 ·obtain⟨v,rfl,rfl,hrd,hfr⟩:=HP2.out
  have hf2:=zFD (zAN en l);unfold tokA;go_wp2
  go_ret
  exact⟨_,rfl,⟨rfl,HSZ.out⟩,hrd,hfr⟩
def SArg (w:World) (v:Value) (l:List ByteArray):Prop :=
 ∃a c,v=.slice a l.length c∧(l.length≤c∧c≤maxLen)∧∀(i:Nat) (z:ByteArray),l[i]? = some z→∃b off,a=some ⟨b,off,none⟩∧b<w.heap.size∧w.cell? ⟨b,off+i,none⟩=some (.string z)
theorem SArg.below {w w':World} {v:Value} {l:List ByteArray} (hb:Below w.heap.size w w') (h:SArg w v l):SArg w' v l:=by
 obtain⟨a,c,hv,hm,hr⟩:=h;refine⟨a,c,hv,hm,fun i z hz=>?_⟩
 obtain⟨b,off,ha,hlt,hc⟩:=hr i z hz;exact⟨b,off,ha,Nat.lt_of_lt_of_le hlt hb.size,(hb.cell (p:=⟨b,off+i,none⟩) hlt).trans hc⟩
theorem zSJ (l:List ByteArray) (n:ByteArray) (m:Nat) (z:ByteArray) (hz:l[m]? = some z) (h:(n.toList==z.toList)=true):idxA (l.drop m) n m=(m:Int):=by
 have hm:m<l.length:=(List.getElem?_eq_some_iff.1 hz).1;rw[List.drop_eq_getElem_cons hm];have:l[m]=z:=by rw[List.getElem?_eq_getElem hm] at hz;exact Option.some.inj hz
 rw[this,idxA,h,if_pos rfl]
theorem zQb (l:List ByteArray) (n:ByteArray) (m:Nat) (z:ByteArray) (hz:l[m]? = some z) (h:(n.toList==z.toList)=false):idxA (l.drop m) n m=idxA (l.drop (m+1)) n (m+1):=by
 have hm:m<l.length:=(List.getElem?_eq_some_iff.1 hz).1;rw[List.drop_eq_getElem_cons hm];have:l[m]=z:=by rw[List.getElem?_eq_getElem hm] at hz;exact Option.some.inj hz
 rw[this,idxA,h,if_neg (by simp)]
theorem zNa (l:List ByteArray) (v:Value) (n:ByteArray) (w:World) (hv:SArg w v l) :
 Calls Tryz.prog 281 #[v,.string n] w fun e w'=>e=.returned (.int .i64 (idxA l n 0))∧w'=w:=by
 obtain⟨a,c,rfl,hm,hr⟩:=hv;have HV:Hid (∀(i:Nat) (z:ByteArray),l[i]? = some z→∃b off,a=some ⟨b,off,none⟩∧b<w.heap.size∧w.cell? ⟨b,off+i,none⟩=some (.string z)):=hr;obtain⟨R,hR⟩:∃R,idxA l n 0=R:=⟨_,rfl⟩;rw[hR];have HR:Hid (idxA l n 0=R):=hR;unfold maxLen at hm;obtain⟨hm1,hm⟩:=hm;clear hr hR;go_enter Tryz.func281,Tryz.ntmps281
 go_wp2_with fail
 go_loop [8] (fun i=>∃m:Nat,m≤l.length∧i=.int .i64 m∧Hid (idxA (l.drop m) n m=R)) (fun i=>l.length - (intOf i).toNat)
 case atStart=>exact⟨0,by omega,rfl,HR⟩
 case round =>
  obtain⟨m,hml,rfl,hall⟩:=hrel;by_cases hlt:m<l.length
  ·obtain⟨z,hz⟩:∃z,l[m]? = some z:=⟨l[m],by simp[hlt]⟩
   obtain⟨b,off,ha,hb,hc⟩:=HV.out m z hz;have HZ:Hid (l[m]? = some z):=hz;subst ha;clear hz;cases hq:(n.toList==z.toList)
   ·have HN:Hid (idxA (l.drop (m+1)) n (m+1)=R):=by show _=_;rw[←zQb l n m z HZ.out hq];exact hall.out
    go_wp2
    go_round
    case rel=>exact⟨m+1,by omega,by go_num,HN⟩
    case measure=>simp[intOf];omega
   ·have HN:Hid (R=(m:Int)):=by rw[←hall.out];exact zSJ l n m z HZ.out hq
    go_wp2
    go_ret
    exact⟨zAI HN.out.symm,rfl⟩
  ·have HN:Hid (R=-1):=by
    have h:=hall.out;rw[List.drop_eq_nil_of_le (by omega)] at h
    exact h.symm
   go_wp2
   go_ret
   exact⟨zAI HN.out.symm,rfl⟩
theorem zHK (N R M:Nat) (en:Int) (texts:List ByteArray) (v:Value) (w:World) (l:List Tok) (h:Rd N R M en w l) (hv:SArg w v texts) :
 Calls Tryz.prog 262 #[.pointer (some ⟨R,0,none⟩),v] w (zB7 (zC0 en texts l) (fun i v _=>v=.int .i64 i) N R M en (fun k=>k=R) w):=by
 have hf0:=zSG (zAN en l);have hf2:=zFD (zAN en l);have HB:Hid (Rd N R M en w l):=h;have HV:Hid (∀w',Below w.heap.size w w'→SArg w' v texts):=fun w' hb=>SArg.below hb hv
 obtain⟨a,c,rfl,_,_⟩:=hv;obtain⟨I,hI⟩:∃I,idxA texts (zAN en l).text 0=I:=⟨_,rfl⟩;have HI:Hid (idxA texts (zAN en l).text 0=I):=hI;obtain⟨P,hP⟩:∃P,zC0 en texts l=P:=⟨_,rfl⟩;have HP:Hid (P=(zBu en (decide (0≤I)&&((zAN en l).kind != 0)) l).bind fun _ r=>.ok I r):=by show _=_;rw[←hP];unfold zC0;rw[hI]
 rw[hP];have HL:Hid (((zAN en l).kind != 0)=true→l≠[]):=by
  intro hb hl;subst hl;have h2:((0:Int) != 0)=true:=hb;simp at h2
 clear hI h hP;go_enter Tryz.func262,Tryz.ntmps262
 go_wp2_with fail
 refine (zAS N R M en _ l HB.out).mono ?_;rintro e w1 ⟨rfl,hb1⟩;have HR1:Hid (Rd N R M en w1 l):=HB.out.below hb1;have HF1:Hid (Fr (fun k=>k=R) w w1):=Fr.below hb1
 have HV1:Hid (SArg w1 (.slice a texts.length c) texts):=HV.out _ hb1;unfold tokA;clear hb1;go_wp2_with fail
 refine (zNa texts _ _ _ HV1.out).mono ?_;rintro e w1 ⟨rfl,rfl⟩;rw[HI.out];by_cases h0:0≤I
 ·have HD:Hid (decide (0≤I)=true):=decide_eq_true h0
  obtain⟨K,hK⟩:∃K,((zAN en l).kind != 0)=K:=⟨_,rfl⟩;have HK:Hid (((zAN en l).kind != 0)=K):=hK;have HP2:Hid (P=(zBu en K l).bind fun _ r=>.ok I r):=by show _=_;rw[HP.out,HD.out,hK];rfl
  clear hK;go_wp2_with fail
  refine (zAS N R M en _ l HR1.out).mono ?_;rintro e w2 ⟨rfl,hb2⟩;have HR2:Hid (Rd N R M en w2 l):=HR1.out.below hb2;have HF2:Hid (Fr (fun k=>k=R) w w2):=HF1.out.trans (Fr.below hb2)
  unfold tokA;clear hb2;go_wp2_with fail
  rw[HK.out];refine (zCM N R M en K w2 l HR2.out (fun hb=>HL.out (HK.out.trans hb))).mono ?_
  intro e w3 hp;have HP3:Hid (zB7 (zBu en K l) (fun t v _=>v=tokA t) N R M en (fun k=>k=R) w e w3):=hp.fr HF2.out
  clear hp;cases K
  ·obtain⟨rfl,hfr⟩:=HP3.out
   go_wp2
   exact⟨rfl,by rw[HP2.out];exact⟨rfl,hfr⟩⟩
  ·obtain⟨v,rfl,rfl,hrd,hfr⟩:=HP3.out
   unfold tokA;go_wp2
   go_ret
   rw[HP2.out];exact⟨_,rfl,rfl,hrd,hfr⟩
 ·have HP2:Hid (P=(zBu en false l).bind fun _ r=>.ok I r):=by show _=_;rw[HP.out,decide_eq_false h0];rfl
  go_wp2_with fail
  refine (zCM N R M en false w1 l HR1.out (fun hb=>by cases hb)).mono ?_
  intro e w3 hp;have HP3:Hid (zB7 (zBu en false l) (fun t v _=>v=tokA t) N R M en (fun k=>k=R) w e w3):=hp.fr HF1.out
  clear hp;obtain⟨rfl,hfr⟩:=HP3.out;go_wp2
  exact⟨rfl,by rw[HP2.out];exact⟨rfl,hfr⟩⟩
end Go.Proofs.YtndcpnlaadikoaaGreatDoor
namespace Go.Proofs
open Go.Shelf
def Tryz.lays169_ren:Go.Shelf.Ren:=⟨fun | 169=>116 | n=>n,fun | 70=>176 | 9=>9 | 0=>0 | 72=>179 | 37=>177 | 127=>247 | 3=>3 | 5=>5 | n=>n,fun | n=>n⟩
theorem Tryz.Builder_Extra_169:Builder.Extra Tryz.prog Tryz.lays169_ren:={
 sizeBuilder:=by kernel_rfl
 liesBuilder:=by kernel_rfl
 t5:=Tryz.underlying5
 a5:=Tryz.isAgg5
 z5:=Tryz.sizeOf5
 v5:=Tryz.zeroValue5
 infoByte:=by kernel_rfl
 cellsByte:=by kernel_rfl
 sizeByte:=by kernel_rfl
 neB5:=by decide }
def Tryz.lays156_ren:Go.Shelf.Ren:=⟨fun | 156=>245 | 165=>275 | 166=>176 | 169=>116 | 240=>239 | 241=>289 | 276=>274 | 277=>293 | n=>n,fun | 31=>98 | 9=>9 | 3=>3 | 4=>4 | 0=>0 | 20=>20 | 72=>179 | 76=>238 | 70=>176 | 37=>177 | 75=>237 | 127=>247 | 164=>309 | 5=>5 | 80=>91 | n=>n,fun | n=>n⟩
theorem Tryz.lays156:Go.Proofs.Lays.n156 Tryz.prog Tryz.lays156_ren:={
 mixed:=by kernel_rfl
 f156:=Tryz.func245.trans (congrArg some (by kernel_rfl))
 f165:=Tryz.func275.trans (congrArg some (by kernel_rfl))
 f166:=Tryz.func176.trans (congrArg some (by kernel_rfl))
 f169:=Tryz.func116.trans (congrArg some (by kernel_rfl))
 f240:=Tryz.func239.trans (congrArg some (by kernel_rfl))
 f241:=Tryz.func289.trans (congrArg some (by kernel_rfl))
 f276:=Tryz.func274.trans (congrArg some (by kernel_rfl))
 f277:=Tryz.func293.trans (congrArg some (by kernel_rfl))
 t0:=Tryz.underlying0
 a0:=Tryz.isAgg0
 z0:=Tryz.sizeOf0
 v0:=Tryz.zeroValue0
 t3:=Tryz.underlying3
 a3:=Tryz.isAgg3
 z3:=Tryz.sizeOf3
 v3:=Tryz.zeroValue3
 t4:=Tryz.underlying4
 a4:=Tryz.isAgg4
 z4:=Tryz.sizeOf4
 v4:=Tryz.zeroValue4
 t9:=Tryz.underlying9
 a9:=Tryz.isAgg9
 z9:=Tryz.sizeOf9
 v9:=Tryz.zeroValue9
 t20:=Tryz.underlying20
 a20:=Tryz.isAgg20
 z20:=Tryz.sizeOf20
 v20:=Tryz.zeroValue20
 t31:=Tryz.underlying98
 a31:=Tryz.isAgg98
 z31:=Tryz.sizeOf98
 v31:=Tryz.zeroValue98
 t37:=Tryz.underlying177
 a37:=Tryz.isAgg177
 z37:=Tryz.sizeOf177
 v37:=Tryz.zeroValue177
 t70:=Tryz.underlying176
 a70:=Tryz.isAgg176
 z70:=Tryz.sizeOf176
 v70:=Tryz.zeroValue176
 t72:=Tryz.underlying179
 a72:=Tryz.isAgg179
 z72:=Tryz.sizeOf179
 v72:=Tryz.zeroValue179
 t75:=Tryz.underlying237
 a75:=Tryz.isAgg237
 z75:=Tryz.sizeOf237
 v75:=Tryz.zeroValue237
 t76:=Tryz.underlying238
 a76:=Tryz.isAgg238
 z76:=Tryz.sizeOf238
 v76:=Tryz.zeroValue238
 t127:=Tryz.underlying247
 a127:=Tryz.isAgg247
 z127:=Tryz.sizeOf247
 v127:=Tryz.zeroValue247
 t164:=Tryz.underlying309
 a164:=Tryz.isAgg309
 z164:=Tryz.sizeOf309
 v164:=Tryz.zeroValue309 }
theorem Tryz.Builder_Extra_156:Builder.Extra Tryz.prog Tryz.lays156_ren:={
 sizeBuilder:=by kernel_rfl
 liesBuilder:=by kernel_rfl
 t5:=Tryz.underlying5
 a5:=Tryz.isAgg5
 z5:=Tryz.sizeOf5
 v5:=Tryz.zeroValue5
 infoByte:=by kernel_rfl
 cellsByte:=by kernel_rfl
 sizeByte:=by kernel_rfl
 neB5:=by decide }
open Go.RowKit in
theorem Tryz.strings_Join_none (a:Option Addr) (c:Nat) (sep:ByteArray) (w:World) :
 Calls Tryz.prog 245 #[.slice a 0 c,.string sep] w fun e w'=>e=.returned (.string ⟨#[]⟩)∧w'=w:=Any.strings_Join_none Tryz.lays156 Tryz.Builder_Extra_156 a c sep w
open Go.RowKit in
theorem Tryz.strings_Join (bk o c:Nat) (xs:List ByteArray) (sep:ByteArray) (w:World) (hcells:∀(j:Nat) x,xs[j]? = some x→w.cell? ⟨bk,o+j,none⟩=some (.string x)) (hbk:bk<w.heap.size) (hN:xs.length≤140737488355328) (hcap:xs.length≤c) (hlen:(Lib.join (xs.map (·.data.toList)) sep.data.toList).length≤140737488355328) :
 Calls Tryz.prog 245 #[.slice (some ⟨bk,o,none⟩) xs.length c,.string sep] w fun e w'=>e=.returned (.string ⟨(Lib.join (xs.map (·.data.toList)) sep.data.toList).toArray⟩)∧Below w.heap.size w w':=Any.strings_Join Tryz.lays156 Tryz.Builder_Extra_156 bk o c xs sep w hcells hbk hN hcap hlen
def Tryz.lays172_ren:Go.Shelf.Ren:=⟨fun | 172=>280 | 244=>290 | 245=>291 | 247=>294 | 279=>295 | 280=>296 | 281=>297 | 282=>298 | 287=>299 | 316=>300 | 171=>108 | 205=>301 | 321=>302 | 322=>303 | 243=>175 | 246=>238 | 283=>270 | 284=>271 | 285=>272 | 286=>273 | 129=>213 | 317=>285 | 318=>286 | 319=>287 | 320=>288 | 337=>292 | 338=>234 | n=>n,fun | 9=>9 | 3=>3 | 75=>237 | 76=>238 | 4=>4 | 5=>5 | 167=>324 | 37=>177 | 0=>0 | 85=>325 | 2=>2 | 168=>327 | 53=>135 | 175=>331 | 46=>199 | 210=>335 | 127=>247 | 145=>340 | 143=>338 | 21=>21 | 171=>305 | 173=>307 | 212=>320 | 51=>266 | 20=>20 | 213=>321 | 232=>330 | 233=>304 | 80=>91 | n=>n,fun | 15=>4 | 16=>5 | 17=>1 | 18=>2 | 19=>0 | n=>n⟩
theorem Tryz.lays172:Go.Proofs.Lays.n172 Tryz.prog Tryz.lays172_ren:={
 mixed:=by kernel_rfl
 f129:=Tryz.func213.trans (congrArg some (by kernel_rfl))
 f171:=Tryz.func108.trans (congrArg some (by kernel_rfl))
 f172:=Tryz.func280.trans (congrArg some (by kernel_rfl))
 f205:=Tryz.func301.trans (congrArg some (by kernel_rfl))
 f243:=Tryz.func175.trans (congrArg some (by kernel_rfl))
 f244:=Tryz.func290.trans (congrArg some (by kernel_rfl))
 f245:=Tryz.func291.trans (congrArg some (by kernel_rfl))
 f246:=Tryz.func238.trans (congrArg some (by kernel_rfl))
 f247:=Tryz.func294.trans (congrArg some (by kernel_rfl))
 f279:=Tryz.func295.trans (congrArg some (by kernel_rfl))
 f280:=Tryz.func296.trans (congrArg some (by kernel_rfl))
 f281:=Tryz.func297.trans (congrArg some (by kernel_rfl))
 f282:=Tryz.func298.trans (congrArg some (by kernel_rfl))
 f283:=Tryz.func270.trans (congrArg some (by kernel_rfl))
 f284:=Tryz.func271.trans (congrArg some (by kernel_rfl))
 f285:=Tryz.func272.trans (congrArg some (by kernel_rfl))
 f286:=Tryz.func273.trans (congrArg some (by kernel_rfl))
 f287:=Tryz.func299.trans (congrArg some (by kernel_rfl))
 f316:=Tryz.func300.trans (congrArg some (by kernel_rfl))
 f317:=Tryz.func285.trans (congrArg some (by kernel_rfl))
 f318:=Tryz.func286.trans (congrArg some (by kernel_rfl))
 f319:=Tryz.func287.trans (congrArg some (by kernel_rfl))
 f320:=Tryz.func288.trans (congrArg some (by kernel_rfl))
 f321:=Tryz.func302.trans (congrArg some (by kernel_rfl))
 f322:=Tryz.func303.trans (congrArg some (by kernel_rfl))
 f337:=Tryz.func292.trans (congrArg some (by kernel_rfl))
 f338:=Tryz.func234.trans (congrArg some (by kernel_rfl))
 t0:=Tryz.underlying0
 a0:=Tryz.isAgg0
 z0:=Tryz.sizeOf0
 v0:=Tryz.zeroValue0
 t2:=Tryz.underlying2
 a2:=Tryz.isAgg2
 z2:=Tryz.sizeOf2
 v2:=Tryz.zeroValue2
 t3:=Tryz.underlying3
 a3:=Tryz.isAgg3
 z3:=Tryz.sizeOf3
 v3:=Tryz.zeroValue3
 t4:=Tryz.underlying4
 a4:=Tryz.isAgg4
 z4:=Tryz.sizeOf4
 v4:=Tryz.zeroValue4
 t5:=Tryz.underlying5
 a5:=Tryz.isAgg5
 z5:=Tryz.sizeOf5
 v5:=Tryz.zeroValue5
 t9:=Tryz.underlying9
 a9:=Tryz.isAgg9
 z9:=Tryz.sizeOf9
 v9:=Tryz.zeroValue9
 t20:=Tryz.underlying20
 a20:=Tryz.isAgg20
 z20:=Tryz.sizeOf20
 v20:=Tryz.zeroValue20
 t21:=Tryz.underlying21
 a21:=Tryz.isAgg21
 z21:=Tryz.sizeOf21
 v21:=Tryz.zeroValue21
 t37:=Tryz.underlying177
 a37:=Tryz.isAgg177
 z37:=Tryz.sizeOf177
 v37:=Tryz.zeroValue177
 t46:=Tryz.underlying199
 a46:=Tryz.isAgg199
 z46:=Tryz.sizeOf199
 v46:=Tryz.zeroValue199
 t51:=Tryz.underlying266
 a51:=Tryz.isAgg266
 z51:=Tryz.sizeOf266
 v51:=Tryz.zeroValue266
 t53:=Tryz.underlying135
 a53:=Tryz.isAgg135
 z53:=Tryz.sizeOf135
 v53:=Tryz.zeroValue135
 t75:=Tryz.underlying237
 a75:=Tryz.isAgg237
 z75:=Tryz.sizeOf237
 v75:=Tryz.zeroValue237
 t76:=Tryz.underlying238
 a76:=Tryz.isAgg238
 z76:=Tryz.sizeOf238
 v76:=Tryz.zeroValue238
 t85:=Tryz.underlying325
 a85:=Tryz.isAgg325
 z85:=Tryz.sizeOf325
 v85:=Tryz.zeroValue325
 t127:=Tryz.underlying247
 a127:=Tryz.isAgg247
 z127:=Tryz.sizeOf247
 v127:=Tryz.zeroValue247
 t143:=Tryz.underlying338
 a143:=Tryz.isAgg338
 z143:=Tryz.sizeOf338
 v143:=Tryz.zeroValue338
 t145:=Tryz.underlying340
 a145:=Tryz.isAgg340
 z145:=Tryz.sizeOf340
 v145:=Tryz.zeroValue340
 t167:=Tryz.underlying324
 a167:=Tryz.isAgg324
 z167:=Tryz.sizeOf324
 v167:=Tryz.zeroValue324
 t168:=Tryz.underlying327
 a168:=Tryz.isAgg327
 z168:=Tryz.sizeOf327
 v168:=Tryz.zeroValue327
 t171:=Tryz.underlying305
 a171:=Tryz.isAgg305
 z171:=Tryz.sizeOf305
 v171:=Tryz.zeroValue305
 t173:=Tryz.underlying307
 a173:=Tryz.isAgg307
 z173:=Tryz.sizeOf307
 v173:=Tryz.zeroValue307
 t175:=Tryz.underlying331
 a175:=Tryz.isAgg331
 z175:=Tryz.sizeOf331
 v175:=Tryz.zeroValue331
 t210:=Tryz.underlying335
 a210:=Tryz.isAgg335
 z210:=Tryz.sizeOf335
 v210:=Tryz.zeroValue335
 t212:=Tryz.underlying320
 a212:=Tryz.isAgg320
 z212:=Tryz.sizeOf320
 v212:=Tryz.zeroValue320
 t213:=Tryz.underlying321
 a213:=Tryz.isAgg321
 z213:=Tryz.sizeOf321
 t232:=Tryz.underlying330
 a232:=Tryz.isAgg330
 z232:=Tryz.sizeOf330
 v232:=Tryz.zeroValue330
 t233:=Tryz.underlying304
 a233:=Tryz.isAgg304
 z233:=Tryz.sizeOf304
 v233:=Tryz.zeroValue304
 g15:=by kernel_rfl
 g16:=by kernel_rfl
 g17:=by kernel_rfl
 g18:=by kernel_rfl
 g19:=by kernel_rfl }
open Go.RowKit in
theorem Tryz.strconv_Atoi (s:ByteArray) (n:Int) (hl:s.size≤18) (h:Lib.atoi s.data.toList=some n) (w:World) :
 Calls Tryz.prog 280 #[.string s] w fun e w'=>e=.returned (.tuple #[.int .i64 n,.nilIface])∧∃t,w'=Lib.bytesWorld w 5 t:=Any.strconv_Atoi Tryz.lays172 s n hl h w
def Tryz.laysM171_ren:Go.Shelf.Ren:=⟨fun | 171=>108 | 243=>175 | 246=>238 | 283=>270 | 284=>271 | 285=>272 | 286=>273 | 129=>213 | 317=>285 | 318=>286 | 319=>287 | 320=>288 | 337=>292 | 338=>234 | n=>n,fun | 3=>3 | 9=>9 | 2=>2 | 4=>4 | 171=>305 | 0=>0 | 53=>135 | 37=>177 | 5=>5 | 173=>307 | 212=>320 | 51=>266 | 20=>20 | 213=>321 | 46=>199 | 232=>330 | 233=>304 | n=>n,fun | 17=>1 | 18=>2 | 19=>0 | n=>n⟩
theorem Tryz.laysM171:Go.Proofs.LaysM.n171 Tryz.prog Tryz.laysM171_ren:={
 mixed:=by kernel_rfl
 f129:=Tryz.func213.trans (congrArg some (by kernel_rfl))
 f171:=Tryz.func108.trans (congrArg some (by kernel_rfl))
 f243:=Tryz.func175.trans (congrArg some (by kernel_rfl))
 f246:=Tryz.func238.trans (congrArg some (by kernel_rfl))
 f283:=Tryz.func270.trans (congrArg some (by kernel_rfl))
 f284:=Tryz.func271.trans (congrArg some (by kernel_rfl))
 f285:=Tryz.func272.trans (congrArg some (by kernel_rfl))
 f286:=Tryz.func273.trans (congrArg some (by kernel_rfl))
 f317:=Tryz.func285.trans (congrArg some (by kernel_rfl))
 f318:=Tryz.func286.trans (congrArg some (by kernel_rfl))
 f319:=Tryz.func287.trans (congrArg some (by kernel_rfl))
 f320:=Tryz.func288.trans (congrArg some (by kernel_rfl))
 f337:=Tryz.func292.trans (congrArg some (by kernel_rfl))
 f338:=Tryz.func234.trans (congrArg some (by kernel_rfl))
 t0:=Tryz.underlying0
 a0:=Tryz.isAgg0
 z0:=Tryz.sizeOf0
 v0:=Tryz.zeroValue0
 t2:=Tryz.underlying2
 a2:=Tryz.isAgg2
 z2:=Tryz.sizeOf2
 v2:=Tryz.zeroValue2
 t3:=Tryz.underlying3
 a3:=Tryz.isAgg3
 z3:=Tryz.sizeOf3
 v3:=Tryz.zeroValue3
 t4:=Tryz.underlying4
 a4:=Tryz.isAgg4
 z4:=Tryz.sizeOf4
 v4:=Tryz.zeroValue4
 t5:=Tryz.underlying5
 a5:=Tryz.isAgg5
 z5:=Tryz.sizeOf5
 v5:=Tryz.zeroValue5
 t9:=Tryz.underlying9
 a9:=Tryz.isAgg9
 z9:=Tryz.sizeOf9
 v9:=Tryz.zeroValue9
 t20:=Tryz.underlying20
 a20:=Tryz.isAgg20
 z20:=Tryz.sizeOf20
 v20:=Tryz.zeroValue20
 t37:=Tryz.underlying177
 a37:=Tryz.isAgg177
 z37:=Tryz.sizeOf177
 v37:=Tryz.zeroValue177
 t46:=Tryz.underlying199
 a46:=Tryz.isAgg199
 z46:=Tryz.sizeOf199
 v46:=Tryz.zeroValue199
 t51:=Tryz.underlying266
 a51:=Tryz.isAgg266
 z51:=Tryz.sizeOf266
 v51:=Tryz.zeroValue266
 t53:=Tryz.underlying135
 a53:=Tryz.isAgg135
 z53:=Tryz.sizeOf135
 v53:=Tryz.zeroValue135
 t171:=Tryz.underlying305
 a171:=Tryz.isAgg305
 z171:=Tryz.sizeOf305
 v171:=Tryz.zeroValue305
 t173:=Tryz.underlying307
 a173:=Tryz.isAgg307
 z173:=Tryz.sizeOf307
 v173:=Tryz.zeroValue307
 t212:=Tryz.underlying320
 a212:=Tryz.isAgg320
 z212:=Tryz.sizeOf320
 v212:=Tryz.zeroValue320
 t213:=Tryz.underlying321
 a213:=Tryz.isAgg321
 z213:=Tryz.sizeOf321
 t232:=Tryz.underlying330
 a232:=Tryz.isAgg330
 z232:=Tryz.sizeOf330
 v232:=Tryz.zeroValue330
 t233:=Tryz.underlying304
 a233:=Tryz.isAgg304
 z233:=Tryz.sizeOf304
 v233:=Tryz.zeroValue304
 g17:=by kernel_rfl
 g18:=by kernel_rfl
 g19:=by kernel_rfl
 i0:=by kernel_rfl
 i2:=by kernel_rfl
 i3:=by kernel_rfl
 i4:=by kernel_rfl
 i5:=by kernel_rfl
 i9:=by kernel_rfl
 i20:=by kernel_rfl
 i37:=by kernel_rfl
 i46:=by kernel_rfl
 i51:=by kernel_rfl
 i53:=by kernel_rfl
 i171:=by kernel_rfl
 i173:=by kernel_rfl
 i212:=by kernel_rfl
 i232:=by kernel_rfl
 i233:=by kernel_rfl
 m17:=by kernel_rfl
 m18:=by kernel_rfl
 m19:=by kernel_rfl }
open Go.RowKit Go.Sort Go.Lib in
theorem Tryz.strconv_Itoa (n:Int) (h0:-9223372036854775808≤n) (h1:n≤9223372036854775807) (w:World) (htab:Lib.TabIs Tryz.prog w "internal/strconv.uint64pow10" .u64 Lib.pow10Tab) :
 Calls Tryz.prog 108 #[.int .i64 n] w fun e w'=>e=.returned (.string ⟨(Lib.itoa n).toArray⟩)∧∃k os,w'=grow (w.drewN k) os:=Any.strconv_Itoa Tryz.laysM171 n h0 h1 w htab
end Go.Proofs
