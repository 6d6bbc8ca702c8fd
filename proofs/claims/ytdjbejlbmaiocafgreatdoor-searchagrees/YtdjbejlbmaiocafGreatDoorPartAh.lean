/- What the proof leans on, part 8. -/
import Derived.Test.YtdjbejlbmaiocafGreatDoorPartAg
import Derived.ProofKit
import Derived.OpenShut
import Derived.ShutString
import Derived.ChangeOld
import Derived.Below
import Derived.SizedLaws
import Derived.Deep.Slices
import Derived.Deep.Strs
import Derived.Lib.SmallJoins
namespace Go.Proofs.YtdjbejlbmaiocafGreatDoor
open Go.RowKit
def varL (m:Mod):List Int:=(List.range m.vars.length).map fun i=>varE (m.vars.take i) (m.vars.getD i ⟨ByteArray.empty,0,0⟩)
theorem zJ3 (m:Mod) (k:Nat) (t:MVar) (h:m.vars[k]? = some t):(varL m)[k]? = some (varE (m.vars.take k) t):=by
 have hk:k<m.vars.length:=(List.getElem?_eq_some_iff.1 h).1
 unfold varL
 rw[List.getElem?_map,List.getElem?_range hk]
 simp[List.getD,h]
theorem zJ4 (m:Mod):(varL m).length=m.vars.length:=by simp[varL]
def conL (m:Mod):List Int:=m.cons.map (conE m.vars.length)
theorem zJ5 (m:Mod) (k:Nat) (t:MCon) (h:m.cons[k]? = some t):(conL m)[k]? = some (conE m.vars.length t):=by simp[conL,h]
set_option maxHeartbeats 1600000 in
set_option maxRecDepth 100000 in
theorem zCw (m:Mod) (vs cs:Value) (w:World) (hm:MArg w vs cs m) :
 Calls Tryz.prog 56 #[modV vs cs m] w fun e w'=>e=.returned (.int .i64 (zAI m))∧Below w.heap.size w w':=by
 have HMA:Hid (∀w':World,Below w.heap.size w w'→MArg w' vs cs m):=fun w' h=>MArg.below h hm
 obtain⟨⟨a1,c1,rfl,hl1,hr1⟩,⟨a2,c2,rfl,hl2,hr2⟩⟩:=hm
 obtain⟨R,hR⟩:∃R,zAI m=R:=⟨_,rfl⟩
 rw[hR]
 unfold maxLen at hl1 hl2
 obtain⟨hl11,hl1⟩:=hl1
 obtain⟨hl21,hl2⟩:=hl2
 clear hr1 hr2
 unfold modV
 by_cases h0:m.vars.length=0
 ·have HE:Hid (R=1):=by rw[←hR];unfold zAI;rw[if_pos h0];rfl
  have g0:((m.vars.length:Int)==0)=true:=by simp[h0]
  clear hR h0
  go_enter Tryz.func56,Tryz.ntmps56
  go_wp2
  go_ret
  exact⟨zAF HE.out.symm,zAA _ _⟩
 ·have g0:((m.vars.length:Int)==0)=false:=by simpa using h0
  by_cases h6:6<m.vars.length
  ·have HE:Hid (R=2):=by rw[←hR];unfold zAI;rw[if_neg h0,if_pos (Or.inl h6)];rfl
   clear hR h0
   go_enter Tryz.func56,Tryz.ntmps56
   go_wp2
   go_ret
   exact⟨zAF HE.out.symm,zAA _ _⟩
  ·by_cases h8:8<m.cons.length
   ·have HE:Hid (R=2):=by rw[←hR];unfold zAI;rw[if_neg h0,if_pos (Or.inr h8)];rfl
    clear hR h0
    go_enter Tryz.func56,Tryz.ntmps56
    go_wp2
    go_ret
    exact⟨zAF HE.out.symm,zAA _ _⟩
   ·have HE:Hid (R=if zAr (varL m)=0 then (if zAr (conL m)=0 then zGg m else zAr (conL m)) else zAr (varL m)):=by
     rw[←hR];unfold zAI;rw[if_neg h0,if_neg (by omega)];rfl
    clear hR h0
    go_enter Tryz.func56,Tryz.ntmps56
    go_wp2
    obtain⟨w0,hw0⟩:∃w0:World,w0=w.alloc (.cells #[.slice a1 m.vars.length c1,.slice a2 m.cons.length c2,.int .i64 m.goal,.int .i64 m.var] 25):=⟨_,rfl⟩
    rw[←hw0]
    have HB0:Hid (Below w.heap.size w w0):=by rw[hw0];exact zAA _ _
    have HZ0:Hid (w0.heap.size=w.heap.size+1):=by show _=_;rw[hw0];simp
    have HD:Hid (w0.cell? ⟨w.heap.size,0,none⟩=some (.slice a1 m.vars.length c1)∧w0.cell? ⟨w.heap.size,1,none⟩=some (.slice a2 m.cons.length c2)∧w0.cell? ⟨w.heap.size,2,none⟩=some (.int .i64 m.goal)∧w0.cell? ⟨w.heap.size,3,none⟩=some (.int .i64 m.var)):=by
     rw[hw0];exact⟨by simp,by simp,by simp,by simp⟩
    clear hw0
    go_loopw [25] (fun i wr=>∃k:Nat,k≤m.vars.length∧i=.int .i64 k∧Hid (zAr ((varL m).take k)=0)∧Below w0.heap.size w0 wr) (fun i _=>m.vars.length - (intOf i).toNat)
    case atStart=>exact⟨0,by omega,rfl,rfl,Below.refl _ _⟩
    case round =>
     obtain⟨k,hk,rfl,hno,hbw⟩:=hrel
     have hlt0:w.heap.size<w0.heap.size:=by rw[HZ0.out];omega
     have d0:=(hbw.cell (p:=⟨w.heap.size,0,none⟩) hlt0).trans HD.out.1
     have d1:=(hbw.cell (p:=⟨w.heap.size,1,none⟩) hlt0).trans HD.out.2.1
     have d2:=(hbw.cell (p:=⟨w.heap.size,2,none⟩) hlt0).trans HD.out.2.2.1
     have d3:=(hbw.cell (p:=⟨w.heap.size,3,none⟩) hlt0).trans HD.out.2.2.2
     have HBW:Hid (Below w.heap.size w wr):=HB0.out.trans (hbw.mono (by omega))
     by_cases hlt:k<m.vars.length
     ·obtain⟨t,ht⟩:∃t,m.vars[k]? = some t:=⟨m.vars[k],by simp[hlt]⟩
      have HG:Hid ((varL m)[k]? = some (varE (m.vars.take k) t)):=zJ3 m k t ht
      have HT:Hid (m.vars[k]? = some t):=ht
      clear ht
      go_wp2_with fail
      refine (zIj m.vars _ k t _ (HMA.out _ HBW.out).1 HT.out).mono ?_
      rintro e w1 ⟨rfl,hb1⟩
      obtain⟨er,her⟩:∃er,varE (m.vars.take k) t=er:=⟨_,rfl⟩
      have HG2:Hid ((varL m)[k]? = some er):=by rw[←her];exact HG.out
      rw[her]
      clear her
      have hbt:Below w0.heap.size w0 w1:=hbw.trans (hb1.mono hbw.size)
      by_cases he:er=0
      ·subst he
       have HN:Hid (zAr ((varL m).take (k+1))=0):=zEB _ k hno.out HG2.out
       clear hb1
       go_wp2
       go_roundw
       case rel=>exact⟨k+1,by omega,by go_num,HN,hbt⟩
       case measure=>simp[intOf];omega
      ·have HN:Hid (R=er):=by
        have hf:=zE1 (varL m) k er hno.out HG2.out he
        rw[HE.out,hf,if_neg he];rfl
       have he2:(er != 0)=true:=by simpa using he
       clear hb1 he
       go_wp2
       go_ret
       exact⟨zAF HN.out.symm,HB0.out.trans (hbt.mono (by omega))⟩
     ·have HV:Hid (zAr (varL m)=0):=by
       have:=hno.out;rw[List.take_of_length_le (by rw[zJ4];omega)] at this;exact this
      have HBO:Hid (Below w0.heap.size w0 wr):=hbw
      obtain⟨wo,rfl⟩:∃wo:World,wo=wr:=⟨_,rfl⟩
      go_wp2
      clear hk hno hbw hlt d0 d1 d2 d3
      go_loopw [39] (fun i wr=>∃k:Nat,k≤m.cons.length∧i=.int .i64 k∧Hid (zAr ((conL m).take k)=0)∧Below w0.heap.size w0 wr) (fun i _=>m.cons.length - (intOf i).toNat)
      case atStart=>exact⟨0,by omega,rfl,rfl,HBO.out⟩
      case round =>
       obtain⟨k,hk,rfl,hno,hbw⟩:=hrel
       have d0:=(hbw.cell (p:=⟨w.heap.size,0,none⟩) hlt0).trans HD.out.1
       have d1:=(hbw.cell (p:=⟨w.heap.size,1,none⟩) hlt0).trans HD.out.2.1
       have d2:=(hbw.cell (p:=⟨w.heap.size,2,none⟩) hlt0).trans HD.out.2.2.1
       have d3:=(hbw.cell (p:=⟨w.heap.size,3,none⟩) hlt0).trans HD.out.2.2.2
       have HB2:Hid (Below w.heap.size w wr):=HB0.out.trans (hbw.mono (by omega))
       by_cases hlt:k<m.cons.length
       ·obtain⟨t,ht⟩:∃t,m.cons[k]? = some t:=⟨m.cons[k],by simp[hlt]⟩
        have HG:Hid ((conL m)[k]? = some (conE m.vars.length t)):=zJ5 m k t ht
        obtain⟨a2',c2',hva,_,hrc⟩:=(HMA.out _ HB2.out).2
        obtain⟨b,off,vv,vc,vr,vl,ha,hb,e0,e1,e2,e3,e4,e5,hka⟩:=hrc k t ht
        have ha2:a2=some ⟨b,off,none⟩:=by cases hva;exact ha
        subst ha2
        have HKA:Hid (KArg wr vv vc vr vl t):=hka
        obtain⟨⟨q1,r1,rfl,_,_⟩,⟨q2,r2,rfl,_,_⟩,⟨q3,r3,rfl,_,_⟩,⟨q4,r4,rfl,_,_⟩⟩:=hka
        have hsz:=hbw.size
        have hlw:w.heap.size<wr.heap.size:=by omega
        clear ht hva hrc ha
        go_wp2_with fail
        refine (zK8 t _ _ _ _ _ _ (KArg.below (zAA _ _) HKA.out)).mono ?_
        rintro e w1 ⟨rfl,hb1⟩
        obtain⟨er,her⟩:∃er,conE m.vars.length t=er:=⟨_,rfl⟩
        have HG2:Hid ((conL m)[k]? = some er):=by rw[←her];exact HG.out
        rw[her]
        clear her
        have hbt:Below w0.heap.size w0 w1:=(hbw.alloc hsz _).trans (hb1.mono (by simp;omega))
        by_cases he:er=0
        ·subst he
         have HN:Hid (zAr ((conL m).take (k+1))=0):=zEB _ k hno.out HG2.out
         clear hb1
         go_wp2
         go_roundw
         case rel=>exact⟨k+1,by omega,by go_num,HN,hbt⟩
         case measure=>simp[intOf];omega
        ·have HN:Hid (R=er):=by
          have hf:=zE1 (conL m) k er hno.out HG2.out he
          rw[HE.out,HV.out,if_pos rfl,hf,if_neg he];rfl
         have he2:(er != 0)=true:=by simpa using he
         clear hb1 he
         go_wp2
         go_ret
         exact⟨zAF HN.out.symm,HB0.out.trans (hbt.mono (by omega))⟩
       ·have HN:Hid (R=zGg m):=by
         have hc0:zAr (conL m)=0:=by have:=hno.out;rw[List.take_of_length_le (by simp[conL];omega)] at this;exact this
         rw[HE.out,HV.out,if_pos rfl,hc0,if_pos rfl];rfl
        go_wp2_with fail
        refine (zJ2 m _ _ _ (HMA.out _ HB2.out)).mono ?_
        rintro e w3 ⟨rfl,hb3⟩
        go_wp2
        go_ret
        exact⟨zAF HN.out.symm,HB2.out.trans (hb3.mono HB2.out.size)⟩
open Go.ChangeShapes Go.WideShapes Go.ChangeAt Go.RowKit Go.Deep
section
variable {H:Type} {enc:TypeId×Value→H} {w:World} {base:Nat} {spare:Nat→Bool} {held:Bool}
theorem zCA {α:Type} [Inhabited α] {t e:TypeId} {size:Nat} (ht:Tryz.prog.underlying t=some (.slice e)) (hc:Tryz.prog.cellsOf e=size) (hsz:0<size) (cellsOf:α→List Value) (good:α→Prop)
 (hel:∀(n:Nat) (cs':List Value) (x':DataW H×List MemPlace),DataW.trod enc Tryz.prog w base spare held n e cs'=some x'→∃a:α,cs'=cellsOf a∧good a)
 {fuel:Nat} {cs:List Value} {x:DataW H×List MemPlace} (h:DataW.trod enc Tryz.prog w base spare held fuel t cs=some x) :
 ∃(l:List α) (a:Option Addr) (c:Nat),cs=[.slice a l.length c]∧(l.length≤c∧c≤maxLen)∧∀(i:Nat) (y:α),l[i]? = some y→good y∧∃b off,a=some ⟨b,off,none⟩∧b<w.heap.size∧∀(j:Nat) (u:Value),(cellsOf y)[j]? = some u→w.cell? ⟨b,off+(i * size+j),none⟩=some u:=by
 rcases open_slice ht h with ⟨hcs,_⟩ | ⟨a,len,cap,m,n,D,Pl,hcs,_,hl,hcm,hmm,_,hx⟩
 ·exact⟨[],none,0,hcs,⟨Nat.le_refl _,Nat.zero_le _⟩,fun i y h=>by simp at h⟩
 ·have hlm:len≤m:=by rw[hmm];split <;> omega
  have each:∀i,i<len→∃y:α,good y∧(cellsOf y).length=size∧∀j u,(cellsOf y)[j]? = some u→w.cell? (a.add (i * size+j))=some u:=by
   intro i hi
   obtain⟨cs',hc',ht'⟩:=hx i (by omega)
   obtain⟨y,rfl,hg⟩:=hel n cs' _ ht'
   obtain⟨_,hlen,hcell⟩:=World.cells?_some hc'
   rw[hc] at hlen
   refine⟨y,hg,hlen,fun j u hj=>?_⟩
   have hj3:j<(cellsOf y).length:=(List.getElem?_eq_some_iff.1 hj).1
   have:=hcell j (by rw[hc,←hlen];exact hj3)
   rw[hc,add_add] at this
   rw[this];exact hj
  obtain⟨f,hf⟩:=choose_lt each
  refine⟨(List.range len).map f,some a,cap,by simpa using hcs,⟨by simpa using hl,hcm⟩,fun i y hy=>?_⟩
  have hi:i<len:=by have:=(List.getElem?_eq_some_iff.1 hy).1;simpa using this
  have hyf:y=f i:=by simp[hi] at hy;exact hy.symm
  subst hyf
  obtain⟨hg,hlen,hcell⟩:=hf i hi
  obtain⟨_,hlen0,hcell0⟩:=hf 0 (by omega)
  obtain⟨u0,hu0⟩:∃u0,(cellsOf (f 0))[0]? = some u0:=⟨(cellsOf (f 0))[0]'(by omega),by simp⟩
  have h00:=hcell0 0 u0 hu0
  have hspot:a.spot=none:=by simpa[Addr.add] using World.cell?_spot h00
  have hblk:a.block<w.heap.size:=by simpa[Addr.add] using World.block_lt_of_cell? w _ h00
  refine⟨hg,a.block,a.off,?_,hblk,fun j u hj=>?_⟩
  ·obtain⟨b,off,spot⟩:=a;simp only at hspot;subst hspot;rfl
  ·have:=hcell j u hj
   obtain⟨b,off,spot⟩:=a;simp only at hspot;subst hspot
   rwa [add_plain] at this
theorem Tryz.cInt:Tryz.prog.cellsOf 3=1:=by kernel_rfl
theorem Tryz.cStr:Tryz.prog.cellsOf 9=1:=by kernel_rfl
theorem Tryz.cInts:Tryz.prog.cellsOf 26=1:=by kernel_rfl
theorem Tryz.cRows:Tryz.prog.cellsOf 44=1:=by kernel_rfl
theorem Tryz.cLits:Tryz.prog.cellsOf 53=1:=by kernel_rfl
theorem Tryz.cLit:Tryz.prog.cellsOf 117=3:=by kernel_rfl
theorem Tryz.cVar:Tryz.prog.cellsOf 95=3:=by kernel_rfl
theorem Tryz.cCon:Tryz.prog.cellsOf 100=6:=by kernel_rfl
theorem zDU {fuel:Nat} {cs:List Value} {x:DataW H×List MemPlace} (h:DataW.trod enc Tryz.prog w base spare held fuel 26 cs=some x) :
 ∃v l,cs=[v]∧IArg w v l:=by
 obtain⟨l,a,c,hcs,hm,hr⟩:=zCA (α:=Int) Tryz.underlying26 Tryz.cInt (by decide) (fun z=>[.int .i64 z]) (fun _=>True)
  (fun n cs' x' h'=>by obtain⟨z,hz,_,_⟩:=DataW.trod_int Tryz.underlying3 h';exact⟨z,hz,trivial⟩) h
 refine⟨_,l,hcs,a,c,rfl,hm,fun i z hz=>?_⟩
 obtain⟨_,b,off,ha,hb,hc⟩:=hr i z hz
 have:=hc 0 _ rfl
 exact⟨b,off,ha,hb,by simpa using this⟩
theorem zHs {fuel:Nat} {cs:List Value} {x:DataW H×List MemPlace} (h:DataW.trod enc Tryz.prog w base spare held fuel 44 cs=some x) :
 ∃v l,cs=[v]∧RArg w v l:=by
 obtain⟨l,a,c,hcs,hm,hr⟩:=zCA (α:=Value×List Int) Tryz.underlying44 Tryz.cInts (by decide) (fun z=>[z.1]) (fun z=>IArg w z.1 z.2)
  (fun n cs' x' h'=>by obtain⟨v,r,hz,hi⟩:=zDU h';exact⟨(v,r),hz,hi⟩) h
 refine⟨_,l.map (·.2),hcs,a,c,by simp,by simpa using hm,fun i r hr'=>?_⟩
 rw[List.getElem?_map] at hr'
 obtain⟨⟨v,r2⟩,hz,rfl⟩:=Option.map_eq_some_iff.1 hr'
 obtain⟨hg,b,off,ha,hb,hc⟩:=hr i _ hz
 have:=hc 0 _ rfl
 exact⟨b,off,v,ha,hb,by simpa using this,hg⟩
set_option maxRecDepth 100000 in
theorem zK9 {n:Nat} {cs:List Value} {x:DataW H×List MemPlace} (h:DataW.trod enc Tryz.prog w base spare held n 117 cs=some x) :
 ∃t:MLit,cs=[.int .i64 t.var,.int .i64 t.op,.int .i64 t.n]:=by
 obtain⟨y0,y1,y2,m,_,hl,h0,h1,h2⟩:=trod_struct3 Tryz.underlying117 h
 rw[Tryz.cLit] at hl
 obtain⟨k,hk,_,_⟩:=DataW.trod_int Tryz.underlying3 h0
 obtain⟨p,hp,_,_⟩:=DataW.trod_int Tryz.underlying3 h1
 obtain⟨s,hs,_,_⟩:=DataW.trod_int Tryz.underlying3 h2
 match cs,hl with
 | [c0,c1,c2],_ =>
   change List.take (Tryz.prog.cellsOf 3) [c0,c1,c2]=_ at hk
   change List.take (Tryz.prog.cellsOf 3) [c1,c2]=_ at hp
   change List.take (Tryz.prog.cellsOf 3) [c2]=_ at hs
   rw[Tryz.cInt] at hk hp hs
   simp at hk hp hs
   exact⟨⟨k,p,s⟩,by rw[hk,hp,hs]⟩
theorem zHt {fuel:Nat} {cs:List Value} {x:DataW H×List MemPlace} (h:DataW.trod enc Tryz.prog w base spare held fuel 53 cs=some x) :
 ∃v l,cs=[v]∧LArg w v l:=by
 have hinh:Inhabited MLit:=⟨⟨0,0,0⟩⟩
 obtain⟨l,a,c,hcs,hm,hr⟩:=zCA (α:=MLit) Tryz.underlying53 Tryz.cLit (by decide) (fun t=>[.int .i64 t.var,.int .i64 t.op,.int .i64 t.n]) (fun _=>True)
  (fun n cs' x' h'=>by obtain⟨t,ht⟩:=zK9 h';exact⟨t,ht,trivial⟩) h
 refine⟨_,l,hcs,a,c,rfl,hm,fun i z hz=>?_⟩
 obtain⟨_,b,off,ha,hb,hc⟩:=hr i z hz
 have e0:=hc 0 _ rfl
 have e1:=hc 1 _ rfl
 have e2:=hc 2 _ rfl
 rw[←Nat.add_assoc] at e0 e1 e2
 exact⟨b,off,ha,hb,e0,e1,e2⟩
set_option maxRecDepth 100000 in
theorem zLA {n:Nat} {cs:List Value} {x:DataW H×List MemPlace} (h:DataW.trod enc Tryz.prog w base spare held n 95 cs=some x) :
 ∃t:MVar,cs=[.string t.name,.int .i64 t.lo,.int .i64 t.hi]∧t.name.size≤maxLen:=by
 obtain⟨y0,y1,y2,m,_,hl,h0,h1,h2⟩:=trod_struct3 Tryz.underlying95 h
 rw[Tryz.cVar] at hl
 obtain⟨k,hk,_,hsz⟩:=DataW.trod_string Tryz.underlying9 h0
 obtain⟨p,hp,_,_⟩:=DataW.trod_int Tryz.underlying3 h1
 obtain⟨s,hs,_,_⟩:=DataW.trod_int Tryz.underlying3 h2
 match cs,hl with
 | [c0,c1,c2],_ =>
   change List.take (Tryz.prog.cellsOf 9) [c0,c1,c2]=_ at hk
   change List.take (Tryz.prog.cellsOf 3) [c1,c2]=_ at hp
   change List.take (Tryz.prog.cellsOf 3) [c2]=_ at hs
   rw[Tryz.cStr] at hk
   rw[Tryz.cInt] at hp hs
   simp at hk hp hs
   exact⟨⟨k,p,s⟩,by rw[hk,hp,hs],hsz⟩
theorem zHu {fuel:Nat} {cs:List Value} {x:DataW H×List MemPlace} (h:DataW.trod enc Tryz.prog w base spare held fuel 22 cs=some x) :
 ∃v l,cs=[v]∧VArg w v l:=by
 have hinh:Inhabited MVar:=⟨⟨ByteArray.empty,0,0⟩⟩
 obtain⟨l,a,c,hcs,hm,hr⟩:=zCA (α:=MVar) Tryz.underlying22 Tryz.cVar (by decide) (fun t=>[.string t.name,.int .i64 t.lo,.int .i64 t.hi]) (fun t=>t.name.size≤maxLen)
  (fun n cs' x' h'=>by obtain⟨t,ht,hs⟩:=zLA h';exact⟨t,ht,hs⟩) h
 refine⟨_,l,hcs,a,c,rfl,hm,fun i z hz=>?_⟩
 obtain⟨hg,b,off,ha,hb,hc⟩:=hr i z hz
 have e0:=hc 0 _ rfl
 have e1:=hc 1 _ rfl
 have e2:=hc 2 _ rfl
 rw[←Nat.add_assoc] at e0 e1 e2
 exact⟨hg,b,off,ha,hb,e0,e1,e2⟩
set_option maxRecDepth 100000 in
theorem zLB {n:Nat} {cs:List Value} {x:DataW H×List MemPlace} (h:DataW.trod enc Tryz.prog w base spare held n 100 cs=some x) :
 ∃(t:MCon) (vv vc vr vl:Value),cs=[.int .i64 t.kind,vv,vc,.int .i64 t.n,vr,vl]∧KArg w vv vc vr vl t:=by
 obtain⟨xs,k,_,_,hl,hxl,hf⟩:=DataW.trod_struct Tryz.underlying100 h
 rw[Tryz.cCon] at hl
 match cs,hl,xs,hxl with
 | [c0,c1,c2,c3,c4,c5],_,[y0,y1,y2,y3,y4,y5],_ =>
   have g0:=hf 0 _ rfl
   have g1:=hf 1 _ rfl
   have g2:=hf 2 _ rfl
   have g3:=hf 3 _ rfl
   have g4:=hf 4 _ rfl
   have g5:=hf 5 _ rfl
   obtain⟨kd,hk,_,_⟩:=DataW.trod_int Tryz.underlying3 g0
   obtain⟨v1,l1,hv1,i1⟩:=zDU g1
   obtain⟨v2,l2,hv2,i2⟩:=zDU g2
   obtain⟨nn,hn,_,_⟩:=DataW.trod_int Tryz.underlying3 g3
   obtain⟨v4,l4,hv4,i4⟩:=zHs g4
   obtain⟨v5,l5,hv5,i5⟩:=zHt g5
   change List.take (Tryz.prog.cellsOf 3) [c0,c1,c2,c3,c4,c5]=_ at hk
   change List.take (Tryz.prog.cellsOf 26) [c1,c2,c3,c4,c5]=_ at hv1
   change List.take (Tryz.prog.cellsOf 26) [c2,c3,c4,c5]=_ at hv2
   change List.take (Tryz.prog.cellsOf 3) [c3,c4,c5]=_ at hn
   change List.take (Tryz.prog.cellsOf 44) [c4,c5]=_ at hv4
   change List.take (Tryz.prog.cellsOf 53) [c5]=_ at hv5
   rw[Tryz.cInt] at hk hn
   rw[Tryz.cInts] at hv1 hv2
   rw[Tryz.cRows] at hv4
   rw[Tryz.cLits] at hv5
   simp at hk hv1 hv2 hn hv4 hv5
   exact⟨⟨kd,l1,l2,nn,l4,l5⟩,v1,v2,v4,v5,by rw[hk,hv1,hv2,hn,hv4,hv5],i1,i2,i4,i5⟩
theorem zHv {fuel:Nat} {cs:List Value} {x:DataW H×List MemPlace} (h:DataW.trod enc Tryz.prog w base spare held fuel 23 cs=some x) :
 ∃v l,cs=[v]∧CArg w v l:=by
 have hinh:Inhabited (MCon×Value×Value×Value×Value):=⟨⟨0,[],[],0,[],[]⟩,.bool false,.bool false,.bool false,.bool false⟩
 obtain⟨l,a,c,hcs,hm,hr⟩:=zCA (α:=MCon×Value×Value×Value×Value) Tryz.underlying23 Tryz.cCon (by decide)
  (fun t=>[.int .i64 t.1.kind,t.2.1,t.2.2.1,.int .i64 t.1.n,t.2.2.2.1,t.2.2.2.2]) (fun t=>KArg w t.2.1 t.2.2.1 t.2.2.2.1 t.2.2.2.2 t.1)
  (fun n cs' x' h'=>by obtain⟨t,vv,vc,vr,vl,ht,hk⟩:=zLB h';exact⟨(t,vv,vc,vr,vl),ht,hk⟩) h
 refine⟨_,l.map (·.1),hcs,a,c,by simp,by simpa using hm,fun i r hr'=>?_⟩
 rw[List.getElem?_map] at hr'
 obtain⟨⟨t,vv,vc,vr,vl⟩,hz,rfl⟩:=Option.map_eq_some_iff.1 hr'
 obtain⟨hg,b,off,ha,hb,hc⟩:=hr i _ hz
 have e0:=hc 0 _ rfl
 have e1:=hc 1 _ rfl
 have e2:=hc 2 _ rfl
 have e3:=hc 3 _ rfl
 have e4:=hc 4 _ rfl
 have e5:=hc 5 _ rfl
 rw[←Nat.add_assoc] at e0 e1 e2 e3 e4 e5
 exact⟨b,off,vv,vc,vr,vl,ha,hb,e0,e1,e2,e3,e4,e5,hg⟩
theorem Tryz.cModel:Tryz.prog.cellsOf 25=4:=by kernel_rfl
set_option maxRecDepth 100000 in
theorem zE3 {r:Reach} {b0:Nat} {v:Value} {d:DataW H} {p:List MemPlace} (hv:Value.okWide Tryz.prog w r b0 25 v) (h:DataW.Trod enc Tryz.prog w base spare held 25 v d p) :
 ∃vs cs m,v=modV vs cs m∧MArg w vs cs m:=by
 obtain⟨v0,v1,v2,v3,y0,y1,y2,y3,n,rfl,_,_,h0,h1,h2,h3⟩:=Go.Joins.open_agg4 Tryz.underlying25 (by kernel_rfl) Tryz.cModel hv h
 obtain⟨a0,l0,e0,i0⟩:=zHu h0
 obtain⟨a1,l1,e1,i1⟩:=zHv h1
 obtain⟨g,hg,_,_⟩:=DataW.trod_int Tryz.underlying3 h2
 obtain⟨q,hq,_,_⟩:=DataW.trod_int Tryz.underlying3 h3
 cases e0;cases e1;cases hg;cases hq
 exact⟨v0,v1,⟨l0,l1,g,q⟩,rfl,i0,i1⟩
end
end Go.Proofs.YtdjbejlbmaiocafGreatDoor
