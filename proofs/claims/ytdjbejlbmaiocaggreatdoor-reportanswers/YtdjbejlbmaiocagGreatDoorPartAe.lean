/- What the proof leans on, part 5. -/
import Derived.Test.YtdjbejlbmaiocagGreatDoorPartAd
import Derived.ProofKit
import Derived.OpenShut
import Derived.ShutString
import Derived.ChangeOld
import Derived.Below
import Derived.SizedLaws
import Derived.Deep.Slices
import Derived.Deep.Strs
import Derived.Lib.SmallJoins
import Derived.Test.YtdjbejlbmaiocagGreatDoorPartAb
import Derived.Laws.OwnMore
set_option maxRecDepth 100000
set_option maxHeartbeats 1600000
namespace Go.Proofs.YtdjbejlbmaiocagGreatDoor
open Go.RowKit
def varL (m:Mod):List Int:=(List.range m.vars.length).map fun i=>varE (m.vars.take i) (m.vars.getD i ⟨ByteArray.empty,0,0⟩)
theorem zNZ (m:Mod) (k:Nat) (t:MVar) (h:m.vars[k]? = some t):(varL m)[k]? = some (varE (m.vars.take k) t):=by
 have hk:k<m.vars.length:=(List.getElem?_eq_some_iff.1 h).1;unfold varL;rw[List.getElem?_map,List.getElem?_range hk];simp[List.getD,h]
theorem zNa (m:Mod):(varL m).length=m.vars.length:=by simp[varL]
def conL (m:Mod):List Int:=m.cons.map (conE m.vars.length)
theorem zRk (m:Mod) (k:Nat) (t:MCon) (h:m.cons[k]? = some t):(conL m)[k]? = some (conE m.vars.length t):=by simp[conL,h]
theorem zCD (m:Mod) (vs cs:Value) (w:World) (hm:MArg w vs cs m) :
 Calls Tryz.prog 40 #[modV vs cs m] w fun e w'=>e=.returned (.int .i64 (zAF m))∧Below w.heap.size w w':=by
 have HMA:Hid (∀w':World,Below w.heap.size w w'→MArg w' vs cs m):=fun w' h=>MArg.below h hm
 obtain⟨⟨a1,c1,rfl,hl1,hr1⟩,⟨a2,c2,rfl,hl2,hr2⟩⟩:=hm;obtain⟨R,hR⟩:∃R,zAF m=R:=⟨_,rfl⟩;rw[hR];unfold maxLen at hl1 hl2;obtain⟨hl11,hl1⟩:=hl1;obtain⟨hl21,hl2⟩:=hl2;clear hr1 hr2;unfold modV;by_cases h0:m.vars.length=0
 ·have HE:Hid (R=1):=by rw[←hR];unfold zAF;rw[if_pos h0];rfl
  have g0:((m.vars.length:Int)==0)=true:=by simp[h0]
  clear hR h0;go_enter Tryz.func40,Tryz.ntmps40
  go_wp2
  go_ret
  exact⟨zAE HE.out.symm,zAA _ _⟩
 ·have g0:((m.vars.length:Int)==0)=false:=by simpa using h0
  by_cases h6:6<m.vars.length
  ·have HE:Hid (R=2):=by rw[←hR];unfold zAF;rw[if_neg h0,if_pos (Or.inl h6)];rfl
   clear hR h0;go_enter Tryz.func40,Tryz.ntmps40
   go_wp2
   go_ret
   exact⟨zAE HE.out.symm,zAA _ _⟩
  ·by_cases h8:8<m.cons.length
   ·have HE:Hid (R=2):=by rw[←hR];unfold zAF;rw[if_neg h0,if_pos (Or.inr h8)];rfl
    clear hR h0;go_enter Tryz.func40,Tryz.ntmps40
    go_wp2
    go_ret
    exact⟨zAE HE.out.symm,zAA _ _⟩
   ·have HE:Hid (R=if zAQ (varL m)=0 then (if zAQ (conL m)=0 then zHa m else zAQ (conL m)) else zAQ (varL m)):=by
     rw[←hR];unfold zAF;rw[if_neg h0,if_neg (by omega)];rfl
    clear hR h0;go_enter Tryz.func40,Tryz.ntmps40
    go_wp2
    obtain⟨w0,hw0⟩:∃w0:World,w0=w.alloc (.cells #[.slice a1 m.vars.length c1,.slice a2 m.cons.length c2,.int .i64 m.goal,.int .i64 m.var] 25):=⟨_,rfl⟩;rw[←hw0];have HB0:Hid (Below w.heap.size w w0):=by rw[hw0];exact zAA _ _
    have HZ0:Hid (w0.heap.size=w.heap.size+1):=by show _=_;rw[hw0];simp
    have HD:Hid (w0.cell? ⟨w.heap.size,0,none⟩=some (.slice a1 m.vars.length c1)∧w0.cell? ⟨w.heap.size,1,none⟩=some (.slice a2 m.cons.length c2)∧w0.cell? ⟨w.heap.size,2,none⟩=some (.int .i64 m.goal)∧w0.cell? ⟨w.heap.size,3,none⟩=some (.int .i64 m.var)):=by
     rw[hw0];exact⟨by simp,by simp,by simp,by simp⟩
    clear hw0;go_loopw [25] (fun i wr=>∃k:Nat,k≤m.vars.length∧i=.int .i64 k∧Hid (zAQ ((varL m).take k)=0)∧Below w0.heap.size w0 wr) (fun i _=>m.vars.length - (intOf i).toNat)
    case atStart=>exact⟨0,by omega,rfl,rfl,Below.refl _ _⟩
    case round =>
     obtain⟨k,hk,rfl,hno,hbw⟩:=hrel;have hlt0:w.heap.size<w0.heap.size:=by rw[HZ0.out];omega
     have d0:=(hbw.cell (p:=⟨w.heap.size,0,none⟩) hlt0).trans HD.out.1;have d1:=(hbw.cell (p:=⟨w.heap.size,1,none⟩) hlt0).trans HD.out.2.1;have d2:=(hbw.cell (p:=⟨w.heap.size,2,none⟩) hlt0).trans HD.out.2.2.1;have d3:=(hbw.cell (p:=⟨w.heap.size,3,none⟩) hlt0).trans HD.out.2.2.2;have HBW:Hid (Below w.heap.size w wr):=HB0.out.trans (hbw.mono (by omega))
     by_cases hlt:k<m.vars.length
     ·obtain⟨t,ht⟩:∃t,m.vars[k]? = some t:=⟨m.vars[k],by simp[hlt]⟩
      have HG:Hid ((varL m)[k]? = some (varE (m.vars.take k) t)):=zNZ m k t ht;have HT:Hid (m.vars[k]? = some t):=ht;clear ht;go_wp2_with fail
      refine (zPa m.vars _ k t _ (HMA.out _ HBW.out).1 HT.out).mono ?_;rintro e w1 ⟨rfl,hb1⟩;obtain⟨er,her⟩:∃er,varE (m.vars.take k) t=er:=⟨_,rfl⟩;have HG2:Hid ((varL m)[k]? = some er):=by rw[←her];exact HG.out
      rw[her];clear her;have hbt:Below w0.heap.size w0 w1:=hbw.trans (hb1.mono hbw.size);by_cases he:er=0
      ·subst he
       have HN:Hid (zAQ ((varL m).take (k+1))=0):=zCB _ k hno.out HG2.out;clear hb1;go_wp2
       go_roundw
       case rel=>exact⟨k+1,by omega,by go_num,HN,hbt⟩
       case measure=>simp[intOf];omega
      ·have HN:Hid (R=er):=by
        have hf:=zB2 (varL m) k er hno.out HG2.out he;rw[HE.out,hf,if_neg he];rfl
       have he2:(er != 0)=true:=by simpa using he
       clear hb1 he;go_wp2
       go_ret
       exact⟨zAE HN.out.symm,HB0.out.trans (hbt.mono (by omega))⟩
     ·have HV:Hid (zAQ (varL m)=0):=by
       have:=hno.out;rw[List.take_of_length_le (by rw[zNa];omega)] at this;exact this
      have HBO:Hid (Below w0.heap.size w0 wr):=hbw;obtain⟨wo,rfl⟩:∃wo:World,wo=wr:=⟨_,rfl⟩;go_wp2
      clear hk hno hbw hlt d0 d1 d2 d3;go_loopw [39] (fun i wr=>∃k:Nat,k≤m.cons.length∧i=.int .i64 k∧Hid (zAQ ((conL m).take k)=0)∧Below w0.heap.size w0 wr) (fun i _=>m.cons.length - (intOf i).toNat)
      case atStart=>exact⟨0,by omega,rfl,rfl,HBO.out⟩
      case round =>
       obtain⟨k,hk,rfl,hno,hbw⟩:=hrel;have d0:=(hbw.cell (p:=⟨w.heap.size,0,none⟩) hlt0).trans HD.out.1;have d1:=(hbw.cell (p:=⟨w.heap.size,1,none⟩) hlt0).trans HD.out.2.1;have d2:=(hbw.cell (p:=⟨w.heap.size,2,none⟩) hlt0).trans HD.out.2.2.1;have d3:=(hbw.cell (p:=⟨w.heap.size,3,none⟩) hlt0).trans HD.out.2.2.2;have HB2:Hid (Below w.heap.size w wr):=HB0.out.trans (hbw.mono (by omega))
       by_cases hlt:k<m.cons.length
       ·obtain⟨t,ht⟩:∃t,m.cons[k]? = some t:=⟨m.cons[k],by simp[hlt]⟩
        have HG:Hid ((conL m)[k]? = some (conE m.vars.length t)):=zRk m k t ht;obtain⟨a2',c2',hva,_,hrc⟩:=(HMA.out _ HB2.out).2;obtain⟨b,off,vv,vc,vr,vl,ha,hb,e0,e1,e2,e3,e4,e5,hka⟩:=hrc k t ht;have ha2:a2=some ⟨b,off,none⟩:=by cases hva;exact ha
        subst ha2;have HKA:Hid (KArg wr vv vc vr vl t):=hka;obtain⟨⟨q1,r1,rfl,_,_⟩,⟨q2,r2,rfl,_,_⟩,⟨q3,r3,rfl,_,_⟩,⟨q4,r4,rfl,_,_⟩⟩:=hka;have hsz:=hbw.size;have hlw:w.heap.size<wr.heap.size:=by omega
        clear ht hva hrc ha;go_wp2_with fail
        refine (zTJ t _ _ _ _ _ _ (KArg.below (zAA _ _) HKA.out)).mono ?_;rintro e w1 ⟨rfl,hb1⟩;obtain⟨er,her⟩:∃er,conE m.vars.length t=er:=⟨_,rfl⟩;have HG2:Hid ((conL m)[k]? = some er):=by rw[←her];exact HG.out
        rw[her];clear her;have hbt:Below w0.heap.size w0 w1:=(hbw.alloc hsz _).trans (hb1.mono (by simp;omega))
        by_cases he:er=0
        ·subst he
         have HN:Hid (zAQ ((conL m).take (k+1))=0):=zCB _ k hno.out HG2.out;clear hb1;go_wp2
         go_roundw
         case rel=>exact⟨k+1,by omega,by go_num,HN,hbt⟩
         case measure=>simp[intOf];omega
        ·have HN:Hid (R=er):=by
          have hf:=zB2 (conL m) k er hno.out HG2.out he;rw[HE.out,HV.out,if_pos rfl,hf,if_neg he];rfl
         have he2:(er != 0)=true:=by simpa using he
         clear hb1 he;go_wp2
         go_ret
         exact⟨zAE HN.out.symm,HB0.out.trans (hbt.mono (by omega))⟩
       ·have HN:Hid (R=zHa m):=by
         have hc0:zAQ (conL m)=0:=by have:=hno.out;rw[List.take_of_length_le (by simp[conL];omega)] at this;exact this
         rw[HE.out,HV.out,if_pos rfl,hc0,if_pos rfl];rfl
        go_wp2_with fail
        refine (zRj m _ _ _ (HMA.out _ HB2.out)).mono ?_;rintro e w3 ⟨rfl,hb3⟩;go_wp2
        go_ret
        exact⟨zAE HN.out.symm,HB2.out.trans (hb3.mono HB2.out.size)⟩
def twoM:Mod:=⟨[⟨⟨#[120]⟩,0,2⟩,⟨⟨#[121]⟩,0,2⟩],[⟨1,[0,1],[1,-1],-1,[],[]⟩],1,1⟩
theorem zCs:zAF twoM=0:=by kernel_rfl
theorem zHq (w:World) (o1 o2 o3 o4 o5:Obj) :
 (((((w.alloc o1).alloc o2).alloc o3).alloc o4).alloc o5).heap[w.heap.size+1]? = some o2∧(((((w.alloc o1).alloc o2).alloc o3).alloc o4).alloc o5).heap[w.heap.size+1+1]? = some o3 ∧
 (((((w.alloc o1).alloc o2).alloc o3).alloc o4).alloc o5).heap[w.heap.size+1+1+1]? = some o4∧(((((w.alloc o1).alloc o2).alloc o3).alloc o4).alloc o5).heap[w.heap.size+1+1+1+1]? = some o5:=by
 refine⟨?_,?_,?_,?_⟩
 all_goals
  show (((((w.heap.push _).push _).push _).push _).push _)[_]? = _;simp only[Array.getElem?_push,Array.size_push]
  repeat first | rw[if_pos (by omega)] | rw[if_neg (by omega)]
 all_goals rfl
theorem zMO (w:World) :
 Calls Tryz.prog 47 #[] w fun e w'=>∃vs cs,e=.returned (modV vs cs twoM)∧MArg w' vs cs twoM∧Below w.heap.size w w':=by
 go_enter Tryz.func47,Tryz.ntmps47
 go_wp2
 refine bodyPost_ret (v:=modV (.slice (some ⟨w.heap.size+1,0,none⟩) 2 2) (.slice (some ⟨w.heap.size+1+1+1+1,0,none⟩) 1 1) twoM) (by simp[results,Tryz.results47,go_sem,modV,twoM]) rfl ⟨_,_,rfl,⟨?_,?_⟩,?_⟩
 ·refine⟨_,_,rfl,⟨by decide,by unfold maxLen;decide⟩,fun i t ht=>?_⟩
  have hb:=(zHq w (.cells #[.slice (some ⟨w.heap.size+1,0,none⟩) 2 2,.slice (some ⟨w.heap.size+1+1+1+1,0,none⟩) 1 1,.int .i64 1,.int .i64 1] 25) (.cells #[.string ⟨#[120]⟩,.int .i64 0,.int .i64 2,.string ⟨#[121]⟩,.int .i64 0,.int .i64 2] 71) (.cells #[.int .i64 0,.int .i64 1] 3) (.cells #[.int .i64 1,.int .i64 (-1)] 3) (.cells #[.int .i64 1,.slice (some ⟨w.heap.size+1+1,0,none⟩) 2 2,.slice (some ⟨w.heap.size+1+1+1,0,none⟩) 2 2,.int .i64 (-1),.slice none 0 0,.slice none 0 0] 73)).1
  match i,ht with
  | 0,ht=>cases ht;exact⟨by unfold maxLen;decide,_,_,rfl,by simp,by rw[Lib.cell_of_heap hb];rfl,by rw[Lib.cell_of_heap hb];rfl,by rw[Lib.cell_of_heap hb];rfl⟩
  | 1,ht=>cases ht;exact⟨by unfold maxLen;decide,_,_,rfl,by simp,by rw[Lib.cell_of_heap hb];rfl,by rw[Lib.cell_of_heap hb];rfl,by rw[Lib.cell_of_heap hb];rfl⟩
 ·refine⟨_,_,rfl,⟨by decide,by unfold maxLen;decide⟩,fun i t ht=>?_⟩
  obtain⟨_,hb2,hb3,hb4⟩:=zHq w (.cells #[.slice (some ⟨w.heap.size+1,0,none⟩) 2 2,.slice (some ⟨w.heap.size+1+1+1+1,0,none⟩) 1 1,.int .i64 1,.int .i64 1] 25) (.cells #[.string ⟨#[120]⟩,.int .i64 0,.int .i64 2,.string ⟨#[121]⟩,.int .i64 0,.int .i64 2] 71) (.cells #[.int .i64 0,.int .i64 1] 3) (.cells #[.int .i64 1,.int .i64 (-1)] 3) (.cells #[.int .i64 1,.slice (some ⟨w.heap.size+1+1,0,none⟩) 2 2,.slice (some ⟨w.heap.size+1+1+1,0,none⟩) 2 2,.int .i64 (-1),.slice none 0 0,.slice none 0 0] 73)
  match i,ht with
  | 0,ht =>
    cases ht
    refine⟨_,_,.slice (some ⟨w.heap.size+1+1,0,none⟩) 2 2,.slice (some ⟨w.heap.size+1+1+1,0,none⟩) 2 2,.slice none 0 0,.slice none 0 0,rfl,by simp,by rw[Lib.cell_of_heap hb4];rfl,by rw[Lib.cell_of_heap hb4];rfl,by rw[Lib.cell_of_heap hb4];rfl,by rw[Lib.cell_of_heap hb4];rfl,by rw[Lib.cell_of_heap hb4];rfl,by rw[Lib.cell_of_heap hb4];rfl,?_⟩
    refine⟨⟨_,_,rfl,⟨by decide,by unfold maxLen;decide⟩,fun i z hz=>?_⟩,⟨_,_,rfl,⟨by decide,by unfold maxLen;decide⟩,fun i z hz=>?_⟩,⟨_,_,rfl,⟨by decide,by unfold maxLen;decide⟩,fun i z hz=>by simp at hz⟩,⟨_,_,rfl,⟨by decide,by unfold maxLen;decide⟩,fun i z hz=>by simp at hz⟩⟩
    ·match i,hz with
     | 0,hz=>cases hz;exact⟨_,_,rfl,by simp,by rw[Lib.cell_of_heap hb2];rfl⟩
     | 1,hz=>cases hz;exact⟨_,_,rfl,by simp,by rw[Lib.cell_of_heap hb2];rfl⟩
    ·match i,hz with
     | 0,hz=>cases hz;exact⟨_,_,rfl,by simp,by rw[Lib.cell_of_heap hb3];rfl⟩
     | 1,hz=>cases hz;exact⟨_,_,rfl,by simp,by rw[Lib.cell_of_heap hb3];rfl⟩
 ·exact (((((Below.refl _ _).alloc (Nat.le_refl _) _).alloc (by simp) _).alloc (by simp;omega) _).alloc (by simp;omega) _).alloc (by simp;omega) _
abbrev Sto:=List (List Int)
def hasB (l:List Int) (n:Int):Bool:=l.any (fun k=>n==k)
def zGq (lo hi:Int):List Int:=(List.range (hi+1 - lo).toNat).map fun (k:Nat)=>lo+(k:Int)
def zFp (vs:List MVar):Sto:=vs.map fun v=>zGq v.lo v.hi
theorem zNb (l:List Int) (n:Int):hasB l n=true↔n∈l:=by
 unfold hasB;rw[List.any_eq_true]
 constructor
 ·rintro ⟨k,hk,he⟩;rwa [beq_iff_eq.1 he]
 ·intro h;exact⟨n,h,by simp⟩
theorem zMP {α β:Type} (p:α×β→Bool):∀(a:List α) (b:List β),(a.zip b).all p=true↔∀(i:Nat) x y,a[i]? = some x→b[i]? = some y→p (x,y)=true
 | [],b=>by simp
 | x :: a,[]=>by simp
 | x :: a,y :: b=>by
   rw[List.zip_cons_cons,List.all_cons,Bool.and_eq_true,zMP p a b]
   constructor
   ·rintro ⟨h0,h1⟩ i u v hu hv
    cases i with
    | zero=>simp at hu hv;subst hu;subst hv;exact h0
    | succ i=>exact h1 i u v (by simpa using hu) (by simpa using hv)
   ·intro h
    exact⟨h 0 x y rfl rfl,fun i u v hu hv=>h (i+1) u v (by simpa using hu) (by simpa using hv)⟩
def hasS (s:Sto) (vals:List Int):Bool:=decide (s.length=vals.length)&&(s.zip vals).all fun p=>hasB p.1 p.2
theorem zNc (s:Sto) (vals:List Int):hasS s vals=true↔s.length=vals.length∧∀(k:Nat) r x,s[k]? = some r→vals[k]? = some x→x∈r:=by
 unfold hasS;rw[Bool.and_eq_true,decide_eq_true_eq,zMP];exact⟨fun h=>⟨h.1,fun k r x hr hx=>(zNb _ _).1 (h.2 k r x hr hx)⟩,fun h=>⟨h.1,fun k r x hr hx=>(zNb _ _).2 (h.2 k r x hr hx)⟩⟩
def litE (vs:List MVar) (l:MLit):Int :=
 if l.var<0∨(vs.length:Int)≤l.var then 5 else if l.op<1∨4<l.op then 7 else if l.n < -1000∨1000<l.n then 3 else 0
def zUN:MLit:=⟨0,0,0⟩
theorem zTK (vs:List MVar) (l:MLit):litE vs l=0↔(0≤l.var∧l.var<vs.length)∧(1≤l.op∧l.op≤4)∧(-1000≤l.n∧l.n≤1000):=by
 unfold litE
 split
 ·constructor
  ·intro h;cases h
  ·intro h;omega
 ·split
  ·constructor
   ·intro h;cases h
   ·intro h;omega
  ·split
   ·constructor
    ·intro h;cases h
    ·intro h;omega
   ·constructor
    ·intro _;omega
    ·intro _;rfl
abbrev Cla:=List MLit
def claB (c:Cla) (vals:List Int):Bool:=c.any fun l=>litV (vals.getD l.var.toNat 0) l
def claE (vs:List MVar) (c:Cla):Int:=if 40<c.length then 2 else zAQ (c.map (litE vs))
def oneB (c:Cla) (k:Nat) (z:Int):Bool:=c.any fun l=>decide (l.var=(k:Int))&&litV z l
def zFm (vs:List MVar) (l:List Cla):Int:=if 600<l.length then 2 else zAQ (l.map (claE vs))
theorem zNd (c:Cla) (k:Nat) (z:Int):oneB c k z=true↔∃l∈c,l.var=(k:Int)∧litV z l=true:=by
 unfold oneB;rw[List.any_eq_true];exact⟨fun⟨l,h1,h2⟩=>⟨l,h1,by simpa using h2⟩,fun⟨l,h1,h2⟩=>⟨l,h1,by simpa using h2⟩⟩
theorem zRl (c:Cla) (vals:List Int):claB c vals=true↔∃l∈c,litV (vals.getD l.var.toNat 0) l=true:=by unfold claB;rw[List.any_eq_true]
def zT4 (s:Sto) (c:Cla):Prop:=∀l∈c,0≤l.var∧l.var<(s.length:Int)
def SubS (t s:Sto):Prop:=t.length=s.length∧∀(k:Nat) r q,t[k]? = some r→s[k]? = some q→∀x∈r,x∈q
theorem SubS.refl (s:Sto):SubS s s:=⟨rfl,fun k r q hr hq x hx=>by rw[hr] at hq;cases hq;exact hx⟩
theorem SubS.trans {a b c:Sto} (h:SubS a b) (k:SubS b c):SubS a c:=by
 refine⟨h.1.trans k.1,fun i r q hr hq x hx=>?_⟩
 have hi:i<b.length:=by rw[←h.1];exact (List.getElem?_eq_some_iff.1 hr).1
 have e:b[i]? = some b[i]:=by simp[hi]
 exact k.2 i _ q e hq x (h.2 i r _ hr e x hx)
def zJL (t s:Sto):Prop:=t.length=s.length∧∀(k:Nat) r q,t[k]? = some r→s[k]? = some q→r.Sublist q
theorem zJL.refl (s:Sto):zJL s s:=⟨rfl,fun k r q hr hq=>by rw[hr] at hq;cases hq;exact List.Sublist.refl _⟩
theorem zJL.trans {a b c:Sto} (h:zJL a b) (k:zJL b c):zJL a c:=by
 refine⟨h.1.trans k.1,fun i r q hr hq=>?_⟩
 have hi:i<b.length:=by rw[←h.1];exact (List.getElem?_eq_some_iff.1 hr).1
 have e:b[i]? = some b[i]:=by simp[hi]
 exact (h.2 i r _ hr e).trans (k.2 i _ q e hq)
theorem zKJ (l:MLit) (x:Int) (w:World) :
 Calls Tryz.prog 108 #[.agg #[.int .i64 l.var,.int .i64 l.op,.int .i64 l.n],.int .i64 x] w fun e w'=>e=.returned (.bool (litV x l))∧Below w.heap.size w w':=by
 obtain⟨R,hR⟩:∃R,litV x l=R:=⟨_,rfl⟩;rw[hR];have hE:R=if l.op=1 then decide (x≤l.n) else if l.op=2 then decide (l.n≤x) else if l.op=3 then x==l.n else if l.op=4 then x != l.n else false:=by
  rw[←hR];rfl
 clear hR;by_cases q1:l.op=1
 ·have HE:Hid (R=decide (x≤l.n)):=by rw[hE,if_pos q1];rfl
  rw[q1];clear hE q1;go_enter Tryz.func108,Tryz.ntmps108
  go_wp2
  go_ret
  exact⟨zAC HE.out.symm,zAA _ _⟩
 ·by_cases q2:l.op=2
  ·have HE:Hid (R=decide (l.n≤x)):=by rw[hE,if_neg q1,if_pos q2];rfl
   rw[q2];clear hE q1 q2;go_enter Tryz.func108,Tryz.ntmps108
   go_wp2
   go_ret
   exact⟨zAC HE.out.symm,zAA _ _⟩
  ·by_cases q3:l.op=3
   ·have HE:Hid (R=(x==l.n)):=by rw[hE,if_neg q1,if_neg q2,if_pos q3];rfl
    rw[q3];clear hE q1 q2 q3;go_enter Tryz.func108,Tryz.ntmps108
    go_wp2
    go_ret
    exact⟨zAC HE.out.symm,zAA _ _⟩
   ·by_cases q4:l.op=4
    ·have HE:Hid (R=(x != l.n)):=by rw[hE,if_neg q1,if_neg q2,if_neg q3,if_pos q4];rfl
     rw[q4];clear hE q1 q2 q3 q4;go_enter Tryz.func108,Tryz.ntmps108
     go_wp2
     go_ret
     exact⟨zAC HE.out.symm,zAA _ _⟩
    ·have HE:Hid (R=false):=by rw[hE,if_neg q1,if_neg q2,if_neg q3,if_neg q4];rfl
     have g1:(l.op==1)=false:=by simpa using q1
     have g2:(l.op==2)=false:=by simpa using q2
     have g3:(l.op==3)=false:=by simpa using q3
     have g4:(l.op==4)=false:=by simpa using q4
     clear hE q1 q2 q3 q4;go_enter Tryz.func108,Tryz.ntmps108
     go_wp2
     go_ret
     exact⟨zAC HE.out.symm,zAA _ _⟩
def zAZ (vals:List Int) (v:Int):Int:=vals.getD v.toNat 0
def ownV (vars vals:List Int):List Int:=vars.map (zAZ vals)
def sumV (consts own:List Int):Int:=(List.zipWith (· * ·) consts own).sum
def litB (vals:List Int) (l:MLit):Bool:=litV (zAZ vals l.var) l
def maxV:List Int→Int
 | []=>0
 | a :: r=>r.foldl max a
def zA0 (c:MCon) (vals:List Int):Bool :=
 if c.kind=1 then decide (sumV c.consts (ownV c.vars vals)≤c.n)
 else if c.kind=2 then sumV c.consts (ownV c.vars vals)==c.n
 else if c.kind=3 then sumV c.consts (ownV c.vars vals) != c.n
 else if c.kind=4 then decide (ownV c.vars vals).Nodup
 else if c.kind=5 then decide (0≤(ownV c.vars vals).getD 0 0)&&(decide ((ownV c.vars vals).getD 0 0<c.consts.length)&&(c.consts.getD ((ownV c.vars vals).getD 0 0).toNat 0==(ownV c.vars vals).getD 1 0))
 else if c.kind=6 then c.rows.any fun r=>decide (r=ownV c.vars vals)
 else if c.kind=7 then (ownV c.vars vals).getD 0 0 * (ownV c.vars vals).getD 1 0==(ownV c.vars vals).getD 2 0
 else if c.kind=8 then (ownV c.vars vals).getD 0 0==maxV ((ownV c.vars vals).drop 1)
 else if c.kind=9 then c.lits.any (litB vals)
 else if c.kind=10 then (ownV c.vars vals).getD 0 0==(if litB vals (c.lits.getD 0 ⟨0,0,0⟩) then 1 else 0)
 else false
theorem zHr (vals:List Int) (k:Nat) (x:Int) (h:vals[k]? = some x):zAZ vals (k:Int)=x:=by
 unfold zAZ;rw[Int.toNat_natCast,List.getD_eq_getElem?_getD,h];rfl
theorem zPb (b:Bool) (w:World):Calls Tryz.prog 107 #[.bool b] w fun e w'=>e=.returned (.int .i64 (if b then 1 else 0))∧w'=w:=by
 cases b
 ·go_enter Tryz.func107,Tryz.ntmps107
  go_wp2
  go_ret
  exact⟨rfl,rfl⟩
 ·go_enter Tryz.func107,Tryz.ntmps107
  go_wp2
  go_ret
  exact⟨rfl,rfl⟩
theorem Tryz.infoInt0:(Tryz.prog.info? 3).map (fun i=>(i.zero,i.size,i.bytes))=some (some (.int .i64 0),1,8):=by kernel_rfl
theorem Tryz.underInts0:Tryz.prog.underlying 26=some (.slice 3):=by kernel_rfl
theorem zPc (n:Nat) (hn:n≤1000) (w:World):∃w',Sem.run Tryz.prog (Instr.makeSlice 26 (.int .i64 (n:Int)) (.int .i64 (n:Int))) w=.ok (.slice (some ⟨w.heap.size,0,none⟩) n n) w' ∧
 w'.ownsRow w.heap.size 3 1 (.slice (some ⟨w.heap.size,0,none⟩) n n) n (List.replicate n (.int .i64 0))∧Below w.heap.size w w':=by
 obtain⟨i0,hi,hz0,hz1,hz2⟩:=info_parts Tryz.infoInt0;obtain⟨w',hrun,hown,hg⟩:=run_makeSlice_full w w.heap.size 26 3 i0 (.int .i64 0) 1 Tryz.underInts0 hi hz0 hz1 .i64 .i64 n (by omega) (by rw[hz2];omega) (by unfold maxLen;omega) (Nat.le_refl _)
 refine⟨w',hrun,?_,(Below.refl _ _).grown hg (Nat.le_refl _) (fun k h=>by cases h)⟩
 have:(Value.int .i64 0).cells=#[.int .i64 0]:=rfl;rw[this,Nat.mul_one,toList_madeCells_one] at hown;exact hown
theorem zNe {w:World} {base:Nat} {v:Value} {r:List Int} (h:w.ownsRow base 3 1 v r.length (r.map (Value.int .i64))):IArg w v r:=by
 rcases h.2 with ⟨rfl,hn⟩ | ⟨g,cap,cur,rfl,hg,hh,hc1,hc2,_,_⟩
 ·have:r=[]:=List.eq_nil_of_length_eq_zero hn
  subst this;exact⟨none,0,rfl,⟨Nat.le_refl _,Nat.zero_le _⟩,fun i z hz=>by simp at hz⟩
 ·refine⟨_,cap,rfl,⟨hc1,hc2⟩,fun i z hz=>⟨g,0,rfl,(Array.getElem?_eq_some_iff.1 hh).1,?_⟩⟩
  have hi:i<r.length:=(List.getElem?_eq_some_iff.1 hz).1;rw[Nat.zero_add,h.cellAt i (by omega),List.getElem?_map,hz];rfl
theorem zPd (vars vals:List Int) (u v:Value) (w:World) (hu:IArg w u vars) (hv:IArg w v vals) (hn:vars.length≤4) (hr:∀x∈vars,0≤x∧x<vals.length) :
 Calls Tryz.prog 99 #[u,v] w fun e w'=>∃x,e=.returned x∧IArg w' x (ownV vars vals)∧Below w.heap.size w w':=by
 obtain⟨a,c,rfl,hm,h1⟩:=hu;obtain⟨a',c',rfl,hm',h2⟩:=hv;have HU:Hid (∀(i:Nat) (z:Int),vars[i]? = some z→∃b off,a=some ⟨b,off,none⟩∧b<w.heap.size∧w.cell? ⟨b,off+i,none⟩=some (.int .i64 z)):=h1;have HV:Hid (∀(i:Nat) (z:Int),vals[i]? = some z→∃b off,a'=some ⟨b,off,none⟩∧b<w.heap.size∧w.cell? ⟨b,off+i,none⟩=some (.int .i64 z)):=h2;have HR:Hid (∀x∈vars,0≤x∧x<vals.length):=hr;unfold maxLen at hm hm';obtain⟨hm1,hm⟩:=hm;obtain⟨hm1',hm'⟩:=hm';obtain⟨wm,hrun,hown,hbm⟩:=zPc vars.length (by omega) w
 have HOWN:Hid (wm.ownsRow w.heap.size 3 1 (.slice (some ⟨w.heap.size,0,none⟩) vars.length vars.length) vars.length (List.replicate vars.length (.int .i64 0))):=hown;have HBM:Hid (Below w.heap.size w wm):=hbm;clear h1 h2 hr hown hbm;go_enter Tryz.func99,Tryz.ntmps99
 go_wp2_with fail
 clear hrun;go_loopw [13] (fun i wr=>∃(k:Nat) (cells:List Value),k≤vars.length∧i=.int .i64 k∧wr.ownsRow w.heap.size 3 1 (.slice (some ⟨w.heap.size,0,none⟩) vars.length vars.length) vars.length cells∧Hid (cells.take k=((ownV vars vals).take k).map (Value.int .i64))∧Below w.heap.size w wr) (fun i _=>vars.length - (intOf i).toNat)
 case atStart=>exact⟨0,_,by omega,rfl,HOWN.out,rfl,HBM.out⟩
 case round =>
  obtain⟨k,cells,hk,rfl,hown,htk,hbw⟩:=hrel;by_cases hlt:k<vars.length
  ·obtain⟨z,hz⟩:∃z,vars[k]? = some z:=⟨vars[k],by simp[hlt]⟩
   obtain⟨hz0,hz1⟩:=HR.out z (List.mem_of_getElem? hz);obtain⟨j,rfl⟩:∃j:Nat,z=(j:Int):=⟨z.toNat,by omega⟩
   have hjl:j<vals.length:=by omega
   obtain⟨x,hx⟩:∃x,vals[j]? = some x:=⟨vals[j],by simp[hjl]⟩
   have HO:Hid ((ownV vars vals)[k]? = some x):=by show _=_;unfold ownV;rw[List.getElem?_map,hz];show some _=_;rw[zHr vals j x hx]
   obtain⟨b,off,rfl,hb,hc⟩:=HU.out k _ hz;obtain⟨b',off',rfl,hb',hd⟩:=HV.out j x hx;have e1:=(hbw.cell (p:=⟨b,off+k,none⟩) hb).trans hc;have e2:=(hbw.cell (p:=⟨b',off'+j,none⟩) hb').trans hd;have hlen:cells.length=vars.length:=by have:=hown.1;omega
   obtain⟨y,hy⟩:∃y,cells[k]? = some y:=⟨cells[k]'(by omega),by simp⟩
   have e3:wr.cell? ⟨w.heap.size,k,none⟩=some y:=by rw[hown.cellAt k (by omega)];exact hy
   have e4:=hown.frozenAt k;have HST:Hid ((wr.setCell ⟨w.heap.size,k,none⟩ (.int .i64 x)).ownsRow w.heap.size 3 1 (.slice (some ⟨w.heap.size,0,none⟩) vars.length vars.length) vars.length (cells.set k (.int .i64 x))):=(hown.stored k _).1;have HTK:Hid ((cells.set k (.int .i64 x)).take (k+1)=((ownV vars vals).take (k+1)).map (Value.int .i64)):=by
    show _=_;rw[List.take_add_one,List.take_add_one,HO.out,List.map_append,List.getElem?_set_self (by omega),List.take_set_of_le (Nat.le_refl _),htk.out];rfl
   have HBW:Hid (Below w.heap.size w (wr.setCell ⟨w.heap.size,k,none⟩ (.int .i64 x))):=hbw.setCell (Nat.le_refl _) _;clear hz hx hc hd hb hb' hown htk hbw hz0 hz1 hlen hy;go_wp2
   go_roundw
   case rel=>exact⟨k+1,_,by omega,by go_num,HST.out,HTK,HBW.out⟩
   case measure=>simp[intOf];omega
  ·have hks:k=vars.length:=by omega
   have hlen:cells.length=vars.length:=by have:=hown.1;omega
   have HC:Hid (cells=(ownV vars vals).map (Value.int .i64)):=by
    have h:=htk.out;rwa [List.take_of_length_le (by omega),List.take_of_length_le (by unfold ownV;simp;omega)] at h
   have HF:Hid (IArg wr (.slice (some ⟨w.heap.size,0,none⟩) vars.length vars.length) (ownV vars vals)):=by
    rw[HC.out] at hown;have:vars.length=(ownV vars vals).length:=by simp[ownV]
    rw[this] at hown ⊢;exact zNe hown
   clear hks hlen hown htk;go_wp2
   go_ret
   exact⟨_,rfl,HF.out,hbw⟩
theorem zKy (x y:Int) (h1:-1000≤x) (h2:x≤1000) (h3:-50≤y) (h4:y≤50):-50000≤x * y∧x * y≤50000:=by
 have key:(x * y).natAbs≤50000:=by
  rw[Int.natAbs_mul];have:=Nat.mul_le_mul (show x.natAbs≤1000 by omega) (show y.natAbs≤50 by omega)
  omega
 omega
def sumK (consts own:List Int) (k:Nat):Int:=((List.zipWith (· * ·) consts own).take k).sum
theorem zPe (consts own:List Int) (k:Nat) (x y:Int) (hx:consts[k]? = some x) (hy:own[k]? = some y):sumK consts own (k+1)=sumK consts own k+x * y:=by
 unfold sumK;rw[List.take_add_one,List.getElem?_zipWith,hx,hy];simp[List.sum_append]
theorem zMQ (consts own:List Int) (u v:Value) (w:World) (hu:IArg w u consts) (hv:IArg w v own) (hl:consts.length=own.length) (hn:consts.length≤8)
 (hc:∀x∈consts,-1000≤x∧x≤1000) (ho:∀x∈own,-50≤x∧x≤50) :
 Calls Tryz.prog 100 #[u,v] w fun e w'=>e=.returned (.int .i64 (sumV consts own))∧w'=w:=by
 obtain⟨a,c,rfl,hm,h1⟩:=hu;obtain⟨a',c',rfl,hm',h2⟩:=hv;have HU:Hid (∀(i:Nat) (z:Int),consts[i]? = some z→∃b off,a=some ⟨b,off,none⟩∧b<w.heap.size∧w.cell? ⟨b,off+i,none⟩=some (.int .i64 z)):=h1;have HV:Hid (∀(i:Nat) (z:Int),own[i]? = some z→∃b off,a'=some ⟨b,off,none⟩∧b<w.heap.size∧w.cell? ⟨b,off+i,none⟩=some (.int .i64 z)):=h2;have HL:Hid (consts.length=own.length):=hl;have HC:Hid (∀x∈consts,-1000≤x∧x≤1000):=hc;have HO:Hid (∀x∈own,-50≤x∧x≤50):=ho;obtain⟨R,hR⟩:∃R,sumV consts own=R:=⟨_,rfl⟩;rw[hR];have HR:Hid (sumV consts own=R):=hR;unfold maxLen at hm hm';obtain⟨hm1,hm⟩:=hm;obtain⟨hm1',hm'⟩:=hm';clear h1 h2 hl hc ho hR;go_enter Tryz.func100,Tryz.ntmps100
 go_wp2_with fail
 go_loop [5,10] (fun t i=>∃(k:Nat) (s:Int),k≤consts.length∧i=.int .i64 k∧t=.int .i64 s∧Hid (sumK consts own k=s)∧(-50000 * (k:Int)≤s∧s≤50000 * (k:Int))) (fun _ i=>consts.length - (intOf i).toNat)
 case atStart=>exact⟨0,0,by omega,rfl,rfl,rfl,by omega⟩
 case round =>
  obtain⟨k,s,hk,rfl,rfl,hs,hb1,hb2⟩:=hrel;by_cases hlt:k<consts.length
  ·have hlt':k<own.length:=by rw[←HL.out];exact hlt
   obtain⟨x,hx⟩:∃x,consts[k]? = some x:=⟨consts[k],by simp[hlt]⟩
   obtain⟨y,hy⟩:∃y,own[k]? = some y:=⟨own[k],by simp[hlt']⟩
   have HX:Hid (sumK consts own (k+1)=s+x * y):=by show _=_;rw[zPe consts own k x y hx hy,hs.out]
   obtain⟨b,off,rfl,hb,hc⟩:=HU.out k x hx;obtain⟨b',off',rfl,hb',hd⟩:=HV.out k y hy;have hxb:=HC.out x (List.mem_of_getElem? hx);have hyb:=HO.out y (List.mem_of_getElem? hy);obtain⟨hp1,hp2⟩:=zKy x y hxb.1 hxb.2 hyb.1 hyb.2;clear hx hy hb hb' hxb hyb;go_wp2
   go_round
   case rel=>exact⟨k+1,s+x * y,by omega,by go_num,by go_num,HX,by omega,by omega⟩
   case measure=>simp[intOf];omega
  ·have HN:Hid (s=R):=by
    show _=_;rw[←hs.out,←HR.out];unfold sumK sumV;rw[List.take_of_length_le (by rw[List.length_zipWith];omega)]
   go_wp2
   go_ret
   exact⟨zAE HN.out,rfl⟩
theorem zON {α:Type} (a b:List α) (m:Nat) (x:α) (h:a.take m=b.take m) (ha:a[m]? = some x) (hb:b[m]? = some x):a.take (m+1)=b.take (m+1):=by
 rw[List.take_add_one,List.take_add_one,h,ha,hb]
theorem zPf {α:Type} (a b:List α) (m:Nat) (h:a.take m=b.take m) (ha:¬m<a.length) (hl:a.length=b.length):a=b:=by
 rwa [List.take_of_length_le (by omega),List.take_of_length_le (by omega)] at h
theorem zPg {α:Type} (a b:List α) (m:Nat) (x y:α) (ha:a[m]? = some x) (hb:b[m]? = some y) (h:x≠y):a≠b:=by
 intro e;subst e;rw[ha] at hb;cases hb;exact h rfl
theorem zPh (l k:List Int) (v u:Value) (w:World) (hv:IArg w v l) (hu:IArg w u k) :
 Calls Tryz.prog 104 #[v,u] w fun e w'=>e=.returned (.bool (decide (l=k)))∧∃n,w'=w.drewN n:=by
 obtain⟨a,c,rfl,hm,hr⟩:=hv;obtain⟨a',c',rfl,hm',hr'⟩:=hu;have HV:Hid (∀(i:Nat) (z:Int),l[i]? = some z→∃b off,a=some ⟨b,off,none⟩∧b<w.heap.size∧w.cell? ⟨b,off+i,none⟩=some (.int .i64 z)):=hr;have HV':Hid (∀(i:Nat) (z:Int),k[i]? = some z→∃b off,a'=some ⟨b,off,none⟩∧b<w.heap.size∧w.cell? ⟨b,off+i,none⟩=some (.int .i64 z)):=hr';obtain⟨R,hR⟩:∃R,decide (l=k)=R:=⟨_,rfl⟩;rw[hR];have HR:Hid (decide (l=k)=R):=hR;unfold maxLen at hm hm';obtain⟨hm1,hm⟩:=hm;obtain⟨hm1',hm'⟩:=hm';clear hr hr' hR;by_cases hl:l.length=k.length
 ·have HL:Hid (l.length=k.length):=hl
  have g0:((l.length:Int) != (k.length:Int))=false:=by simp[hl]
  clear hl;go_enter Tryz.func104,Tryz.ntmps104
  go_wp2_with fail
  go_loopw [13] (fun i wr=>∃m:Nat,m≤l.length∧i=.int .i64 m∧Hid (l.take m=k.take m)∧∃n,wr=w.drewN n) (fun i _=>l.length - (intOf i).toNat)
  case atStart=>exact⟨0,by omega,rfl,rfl,0,rfl⟩
  case round =>
   obtain⟨m,hml,rfl,hall,nq,rfl⟩:=hrel;by_cases hlt:m<l.length
   ·have hlt':m<k.length:=by rw[←HL.out];exact hlt
    obtain⟨x,hx⟩:∃x,l[m]? = some x:=⟨l[m],by simp[hlt]⟩
    obtain⟨y,hy⟩:∃y,k[m]? = some y:=⟨k[m],by simp[hlt']⟩
    obtain⟨b,off,ha,hb,hc⟩:=HV.out m x hx;obtain⟨b',off',ha',hb',hd⟩:=HV'.out m y hy;have HX:Hid (l[m]? = some x):=hx;have HY:Hid (k[m]? = some y):=hy;subst ha;subst ha';clear hx hy;by_cases hq:x=y
    ·subst hq
     have HN:Hid (l.take (m+1)=k.take (m+1)):=zON l k m x hall.out HX.out HY.out;go_wp2
     go_quiet (fail)
     go_wp2
     go_roundw
     case rel=>exact⟨m+1,by omega,by go_num,HN,_,rfl⟩
     case measure=>simp[intOf];omega
    ·have HN:Hid (R=false):=by rw[←HR.out];exact decide_eq_false (zPg l k m x y HX.out HY.out hq)
     have hq2:(x != y)=true:=by simpa using hq
     clear hq;go_wp2
     go_quiet (fail)
     go_wp2
     go_ret
     exact⟨zAC HN.out.symm,_,zD0 _ _ _⟩
   ·have HN:Hid (R=true):=by rw[←HR.out];exact decide_eq_true (zPf l k m hall.out hlt HL.out)
    go_wp2
    go_ret
    exact⟨zAC HN.out.symm,_,rfl⟩
 ·have HN:Hid (R=false):=by rw[←HR.out];exact decide_eq_false (fun h=>hl (by rw[h]))
  have g0:((l.length:Int) != (k.length:Int))=true:=by simp;omega
  clear hl;go_enter Tryz.func104,Tryz.ntmps104
  go_wp2
  go_ret
  exact⟨zAC HN.out.symm,0,rfl⟩
theorem zRm (a:Int) (r:List Int) (k:Nat) (x:Int) (hx:r[k]? = some x):(r.take (k+1)).foldl max a=max ((r.take k).foldl max a) x:=by
 rw[List.take_add_one,hx,List.foldl_append];rfl
theorem zTL (p:Int) (r:List Int) (v:Value) (w:World) (hv:IArg w v (p :: r)) :
 Calls Tryz.prog 105 #[v] w fun e w'=>e=.returned (.int .i64 (r.foldl max p))∧w'=w:=by
 obtain⟨a,c,rfl,hm,h1⟩:=hv;have HU:Hid (∀(i:Nat) (z:Int),(p :: r)[i]? = some z→∃b off,a=some ⟨b,off,none⟩∧b<w.heap.size∧w.cell? ⟨b,off+i,none⟩=some (.int .i64 z)):=h1;obtain⟨b,off,rfl,hb,hc⟩:=h1 0 p rfl;rw[Nat.add_zero] at hc;obtain⟨R,hR⟩:∃R,r.foldl max p=R:=⟨_,rfl⟩;rw[hR];have HR:Hid (r.foldl max p=R):=hR;unfold maxLen at hm;obtain⟨hm1,hm⟩:=hm;obtain⟨n,hn⟩:∃n,(p :: r).length=n:=⟨_,rfl⟩;rw[hn] at hm1 ⊢;have HN:Hid (n=r.length+1):=by rw[←hn];rfl
 have hn1:1≤n:=by rw[←hn];simp
 clear h1 hR hn;go_enter Tryz.func105,Tryz.ntmps105
 go_wp2_with fail
 go_loop [3,4] (fun t i=>∃(k:Nat) (s:Int),k+1≤n∧i=.int .i64 ((k:Int)+1)∧t=.int .i64 s∧Hid ((r.take k).foldl max p=s)) (fun _ i=>n - (intOf i).toNat)
 case atStart=>exact⟨0,p,by omega,rfl,rfl,rfl⟩
 case round =>
  obtain⟨k,s,hk,rfl,rfl,hs⟩:=hrel;by_cases hlt:k+1<n
  ·have hlr:k<r.length:=by have:=HN.out;omega
   obtain⟨x,hx⟩:∃x,r[k]? = some x:=⟨r[k],by simp[hlr]⟩
   have HX:Hid ((r.take (k+1)).foldl max p=if s<x then x else s):=by show _=_;rw[zRm p r k x hx,hs.out];split <;> omega
   obtain⟨b2,off2,hab,hb2,hd⟩:=HU.out (k+1) x (by simpa using hx)
   cases hab
   clear hx hlr;go_wp2
   go_round
   case rel=>exact⟨k+1,_,by omega,by go_num,rfl,by first | exact HX | (have h9:=HX.out;show List.foldl max p (List.take (k+1) r)=max s x;rw[h9];split <;> omega)⟩
   case measure=>simp[intOf];omega
  ·have HF:Hid (s=R):=by
    show _=_;rw[←hs.out,←HR.out,List.take_of_length_le (by have:=HN.out;omega)]
   go_wp2
   go_ret
   exact⟨zAE HF.out,rfl⟩
end Go.Proofs.YtdjbejlbmaiocagGreatDoor
