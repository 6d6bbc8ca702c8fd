/- What the proof leans on, part 7. -/
import Derived.Test.YtndcpnlaadikoaaGreatDoorPartAf
import Derived.Test.YtndcpnlaadikoaaGreatDoorPartAc
import Derived.Laws.OwnMore
namespace Go.Proofs.YtndcpnlaadikoaaGreatDoor
open Go.RowKit
def varL (m:Mod):List Int:=(List.range m.vars.length).map fun i=>varE (m.vars.take i) (m.vars.getD i ⟨ByteArray.empty,0,0⟩)
theorem zME (m:Mod) (k:Nat) (t:MVar) (h:m.vars[k]? = some t):(varL m)[k]? = some (varE (m.vars.take k) t):=by
 have hk:k<m.vars.length:=(List.getElem?_eq_some_iff.1 h).1
 unfold varL
 rw[List.getElem?_map,List.getElem?_range hk]
 simp[List.getD,h]
theorem zMF (m:Mod):(varL m).length=m.vars.length:=by simp[varL]
def conL (m:Mod):List Int:=m.cons.map (conE m.vars.length)
theorem zMG (m:Mod) (k:Nat) (t:MCon) (h:m.cons[k]? = some t):(conL m)[k]? = some (conE m.vars.length t):=by simp[conL,h]
set_option maxHeartbeats 1600000 in
set_option maxRecDepth 100000 in
theorem zDg (m:Mod) (vs cs:Value) (w:World) (hm:MArg w vs cs m) :
 Calls Tryz.prog 59 #[modV vs cs m] w fun e w'=>e=.returned (.int .i64 (zAP m))∧Below w.heap.size w w':=by
 have HMA:Hid (∀w':World,Below w.heap.size w w'→MArg w' vs cs m):=fun w' h=>MArg.below h hm
 obtain⟨⟨a1,c1,rfl,hl1,hr1⟩,⟨a2,c2,rfl,hl2,hr2⟩⟩:=hm
 obtain⟨R,hR⟩:∃R,zAP m=R:=⟨_,rfl⟩
 rw[hR]
 unfold maxLen at hl1 hl2
 obtain⟨hl11,hl1⟩:=hl1
 obtain⟨hl21,hl2⟩:=hl2
 clear hr1 hr2
 unfold modV
 by_cases h0:m.vars.length=0
 ·have HE:Hid (R=1):=by rw[←hR];unfold zAP;rw[if_pos h0];rfl
  have g0:((m.vars.length:Int)==0)=true:=by simp[h0]
  clear hR h0
  go_enter Tryz.func59,Tryz.ntmps59
  go_wp2
  go_ret
  exact⟨zAI HE.out.symm,zAA _ _⟩
 ·have g0:((m.vars.length:Int)==0)=false:=by simpa using h0
  by_cases h6:6<m.vars.length
  ·have HE:Hid (R=2):=by rw[←hR];unfold zAP;rw[if_neg h0,if_pos (Or.inl h6)];rfl
   clear hR h0
   go_enter Tryz.func59,Tryz.ntmps59
   go_wp2
   go_ret
   exact⟨zAI HE.out.symm,zAA _ _⟩
  ·by_cases h8:8<m.cons.length
   ·have HE:Hid (R=2):=by rw[←hR];unfold zAP;rw[if_neg h0,if_pos (Or.inr h8)];rfl
    clear hR h0
    go_enter Tryz.func59,Tryz.ntmps59
    go_wp2
    go_ret
    exact⟨zAI HE.out.symm,zAA _ _⟩
   ·have HE:Hid (R=if zAe (varL m)=0 then (if zAe (conL m)=0 then zIS m else zAe (conL m)) else zAe (varL m)):=by
     rw[←hR];unfold zAP;rw[if_neg h0,if_neg (by omega)];rfl
    clear hR h0
    go_enter Tryz.func59,Tryz.ntmps59
    go_wp2
    obtain⟨w0,hw0⟩:∃w0:World,w0=w.alloc (.cells #[.slice a1 m.vars.length c1,.slice a2 m.cons.length c2,.int .i64 m.goal,.int .i64 m.var] 25):=⟨_,rfl⟩
    rw[←hw0]
    have HB0:Hid (Below w.heap.size w w0):=by rw[hw0];exact zAA _ _
    have HZ0:Hid (w0.heap.size=w.heap.size+1):=by show _=_;rw[hw0];simp
    have HD:Hid (w0.cell? ⟨w.heap.size,0,none⟩=some (.slice a1 m.vars.length c1)∧w0.cell? ⟨w.heap.size,1,none⟩=some (.slice a2 m.cons.length c2)∧w0.cell? ⟨w.heap.size,2,none⟩=some (.int .i64 m.goal)∧w0.cell? ⟨w.heap.size,3,none⟩=some (.int .i64 m.var)):=by
     rw[hw0];exact⟨by simp,by simp,by simp,by simp⟩
    clear hw0
    go_loopw [25] (fun i wr=>∃k:Nat,k≤m.vars.length∧i=.int .i64 k∧Hid (zAe ((varL m).take k)=0)∧Below w0.heap.size w0 wr) (fun i _=>m.vars.length - (intOf i).toNat)
    case atStart=>exact⟨0,by omega,rfl,rfl,Below.refl _ _⟩
    case round =>
     obtain⟨k,hk,rfl,hno,hbw⟩:=hrel
     have hlt0:w.heap.size<w0.heap.size:=by rw[HZ0.out];omega
     have d0:=(hbw.cell (p:=⟨w.heap.size,0,none⟩) hlt0).trans HD.out.1
     have d1:=(hbw.cell (p:=⟨w.heap.size,1,none⟩) hlt0).trans HD.out.2.1
     have d2:=(hbw.cell (p:=⟨w.heap.size,2,none⟩) hlt0).trans HD.out.2.2.1
     have d3:=(hbw.cell (p:=⟨w.heap.size,3,none⟩) hlt0).trans HD.out.2.2.2
     have HBW:Hid (Below w.heap.size w wr):=HB0.out.trans (hbw.mono (by omega))
     by_cases hlt:k<m.vars.length
     ·obtain⟨t,ht⟩:∃t,m.vars[k]? = some t:=⟨m.vars[k],by simp[hlt]⟩
      have HG:Hid ((varL m)[k]? = some (varE (m.vars.take k) t)):=zME m k t ht
      have HT:Hid (m.vars[k]? = some t):=ht
      clear ht
      go_wp2_with fail
      refine (zKv m.vars _ k t _ (HMA.out _ HBW.out).1 HT.out).mono ?_
      rintro e w1 ⟨rfl,hb1⟩
      obtain⟨er,her⟩:∃er,varE (m.vars.take k) t=er:=⟨_,rfl⟩
      have HG2:Hid ((varL m)[k]? = some er):=by rw[←her];exact HG.out
      rw[her]
      clear her
      have hbt:Below w0.heap.size w0 w1:=hbw.trans (hb1.mono hbw.size)
      by_cases he:er=0
      ·subst he
       have HN:Hid (zAe ((varL m).take (k+1))=0):=zCv _ k hno.out HG2.out
       clear hb1
       go_wp2
       go_roundw
       case rel=>exact⟨k+1,by omega,by go_num,HN,hbt⟩
       case measure=>simp[intOf];omega
      ·have HN:Hid (R=er):=by
        have hf:=zDN (varL m) k er hno.out HG2.out he
        rw[HE.out,hf,if_neg he];rfl
       have he2:(er != 0)=true:=by simpa using he
       clear hb1 he
       go_wp2
       go_ret
       exact⟨zAI HN.out.symm,HB0.out.trans (hbt.mono (by omega))⟩
     ·have HV:Hid (zAe (varL m)=0):=by
       have:=hno.out;rw[List.take_of_length_le (by rw[zMF];omega)] at this;exact this
      have HBO:Hid (Below w0.heap.size w0 wr):=hbw
      obtain⟨wo,rfl⟩:∃wo:World,wo=wr:=⟨_,rfl⟩
      go_wp2
      clear hk hno hbw hlt d0 d1 d2 d3
      go_loopw [39] (fun i wr=>∃k:Nat,k≤m.cons.length∧i=.int .i64 k∧Hid (zAe ((conL m).take k)=0)∧Below w0.heap.size w0 wr) (fun i _=>m.cons.length - (intOf i).toNat)
      case atStart=>exact⟨0,by omega,rfl,rfl,HBO.out⟩
      case round =>
       obtain⟨k,hk,rfl,hno,hbw⟩:=hrel
       have d0:=(hbw.cell (p:=⟨w.heap.size,0,none⟩) hlt0).trans HD.out.1
       have d1:=(hbw.cell (p:=⟨w.heap.size,1,none⟩) hlt0).trans HD.out.2.1
       have d2:=(hbw.cell (p:=⟨w.heap.size,2,none⟩) hlt0).trans HD.out.2.2.1
       have d3:=(hbw.cell (p:=⟨w.heap.size,3,none⟩) hlt0).trans HD.out.2.2.2
       have HB2:Hid (Below w.heap.size w wr):=HB0.out.trans (hbw.mono (by omega))
       by_cases hlt:k<m.cons.length
       ·obtain⟨t,ht⟩:∃t,m.cons[k]? = some t:=⟨m.cons[k],by simp[hlt]⟩
        have HG:Hid ((conL m)[k]? = some (conE m.vars.length t)):=zMG m k t ht
        obtain⟨a2',c2',hva,_,hrc⟩:=(HMA.out _ HB2.out).2
        obtain⟨b,off,vv,vc,vr,vl,ha,hb,e0,e1,e2,e3,e4,e5,hka⟩:=hrc k t ht
        have ha2:a2=some ⟨b,off,none⟩:=by cases hva;exact ha
        subst ha2
        have HKA:Hid (KArg wr vv vc vr vl t):=hka
        obtain⟨⟨q1,r1,rfl,_,_⟩,⟨q2,r2,rfl,_,_⟩,⟨q3,r3,rfl,_,_⟩,⟨q4,r4,rfl,_,_⟩⟩:=hka
        have hsz:=hbw.size
        have hlw:w.heap.size<wr.heap.size:=by omega
        clear ht hva hrc ha
        go_wp2_with fail
        refine (zNL t _ _ _ _ _ _ (KArg.below (zAA _ _) HKA.out)).mono ?_
        rintro e w1 ⟨rfl,hb1⟩
        obtain⟨er,her⟩:∃er,conE m.vars.length t=er:=⟨_,rfl⟩
        have HG2:Hid ((conL m)[k]? = some er):=by rw[←her];exact HG.out
        rw[her]
        clear her
        have hbt:Below w0.heap.size w0 w1:=(hbw.alloc hsz _).trans (hb1.mono (by simp;omega))
        by_cases he:er=0
        ·subst he
         have HN:Hid (zAe ((conL m).take (k+1))=0):=zCv _ k hno.out HG2.out
         clear hb1
         go_wp2
         go_roundw
         case rel=>exact⟨k+1,by omega,by go_num,HN,hbt⟩
         case measure=>simp[intOf];omega
        ·have HN:Hid (R=er):=by
          have hf:=zDN (conL m) k er hno.out HG2.out he
          rw[HE.out,HV.out,if_pos rfl,hf,if_neg he];rfl
         have he2:(er != 0)=true:=by simpa using he
         clear hb1 he
         go_wp2
         go_ret
         exact⟨zAI HN.out.symm,HB0.out.trans (hbt.mono (by omega))⟩
       ·have HN:Hid (R=zIS m):=by
         have hc0:zAe (conL m)=0:=by have:=hno.out;rw[List.take_of_length_le (by simp[conL];omega)] at this;exact this
         rw[HE.out,HV.out,if_pos rfl,hc0,if_pos rfl];rfl
        go_wp2_with fail
        refine (zMD m _ _ _ (HMA.out _ HB2.out)).mono ?_
        rintro e w3 ⟨rfl,hb3⟩
        go_wp2
        go_ret
        exact⟨zAI HN.out.symm,HB2.out.trans (hb3.mono HB2.out.size)⟩
set_option maxHeartbeats 800000 in
set_option maxRecDepth 100000 in
theorem zGg (l:MLit) (x:Int) (w:World) :
 Calls Tryz.prog 172 #[.agg #[.int .i64 l.var,.int .i64 l.op,.int .i64 l.n],.int .i64 x] w fun e w'=>e=.returned (.bool (litV x l))∧Below w.heap.size w w':=by
 obtain⟨R,hR⟩:∃R,litV x l=R:=⟨_,rfl⟩
 rw[hR]
 have hE:R=if l.op=1 then decide (x≤l.n) else if l.op=2 then decide (l.n≤x) else if l.op=3 then x==l.n else if l.op=4 then x != l.n else false:=by
  rw[←hR];rfl
 clear hR
 by_cases q1:l.op=1
 ·have HE:Hid (R=decide (x≤l.n)):=by rw[hE,if_pos q1];rfl
  rw[q1];clear hE q1
  go_enter Tryz.func172,Tryz.ntmps172
  go_wp2
  go_ret
  exact⟨zAB HE.out.symm,zAA _ _⟩
 ·by_cases q2:l.op=2
  ·have HE:Hid (R=decide (l.n≤x)):=by rw[hE,if_neg q1,if_pos q2];rfl
   rw[q2];clear hE q1 q2
   go_enter Tryz.func172,Tryz.ntmps172
   go_wp2
   go_ret
   exact⟨zAB HE.out.symm,zAA _ _⟩
  ·by_cases q3:l.op=3
   ·have HE:Hid (R=(x==l.n)):=by rw[hE,if_neg q1,if_neg q2,if_pos q3];rfl
    rw[q3];clear hE q1 q2 q3
    go_enter Tryz.func172,Tryz.ntmps172
    go_wp2
    go_ret
    exact⟨zAB HE.out.symm,zAA _ _⟩
   ·by_cases q4:l.op=4
    ·have HE:Hid (R=(x != l.n)):=by rw[hE,if_neg q1,if_neg q2,if_neg q3,if_pos q4];rfl
     rw[q4];clear hE q1 q2 q3 q4
     go_enter Tryz.func172,Tryz.ntmps172
     go_wp2
     go_ret
     exact⟨zAB HE.out.symm,zAA _ _⟩
    ·have HE:Hid (R=false):=by rw[hE,if_neg q1,if_neg q2,if_neg q3,if_neg q4];rfl
     have g1:(l.op==1)=false:=by simpa using q1
     have g2:(l.op==2)=false:=by simpa using q2
     have g3:(l.op==3)=false:=by simpa using q3
     have g4:(l.op==4)=false:=by simpa using q4
     clear hE q1 q2 q3 q4
     go_enter Tryz.func172,Tryz.ntmps172
     go_wp2
     go_ret
     exact⟨zAB HE.out.symm,zAA _ _⟩
def zAX (vals:List Int) (v:Int):Int:=vals.getD v.toNat 0
def ownV (vars vals:List Int):List Int:=vars.map (zAX vals)
def sumV (consts own:List Int):Int:=(List.zipWith (· * ·) consts own).sum
def litB (vals:List Int) (l:MLit):Bool:=litV (zAX vals l.var) l
def maxV:List Int→Int
 | []=>0
 | a :: r=>r.foldl max a
def zAV (c:MCon) (vals:List Int):Bool :=
 if c.kind=1 then decide (sumV c.consts (ownV c.vars vals)≤c.n)
 else if c.kind=2 then sumV c.consts (ownV c.vars vals)==c.n
 else if c.kind=3 then sumV c.consts (ownV c.vars vals) != c.n
 else if c.kind=4 then decide (ownV c.vars vals).Nodup
 else if c.kind=5 then decide (0≤(ownV c.vars vals).getD 0 0)&&(decide ((ownV c.vars vals).getD 0 0<c.consts.length)&&(c.consts.getD ((ownV c.vars vals).getD 0 0).toNat 0==(ownV c.vars vals).getD 1 0))
 else if c.kind=6 then c.rows.any fun r=>decide (r=ownV c.vars vals)
 else if c.kind=7 then (ownV c.vars vals).getD 0 0 * (ownV c.vars vals).getD 1 0==(ownV c.vars vals).getD 2 0
 else if c.kind=8 then (ownV c.vars vals).getD 0 0==maxV ((ownV c.vars vals).drop 1)
 else if c.kind=9 then c.lits.any (litB vals)
 else if c.kind=10 then (ownV c.vars vals).getD 0 0==(if litB vals (c.lits.getD 0 ⟨0,0,0⟩) then 1 else 0)
 else false
theorem zCH (vals:List Int) (k:Nat) (x:Int) (h:vals[k]? = some x):zAX vals (k:Int)=x:=by
 unfold zAX;rw[Int.toNat_natCast,List.getD_eq_getElem?_getD,h];rfl
set_option maxHeartbeats 400000 in
theorem zKw (b:Bool) (w:World):Calls Tryz.prog 171 #[.bool b] w fun e w'=>e=.returned (.int .i64 (if b then 1 else 0))∧w'=w:=by
 cases b
 ·go_enter Tryz.func171,Tryz.ntmps171
  go_wp2
  go_ret
  exact⟨rfl,rfl⟩
 ·go_enter Tryz.func171,Tryz.ntmps171
  go_wp2
  go_ret
  exact⟨rfl,rfl⟩
theorem Tryz.infoInt0:(Tryz.prog.info? 3).map (fun i=>(i.zero,i.size,i.bytes))=some (some (.int .i64 0),1,8):=by kernel_rfl
theorem Tryz.underInts0:Tryz.prog.underlying 42=some (.slice 3):=by kernel_rfl
theorem zHM (n:Nat) (hn:n≤1000) (w:World):∃w',Sem.run Tryz.prog (Instr.makeSlice 42 (.int .i64 (n:Int)) (.int .i64 (n:Int))) w=.ok (.slice (some ⟨w.heap.size,0,none⟩) n n) w' ∧
 w'.ownsRow w.heap.size 3 1 (.slice (some ⟨w.heap.size,0,none⟩) n n) n (List.replicate n (.int .i64 0))∧Below w.heap.size w w':=by
 obtain⟨i0,hi,hz0,hz1,hz2⟩:=info_parts Tryz.infoInt0
 obtain⟨w',hrun,hown,hg⟩:=run_makeSlice_full w w.heap.size 42 3 i0 (.int .i64 0) 1 Tryz.underInts0 hi hz0 hz1 .i64 .i64 n (by omega) (by rw[hz2];omega) (by unfold maxLen;omega) (Nat.le_refl _)
 refine⟨w',hrun,?_,(Below.refl _ _).grown hg (Nat.le_refl _) (fun k h=>by cases h)⟩
 have:(Value.int .i64 0).cells=#[.int .i64 0]:=rfl
 rw[this,Nat.mul_one,toList_madeCells_one] at hown
 exact hown
theorem zCW {w:World} {base:Nat} {v:Value} {r:List Int} (h:w.ownsRow base 3 1 v r.length (r.map (Value.int .i64))):IArg w v r:=by
 rcases h.2 with ⟨rfl,hn⟩ | ⟨g,cap,cur,rfl,hg,hh,hc1,hc2,_,_⟩
 ·have:r=[]:=List.eq_nil_of_length_eq_zero hn
  subst this
  exact⟨none,0,rfl,⟨Nat.le_refl _,Nat.zero_le _⟩,fun i z hz=>by simp at hz⟩
 ·refine⟨_,cap,rfl,⟨hc1,hc2⟩,fun i z hz=>⟨g,0,rfl,(Array.getElem?_eq_some_iff.1 hh).1,?_⟩⟩
  have hi:i<r.length:=(List.getElem?_eq_some_iff.1 hz).1
  rw[Nat.zero_add,h.cellAt i (by omega),List.getElem?_map,hz];rfl
set_option maxHeartbeats 800000 in
set_option maxRecDepth 100000 in
theorem zKx (vars vals:List Int) (u v:Value) (w:World) (hu:IArg w u vars) (hv:IArg w v vals) (hn:vars.length≤4) (hr:∀x∈vars,0≤x∧x<vals.length) :
 Calls Tryz.prog 163 #[u,v] w fun e w'=>∃x,e=.returned x∧IArg w' x (ownV vars vals)∧Below w.heap.size w w':=by
 obtain⟨a,c,rfl,hm,h1⟩:=hu
 obtain⟨a',c',rfl,hm',h2⟩:=hv
 have HU:Hid (∀(i:Nat) (z:Int),vars[i]? = some z→∃b off,a=some ⟨b,off,none⟩∧b<w.heap.size∧w.cell? ⟨b,off+i,none⟩=some (.int .i64 z)):=h1
 have HV:Hid (∀(i:Nat) (z:Int),vals[i]? = some z→∃b off,a'=some ⟨b,off,none⟩∧b<w.heap.size∧w.cell? ⟨b,off+i,none⟩=some (.int .i64 z)):=h2
 have HR:Hid (∀x∈vars,0≤x∧x<vals.length):=hr
 unfold maxLen at hm hm'
 obtain⟨hm1,hm⟩:=hm
 obtain⟨hm1',hm'⟩:=hm'
 obtain⟨wm,hrun,hown,hbm⟩:=zHM vars.length (by omega) w
 have HOWN:Hid (wm.ownsRow w.heap.size 3 1 (.slice (some ⟨w.heap.size,0,none⟩) vars.length vars.length) vars.length (List.replicate vars.length (.int .i64 0))):=hown
 have HBM:Hid (Below w.heap.size w wm):=hbm
 clear h1 h2 hr hown hbm
 go_enter Tryz.func163,Tryz.ntmps163
 go_wp2_with fail
 clear hrun
 go_loopw [13] (fun i wr=>∃(k:Nat) (cells:List Value),k≤vars.length∧i=.int .i64 k∧wr.ownsRow w.heap.size 3 1 (.slice (some ⟨w.heap.size,0,none⟩) vars.length vars.length) vars.length cells∧Hid (cells.take k=((ownV vars vals).take k).map (Value.int .i64))∧Below w.heap.size w wr) (fun i _=>vars.length - (intOf i).toNat)
 case atStart=>exact⟨0,_,by omega,rfl,HOWN.out,rfl,HBM.out⟩
 case round =>
  obtain⟨k,cells,hk,rfl,hown,htk,hbw⟩:=hrel
  by_cases hlt:k<vars.length
  ·obtain⟨z,hz⟩:∃z,vars[k]? = some z:=⟨vars[k],by simp[hlt]⟩
   obtain⟨hz0,hz1⟩:=HR.out z (List.mem_of_getElem? hz)
   obtain⟨j,rfl⟩:∃j:Nat,z=(j:Int):=⟨z.toNat,by omega⟩
   have hjl:j<vals.length:=by omega
   obtain⟨x,hx⟩:∃x,vals[j]? = some x:=⟨vals[j],by simp[hjl]⟩
   have HO:Hid ((ownV vars vals)[k]? = some x):=by show _=_;unfold ownV;rw[List.getElem?_map,hz];show some _=_;rw[zCH vals j x hx]
   obtain⟨b,off,rfl,hb,hc⟩:=HU.out k _ hz
   obtain⟨b',off',rfl,hb',hd⟩:=HV.out j x hx
   have e1:=(hbw.cell (p:=⟨b,off+k,none⟩) hb).trans hc
   have e2:=(hbw.cell (p:=⟨b',off'+j,none⟩) hb').trans hd
   have hlen:cells.length=vars.length:=by have:=hown.1;omega
   obtain⟨y,hy⟩:∃y,cells[k]? = some y:=⟨cells[k]'(by omega),by simp⟩
   have e3:wr.cell? ⟨w.heap.size,k,none⟩=some y:=by rw[hown.cellAt k (by omega)];exact hy
   have e4:=hown.frozenAt k
   have HST:Hid ((wr.setCell ⟨w.heap.size,k,none⟩ (.int .i64 x)).ownsRow w.heap.size 3 1 (.slice (some ⟨w.heap.size,0,none⟩) vars.length vars.length) vars.length (cells.set k (.int .i64 x))):=(hown.stored k _).1
   have HTK:Hid ((cells.set k (.int .i64 x)).take (k+1)=((ownV vars vals).take (k+1)).map (Value.int .i64)):=by
    show _=_
    rw[List.take_add_one,List.take_add_one,HO.out,List.map_append,List.getElem?_set_self (by omega),List.take_set_of_le (Nat.le_refl _),htk.out];rfl
   have HBW:Hid (Below w.heap.size w (wr.setCell ⟨w.heap.size,k,none⟩ (.int .i64 x))):=hbw.setCell (Nat.le_refl _) _
   clear hz hx hc hd hb hb' hown htk hbw hz0 hz1 hlen hy
   go_wp2
   go_roundw
   case rel=>exact⟨k+1,_,by omega,by go_num,HST.out,HTK,HBW.out⟩
   case measure=>simp[intOf];omega
  ·have hks:k=vars.length:=by omega
   have hlen:cells.length=vars.length:=by have:=hown.1;omega
   have HC:Hid (cells=(ownV vars vals).map (Value.int .i64)):=by
    have h:=htk.out
    rwa [List.take_of_length_le (by omega),List.take_of_length_le (by unfold ownV;simp;omega)] at h
   have HF:Hid (IArg wr (.slice (some ⟨w.heap.size,0,none⟩) vars.length vars.length) (ownV vars vals)):=by
    rw[HC.out] at hown
    have:vars.length=(ownV vars vals).length:=by simp[ownV]
    rw[this] at hown ⊢
    exact zCW hown
   clear hks hlen hown htk
   go_wp2
   go_ret
   exact⟨_,rfl,HF.out,hbw⟩
end Go.Proofs.YtndcpnlaadikoaaGreatDoor
