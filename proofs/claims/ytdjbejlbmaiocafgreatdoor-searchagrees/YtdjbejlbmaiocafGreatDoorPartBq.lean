/- What the proof leans on, part 43. -/
import Derived.Test.YtdjbejlbmaiocafGreatDoorPartBp
namespace Go.Proofs.YtdjbejlbmaiocafGreatDoor
open Go.RowKit
theorem Tryz.infoInt7:(Tryz.prog.info? 3).map (fun i=>(i.zero,i.size,i.bytes))=some (some (.int .i64 0),1,8):=by kernel_rfl
theorem Tryz.underInts7:Tryz.prog.underlying 26=some (.slice 3):=by kernel_rfl
theorem Tryz.infoRow7:(Tryz.prog.info? 26).map (fun i=>(i.zero,i.size,i.bytes))=some (some (.slice none 0 0),1,24):=by kernel_rfl
theorem Tryz.underRows7:Tryz.prog.underlying 44=some (.slice 26):=by kernel_rfl
set_option maxHeartbeats 800000 in
set_option maxRecDepth 100000 in
theorem zIW (l:List Int) (hl:l.length≤200000) (u:Value) (w:World) (hu:IArg w u l) :
 Calls Tryz.prog 71 #[u] w fun e w'=>∃x,e=.returned x∧w'.ownsRow w.heap.size 3 1 x l.length (l.map (Value.int .i64))∧Below w.heap.size w w':=by
 obtain⟨i0,hi0,hz0,hz1,hz2⟩:=info_parts Tryz.infoInt7
 have q22:∀(w:World) (a:Option Addr) (n c n' c':Nat),(binOp .eql 26 (.slice a n c) (.slice none n' c')).run Tryz.prog w=.ok (.bool a.isNone) w:=fun w a n c n' c'=>Lib.run_eql_slice_nil w _ _ a n c n' c' Tryz.underInts7
 obtain⟨a,c,rfl,hm,hr⟩:=hu
 cases a with
 | none =>
   have:l=[]:=by
    cases l with
    | nil=>rfl
    | cons z r=>obtain⟨b,off,hq,_⟩:=hr 0 z rfl;cases hq
   subst this
   go_enter Tryz.func71,Tryz.ntmps71
   go_wp2
   go_ret
   exact⟨_,rfl,World.ownsRow_nil _ _ _ _,Below.refl _ _⟩
 | some ad =>
   have HL:Hid (l.length≤200000):=hl
   obtain⟨L,hLL⟩:∃L,l.map (Value.int .i64)=L:=⟨_,rfl⟩
   have HC:Hid (∀(j:Nat) (u:Value),L[j]? = some u→(w.alloc (.cells #[] 3)).cell? (ad.add j)=some u):=fun j y hy=>by
    rw[←hLL,List.getElem?_map] at hy
    cases hz:l[j]? with
    | none=>rw[hz] at hy;cases hy
    | some z =>
      rw[hz] at hy
      obtain⟨b,off,hq,hlt,hc⟩:=hr j z hz
      cases hq
      rw[zEJ]
      have:y=.int .i64 z:=by simpa using hy.symm
      rw[this]
      exact ((zAA w _).cell (p:=⟨b,off+j,none⟩) hlt).trans hc
   have H1:Hid (∀u∈L,u.oneCell'=true):=fun u hu=>by
    rw[←hLL] at hu
    obtain⟨z,_,rfl⟩:=List.mem_map.1 hu
    rfl
   have HFL:Hid (L.length=l.length * 1):=by show _=_;rw[←hLL];simp
   have HM0:Hid ((w.alloc (.cells #[] 3)).ownsRow w.heap.size 3 1 (.slice (some ⟨w.heap.size,0,none⟩) 0 0) 0 []):=World.ownsRow_made w #[] 0 (Nat.le_refl _) (Nat.zero_le _) (by simp)
   rw[hLL]
   clear hl hr hm hLL
   go_enter Tryz.func71,Tryz.ntmps71
   go_wp2_with (at_builtin;refine wpList_append_own _ rfl _ _ 26 rfl w.heap.size 3 i0 (.int .i64 0) 1 8 Tryz.underInts7 hi0 hz0 hz1 hz2 rfl (by decide) _ _ _ rfl HM0.out ad l.length c L rfl HFL.out HC.out H1.out ?c1 ?c2 ?c3 ?_)
   case c1=>have:=HL.out;unfold maxLen;omega
   case c2=>have:=HL.out;omega
   case c3=>simp
   intro v3 w3 hown3 hgrow _
   have HB3:Hid (Below w.heap.size w w3):=(zAA _ _).grown hgrow (by simp) (by intro k hk;simp[Value.ownBlock] at hk;omega)
   have HO3:Hid (w3.ownsRow w.heap.size 3 1 v3 l.length L):=by show World.ownsRow _ _ _ _ _ _ _;simpa using hown3
   obtain⟨av,cv,rfl⟩:=zAC hown3
   clear hown3 hgrow
   go_wp2
   go_ret
   exact⟨_,by simp,HO3.out,HB3.out⟩
def LLr (B:Nat) (w:World) (v:Value) (acc:List (List Int)):Prop :=
 ∃cells,w.ownsRow B 26 1 v acc.length cells∧∀(i:Nat) (r:List Int),acc[i]? = some r→∃x,cells[i]? = some x∧w.ownsRow B 3 1 x r.length (r.map (Value.int .i64))
theorem LLr.none (B:Nat) (w:World):LLr B w (.slice Option.none 0 0) []:=⟨[],World.ownsRow_nil _ _ _ _,fun i r h=>by simp at h⟩
theorem LLr.form {B:Nat} {w:World} {v:Value} {acc:List (List Int)} (h:LLr B w v acc):∃a c,v=.slice a acc.length c:=by
 obtain⟨cells,h1,_⟩:=h
 exact zAC h1
theorem LLr.at {B:Nat} {w w':World} {v:Value} {acc:List (List Int)} (h:LLr B w v acc) (hb:∀g,B≤g→g<w.heap.size→w'.heap[g]? = w.heap[g]?):LLr B w' v acc:=by
 obtain⟨cells,h1,h2⟩:=h
 refine⟨cells,zCK h1 fun g hg=>hb g (h1.lt g hg).1 (h1.lt g hg).2,fun i r hr=>?_⟩
 obtain⟨x,hx,ho⟩:=h2 i r hr
 exact⟨x,hx,zCK ho fun g hg=>hb g (ho.lt g hg).1 (ho.lt g hg).2⟩
theorem LLr.push {B:Nat} {w w':World} {v v' xv:Value} {x:List Int} {acc:List (List Int)} {cells:List Value} {o:Obj} (h:w.ownsRow B 26 1 v acc.length cells)
 (hc:∀(i:Nat) (r:List Int),acc[i]? = some r→∃x,cells[i]? = some x∧w.ownsRow B 3 1 x r.length (r.map (Value.int .i64))) (hx:w.ownsRow B 3 1 xv x.length (x.map (Value.int .i64)))
 (h':w'.ownsRow B 26 1 v' (acc.length+1) (cells++[xv])) (hg:(w.alloc o).grownBy w' v.ownBlock):LLr B w' v' (acc++[x]):=by
 have hlen:cells.length=acc.length:=by have:=h.1;omega
 refine⟨cells++[xv],by rw[List.length_append];exact h',fun i r hr=>?_⟩
 by_cases hi:i<acc.length
 ·rw[List.getElem?_append_left hi] at hr
  obtain⟨y,hy,ho⟩:=hc i r hr
  exact⟨y,by rw[List.getElem?_append_left (by omega)];exact hy,(ho.alloc _).kept hg (zBm ho h (by decide))⟩
 ·rw[List.getElem?_append_right (by omega)] at hr
  have hi0:i - acc.length=0:=by
   have:=(List.getElem?_eq_some_iff.1 hr).1
   simp at this;omega
  rw[hi0] at hr
  cases hr
  refine⟨xv,?_,(hx.alloc _).kept hg (zBm hx h (by decide))⟩
  rw[List.getElem?_append_right (by omega),show i - cells.length=0 by omega];rfl
theorem zJf (w:World) (z:Value):∀(j:Nat) (u:Value),[z][j]? = some u→(w.alloc (.cells #[z] 26)).cell? ((⟨w.heap.size,0,none⟩:Addr).add j)=some u:=by
 intro j u hj
 match j,hj with
 | 0,hj=>simp at hj;subst hj;simp[Addr.add]
set_option maxHeartbeats 3200000 in
set_option maxRecDepth 100000 in
theorem zJg (bO B:Nat) (s:List (List Int)) (vals:List Int) (hv6:vals.length≤6) (hs:s.length≤200) (v ov:Value) (w:World) (hv:IArg w v vals) (hO:w.heap[bO]? = some (.cells #[ov] 44)) (hl:LLr B w ov s) (hB:B≤w.heap.size) (hbO:bO<B) :
 Calls Tryz.prog 70 #[v,.pointer (some ⟨bO,0,none⟩)] w fun e w'=>Fr (fun k=>k=bO∨B≤k) w w'∧e=.returned (.bool (zCH s vals).1)∧∃ov',w'.heap[bO]? = some (.cells #[ov'] 44)∧LLr B w' ov' (zCH s vals).2:=by
 obtain⟨i0,hi,hz0,hz1,hz2⟩:=info_parts Tryz.infoRow7
 obtain⟨ao,co,hof⟩:=hl.form
 subst hof
 have HL:Hid (LLr B w (.slice ao s.length co) s):=hl
 have HO:Hid (w.heap[bO]? = some (.cells #[.slice ao s.length co] 44)):=hO
 have HV:Hid (∀Y,Below w.heap.size w Y→IArg Y v vals):=fun Y h=>IArg.below h hv
 have c0:w.cell? ⟨bO,0,none⟩=some (.slice ao s.length co):=blk9 hO 0 _ rfl
 have l0:bO<w.heap.size:=by omega
 obtain⟨av,cv,rfl,hmv,_⟩:=hv
 obtain⟨T,hT⟩:∃T,zCH s vals=T:=⟨_,rfl⟩
 rw[hT]
 have HT:Hid (zCH s vals=T):=hT
 clear hl hO hT
 by_cases h2:s.length=200
 ·have HR:Hid (T=(false,s)):=by show _=_;rw[←HT.out];unfold zCH;rw[if_pos h2]
  rw[h2] at c0
  go_enter Tryz.func70,Tryz.ntmps70
  go_wp2
  go_ret
  rw[HR.out]
  exact⟨Fr.refl _ _,rfl,_,HO.out,HL.out⟩
 ·have HR:Hid (T=(true,s++[vals])):=by show _=_;rw[←HT.out];unfold zCH;rw[if_neg h2]
  have h2':((s.length:Int)==200)=false:=by simp only[beq_eq_false_iff_ne,ne_eq];omega
  have h2'':(s.length==200)=false:=by simp only[beq_eq_false_iff_ne,ne_eq];omega
  obtain⟨cells,ho,hrows⟩:=HL.out
  have HOW:Hid (w.ownsRow B 26 1 (.slice ao s.length co) s.length cells):=ho
  have HRO:Hid (∀(i:Nat) (r:List Int),s[i]? = some r→∃x,cells[i]? = some x∧w.ownsRow B 3 1 x r.length (r.map (Value.int .i64))):=hrows
  have HNE:Hid (∀g,(Value.slice ao s.length co).ownBlock=some g→g≠bO):=fun g hg=>by have:=(ho.lt g hg).1;omega
  clear ho hrows
  go_enter Tryz.func70,Tryz.ntmps70
  go_wp2_with fail
  go_region_law
   (first
    | (rw[if_pos (by rfl)];refine zAg _ _ _ 44 rfl B 26 i0 _ 1 24 Tryz.underRows7 hi hz0 hz1 hz2 rfl (by decide) _ _ _ rfl ((zAD HOW.out hB3).alloc _) ⟨w3.heap.size,0,none⟩ 1 1 [.slice a3 vals.length d3] rfl rfl (zJf w3 (.slice a3 vals.length d3)) (by intro u hu;rcases List.mem_singleton.1 hu with rfl;rfl) ?_ ?_ ?_ ?_;(unfold maxLen;omega);omega;(simp;omega);intro v4 w4 hown4 hg4 hat4;obtain⟨a4,d4,hv4⟩:=zAC hown4;subst hv4;have hO4:w4.heap[bO]? = some (.cells #[.slice ao s.length co] 44):=(hg4.block bO (by simp;omega) (fun e=>HNE.out bO e.symm rfl)).trans (((zAA w3 _).block bO (by omega)).trans hO3)
       have k4:=blk9 hO4 0 _ rfl
       have f4:=frz9 hO4 0
       have l4:bO<w4.heap.size:=(Array.getElem?_eq_some_iff.1 hO4).1)
    | (rw[if_pos (by rfl)];go_simp;go_at_call 71;refine (zIW vals (by omega) _ _ (HV.out _ (Below.refl _ _).drew)).mono ?_;rintro e w3 ⟨x3,rfl,hx3,hb3⟩;obtain⟨a3,d3,hv3⟩:=zAC hx3;subst hv3;have hB3:Below w.heap.size w w3:=(Below.refl _ _).drew.trans hb3;have hO3:=(hB3.block bO l0).trans HO.out;have k3:=blk9 hO3 0 _ rfl;have l3:bO<w3.heap.size:=Nat.lt_of_lt_of_le l0 hB3.size;have s3:=hB3.size;dsimp only))
  all_goals
   have HG4:Hid ((w3.alloc (.cells #[.slice a3 vals.length d3] 26)).grownBy w4 (Value.slice ao s.length co).ownBlock):=hg4
   have HX3:Hid (w3.ownsRow B 3 1 (.slice a3 vals.length d3) vals.length (vals.map (Value.int .i64))):=hx3.mono hB
   have HO4:Hid (w4.heap[bO]? = some (.cells #[.slice ao s.length co] 44)):=hO4
   have HB3:Hid (Below w.heap.size w w3):=hB3
   have HW4:Hid (w4.ownsRow B 26 1 (.slice a4 (s.length+1) d4) (s.length+1) (cells++[.slice a3 vals.length d3])):=hown4
   clear hg4 hat4 hown4 hx3 hb3 hO4 hB3 hO3 k3 k4 f4
   go_wp2
   go_ret
   have hlr:=LLr.push (zAD HOW.out HB3.out) (fun i r hr=>by obtain⟨y,hy,hoy⟩:=HRO.out i r hr;exact⟨y,hy,zAD hoy HB3.out⟩) HX3.out HW4.out HG4.out
   rw[HR.out]
   refine⟨?_,rfl,.slice a4 (s.length+1) d4,by rw[heap_setCell_same w4 bO 0 _ _ _ HO4.out];rfl,hlr.at fun g h1 h2=>Below.heap_setCell _ _ _ _ (by simp only;omega)⟩
   have hfx:Fr (fun k=>k=bO∨B≤k) w w4:=((Fr.below HB3.out).alloc _).grown HG4.out fun k hk=>Or.inl (Or.inr (HOW.out.lt k hk).1)
   exact Fr.setX (p:=⟨bO,0,none⟩) hfx (Or.inl rfl) _
theorem zBr.fr {X:Nat→Prop} {w w':World} {B n:Nat} {cells:List Value} {M:List (List KV)} (h:zBr w B n cells M) (hf:Fr X w w') (hX:∀k,X k→k<B):zBr w' B n cells M:=by
 obtain⟨h1,h0,h2,h3⟩:=h
 refine⟨zCI h1 hf fun g hg hx=>?_,h0,fun i r hr=>?_,h3⟩
 ·have:=(h1.lt g hg).1;have:=hX g hx;omega
 ·obtain⟨y,hy,hoy⟩:=h2 i r hr
  exact⟨y,hy,zCI hoy hf fun g hg hx=>by have:=(hoy.lt g hg).1;have:=hX g hx;omega⟩
structure LsC (w0 W2:World) (q:EaB) (bO:Nat) (m:Mod) (cells:List Value) (M:List (List KV)):Prop where
 b0:Below w0.heap.size w0 W2
 bOw:w0.heap.size≤bO
 bOl:bO<W2.heap.size
 qR:q.bR=W2.heap.size
 qV:q.bV=W2.heap.size+1
 qB:q.bB=W2.heap.size+2
 qF:q.bF=W2.heap.size+3
 qN:q.N=W2.heap.size
 qT:q.FT=70
 qc:q.c1=.pointer (some ⟨bO,0,none⟩)
 cT:W2.cell? ⟨q.bT,0,none⟩=some (.func (.func q.FT) #[] #[q.c1])
 nT:q.bT≠bO
 cM:W2.cell? ⟨q.bM,0,none⟩=some q.sv
 nM:q.bM≠bO
 cD:W2.cell? ⟨q.bD,0,none⟩=some (.slice (some ⟨q.B,0,none⟩) m.vars.length m.vars.length)
 nD:q.bD≠bO
 mv:VArg w0 q.sv m.vars
 gk:zBr W2 q.B m.vars.length cells M
 nB:bO<q.B
 ko:∀r∈M,∀x∈r,KOk w0 x
 du:∀(v:Nat) (r:List KV),M[v]? = some r→r.map (·.c)=dueP m.cons v
 dv:∀v,v<m.vars.length→cells[v]? = some (q.dv v)
 n6:m.vars.length≤6
structure LsJ (W2:World) (q:EaB) (bO:Nat) (m:Mod) (s:List (List Int)) (vals:List Int) (w:World):Prop where
 fr:Fr (fun k=>k=bO) W2 w
 len:vals.length=m.vars.length
 own:w.ownsRow q.N 3 1 (.slice (some ⟨q.bR,0,none⟩) m.vars.length m.vars.length) m.vars.length (vals.map (Value.int .i64))
 cV:w.cell? ⟨q.bV,0,none⟩=some (.slice (some ⟨q.bR,0,none⟩) m.vars.length m.vars.length)
 cB:w.cell? ⟨q.bB,0,none⟩=some (.func (.func 130) #[] #[.pointer (some ⟨q.bV,0,none⟩)])
 cF:w.cell? ⟨q.bF,0,none⟩=some (.func (.func 131) #[] q.caps)
 out:∃ov,w.heap[bO]? = some (.cells #[ov] 44)∧LLr (W2.heap.size+4) w ov s
 n1:W2.heap.size+4≤w.heap.size
 cap:s.length≤200
theorem LsJ.below0 {w0 W2:World} {q:EaB} {bO:Nat} {m:Mod} {cells:List Value} {M:List (List KV)} (hc:LsC w0 W2 q bO m cells M) {s:List (List Int)} {vals:List Int} {w:World} (h:LsJ W2 q bO m s vals w):Below w0.heap.size w0 w :=
 ⟨h.fr.os.trans hc.b0.os,h.fr.tape.trans hc.b0.tape,h.fr.output.trans hc.b0.output,Nat.le_trans hc.b0.size h.fr.size,fun k hk=>(h.fr.block k (Nat.lt_of_lt_of_le hk hc.b0.size) (by have:=hc.bOw;omega)).trans (hc.b0.block k hk)⟩
theorem LsJ.at9 {w0 W2:World} {q:EaB} {bO:Nat} {m:Mod} {cells:List Value} {M:List (List KV)} (hc:LsC w0 W2 q bO m cells M) {s:List (List Int)} {vals:List Int} {w:World} (h:LsJ W2 q bO m s vals w):EaAt q m.vars m.cons vals w where
 len:=h.len
 own:=h.own
 cV:=h.cV
 cT:=(h.fr.cell (p:=⟨q.bT,0,none⟩) (World.block_lt_of_cell? W2 _ hc.cT) hc.nT).trans hc.cT
 cM:=(h.fr.cell (p:=⟨q.bM,0,none⟩) (World.block_lt_of_cell? W2 _ hc.cM) hc.nM).trans hc.cM
 mv:=VArg.below (h.below0 hc) hc.mv
 cD:=(h.fr.cell (p:=⟨q.bD,0,none⟩) (World.block_lt_of_cell? W2 _ hc.cD) hc.nD).trans hc.cD
 due:=fun v hv=>by
  have hg:=hc.gk.fr h.fr (fun k hk=>by subst hk;exact hc.nB)
  have hM:v<M.length:=by rw[hg.2.1];exact hv
  obtain⟨x,h1,h2,h3⟩:=hg.carg (h.below0 hc) hc.ko v M[v] (List.getElem?_eq_getElem hM)
  have h4:w.cell? ⟨q.B,v,none⟩=some (q.dv v):=by rw[hg.1.cellAt v (by omega)];exact hc.dv v hv
  rw[h4] at h1
  cases h1
  rw[hc.du v M[v] (List.getElem?_eq_getElem hM)] at h3
  exact⟨h4,h3⟩
 cB:=h.cB
 cF:=h.cF
theorem LsJ.step {w0 W2:World} {q:EaB} {bO:Nat} {m:Mod} {cells:List Value} {M:List (List KV)} (hc:LsC w0 W2 q bO m cells M) {s s':List (List Int)} {vals:List Int} {w w':World} (h:LsJ W2 q bO m s vals w)
 (hf:Fr (fun k=>k=bO∨W2.heap.size+4≤k) w w') (ho:∃ov,w'.heap[bO]? = some (.cells #[ov] 44)∧LLr (W2.heap.size+4) w' ov s') (hs:s'.length≤200):LsJ W2 q bO m s' vals w' where
 fr:=⟨hf.os.trans h.fr.os,hf.tape.trans h.fr.tape,hf.output.trans h.fr.output,Nat.le_trans h.fr.size hf.size,fun k hk hx=>(hf.block k (Nat.lt_of_lt_of_le hk h.fr.size) (by intro hy;rcases hy with hy | hy;exact hx hy;omega)).trans (h.fr.block k hk hx)⟩
 len:=h.len
 own:=zCI h.own hf (fun g hg hx=>by
  have:q.bR=g:=by simpa[Value.ownBlock] using hg
  have:=hc.qR;have:=hc.bOl
  rcases hx with hx | hx <;> omega)
 cV:=(hf.cell (p:=⟨q.bV,0,none⟩) (World.block_lt_of_cell? w _ h.cV) (by have:=hc.qV;have:=hc.bOl;simp only;omega)).trans h.cV
 cB:=(hf.cell (p:=⟨q.bB,0,none⟩) (World.block_lt_of_cell? w _ h.cB) (by have:=hc.qB;have:=hc.bOl;simp only;omega)).trans h.cB
 cF:=(hf.cell (p:=⟨q.bF,0,none⟩) (World.block_lt_of_cell? w _ h.cF) (by have:=hc.qF;have:=hc.bOl;simp only;omega)).trans h.cF
 out:=ho
 n1:=Nat.le_trans h.n1 hf.size
 cap:=hs
theorem zJh (s:List (List Int)) (x:List Int) (h:s.length≤200):(zCH s x).2.length≤200:=by
 unfold zCH
 split
 ·exact h
 ·rw[List.length_append];simp;omega
theorem zJi {w0 W2:World} {q:EaB} {bO:Nat} {m:Mod} {cells:List Value} {M:List (List KV)} (hc:LsC w0 W2 q bO m cells M):Told9 q m.vars m.cons zCH (LsJ W2 q bO m) where
 enters:=fun args w'=>by
  rw[hc.qT]
  simp[callFunc,go_sem,Tryz.func70,Tryz.f70]
 at9:=fun s vals w h=>h.at9 hc
 below:=fun s vals w w' h hb=>h.step hc (Fr.below hb) (by
  obtain⟨ov,h1,h2⟩:=h.out
  exact⟨ov,(hb.block bO (Array.getElem?_eq_some_iff.1 h1).1).trans h1,h2.at fun g _ hg=>hb.block g hg⟩) h.cap
 set:=fun s vals w v x h hv=>{
  fr:=h.fr.setNew (p:=⟨q.bR,v,none⟩) (by have:=hc.qR;simp only;omega) _
  len:=by rw[List.length_set];exact h.len
  own:=by
   have:=(h.own.stored v (.int .i64 x)).1
   rwa [←List.map_set] at this
  cV:=(World.cell?_of_block (w:=w) (Below.heap_setCell _ _ _ _ (by have:=hc.qR;have:=hc.qV;simp only;omega))).trans h.cV
  cB:=(World.cell?_of_block (w:=w) (Below.heap_setCell _ _ _ _ (by have:=hc.qR;have:=hc.qB;simp only;omega))).trans h.cB
  cF:=(World.cell?_of_block (w:=w) (Below.heap_setCell _ _ _ _ (by have:=hc.qR;have:=hc.qF;simp only;omega))).trans h.cF
  out:=by
   obtain⟨ov,h1,h2⟩:=h.out
   exact⟨ov,(Below.heap_setCell _ _ _ _ (by have:=hc.qR;have:=hc.bOl;simp only;omega)).trans h1,h2.at fun g hg _=>Below.heap_setCell _ _ _ _ (by have:=hc.qR;simp only;omega)⟩
  n1:=by simpa using h.n1
  cap:=h.cap }
 call:=fun s vals w h=>by
  obtain⟨ov,h1,h2⟩:=h.out
  rw[hc.qT,hc.qc]
  have ho:=h.own
  rw[←h.len] at ho ⊢
  refine (zJg bO (W2.heap.size+4) s vals (by have:=hc.n6;have:=h.len;omega) h.cap _ ov w (zCf ho) h1 h2 h.n1 (by have:=hc.bOl;omega)).mono ?_
  rintro e w' ⟨hf,rfl,ho'⟩
  exact⟨rfl,h.step hc hf ho' (zJh s vals h.cap)⟩
end Go.Proofs.YtdjbejlbmaiocafGreatDoor
