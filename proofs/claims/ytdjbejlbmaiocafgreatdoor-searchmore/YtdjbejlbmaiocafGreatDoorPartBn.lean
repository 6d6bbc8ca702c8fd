/- What the proof leans on, part 40. -/
import Derived.Test.YtdjbejlbmaiocafGreatDoorPartAq
import Derived.Test.YtdjbejlbmaiocafGreatDoorPartAn
import Derived.Lib.AppendZerosOnto
import Derived.Lib.SliceRun
import Derived.Test.YtdjbejlbmaiocafGreatDoorPartBm
namespace Go.Proofs.YtdjbejlbmaiocafGreatDoor
open Go.RowKit Go.Lib
theorem zEn (w:World) (o:Obj):(w.alloc o).heap[w.heap.size]? = some o:=by
 show (w.heap.push o)[w.heap.size]? = some o
 simp
theorem zDg {P:Program} {w:World} {ops:Array Oper} {rest:List Oper} {o:Oper} {a:Act} {Q:Exit→Act→World→Prop} (hgd:o.guard=none) (s x:Operand) (t1 t2:TypeId)
 (ho:o.op=.call { callee:=.builtin .append,args:=#[s,x],argTypes:=#[t1,t2] }) (v u v':Value) (w':World) (hs:a.eval s=v) (hx:a.eval x=u)
 (hr:∀ty,(Builtin.append_ #[t1,t2] ty #[v,u]).run P w=.ok v' w') (h:wpList P ops Q rest (a.put o.dst v') w'):wpList P ops Q (o :: rest) a w :=
 wpList_plain hgd fun _ hK=>by
  unfold Oper.wp execOp
  simp only[ho,resolve,invoke,builtin,Sem.run_bind,Sem.run_pure,Result.andThen_ok,List.map_toArray,List.map_cons,List.map_nil,hs,hx,hr]
  exact hK _ _ h
set_option maxHeartbeats 1600000 in
set_option maxRecDepth 100000 in
theorem zKo (n:Nat) (hn:n≤1000) (w:World) :
 Calls Tryz.prog 200 #[.slice none 0 0,.int .i64 n] w fun e w'=>∃x,e=.returned x∧w'.ownsRow w.heap.size 3 1 x 0 []∧Below w.heap.size w w':=by
 obtain⟨i0,hi,hz0,hz1,hz2⟩:=info_parts Tryz.infoInt0
 by_cases h0:n=0
 ·subst h0
  go_enter Tryz.func200,Tryz.ntmps200
  go_wp2
  go_ret
  exact⟨_,rfl,World.ownsRow_nil _ _ _ _,Below.refl _ _⟩
 ·have hold:(Builtin.firstCells i0.size 0 (.slice none 0 0)).run Tryz.prog w.drew=.ok ([]:List Value).toArray w.drew:=run_firstCells_none w.drew i0.size 0 0 0
  obtain⟨G,hG⟩:∃G,grownCap w n 0 3=G:=⟨_,rfl⟩
  have hrz:∀ty,(Builtin.append_ #[26,3] ty #[.slice none 0 0,.int .i64 (n:Int)]).run Tryz.prog w=.ok (.slice (some ⟨w.heap.size,0,none⟩) n G) (w.drew.alloc (.cells (Builtin.zeroCells (Value.int .i64 0).cells n++Builtin.zeroCells (Value.int .i64 0).cells (G - n)) 3)):=fun ty=>by
   have hf:Builtin.nextslicecap (0+n) 0 * i0.bytes≤281474976710656:=growslice_fits (by omega) (by rw[hz2];omega)
   have h:=Lib.run_append_grow_zeros w 26 3 ty 3 i0 (.int .i64 0) .i64 .i64 Tryz.underlying26 Tryz.underlying3 hi hz0 none 0 0 [] hold n (by omega) (by omega) (by omega) (by omega) (by rw[hz2];omega) hf
   rw[Nat.zero_add,hG] at h
   simpa using h
  have hGn:n≤G:=by rw[←hG];exact grownCap_ge w _ _ _
  have hG63:G≤maxLen:=by rw[←hG];exact grownCap_le_maxLen w _ 0 _ (by unfold maxLen;omega)
  have h1:¬((n:Int)<0):=by omega
  have h2:(n:Int) > 0:=by omega
  have h3:¬n=0:=h0
  have HO:Hid ((w.drew.alloc (.cells (Builtin.zeroCells (Value.int .i64 0).cells n++Builtin.zeroCells (Value.int .i64 0).cells (G - n)) 3)).ownsRow w.heap.size 3 1 (.slice (some ⟨w.heap.size,0,none⟩) 0 G) 0 []):=by
   refine⟨rfl,.inr ⟨w.heap.size,G,_,rfl,Nat.le_refl _,zEn _ _,Nat.zero_le _,hG63,?_,by simp⟩⟩
   simp[Builtin.zeroCells,Value.cells]
   omega
  have hG64:G≤9223372036854775807:=by unfold maxLen at hG63;exact hG63
  clear hold hG hG63
  go_enter Tryz.func200,Tryz.ntmps200
  go_wp2_with (at_builtin;refine zDg rfl _ _ _ _ rfl _ _ _ _ rfl rfl hrz ?_)
  go_ret
  exact⟨_,rfl,HO.out,(Below.refl _ _).drew.alloc (Nat.le_refl _) _⟩
theorem zGV (s:Sto) (k:Nat) (x:List Int) (h:s[k]? = some x):(s.take (k+1)).flatten=(s.take k).flatten++x:=by
 rw[List.take_add_one,h];simp
theorem zJd (s:Sto) (hs:s.length≤6) (hr:∀r∈s,r.length≤100) (k:Nat):(s.take k).flatten.length≤600:=by
 have:∀(l:Sto),(∀r∈l,r.length≤100)→l.flatten.length≤100 * l.length:=by
  intro l
  induction l with
  | nil=>intro _;simp
  | cons x r ih =>
    intro h
    rw[List.flatten_cons,List.length_append,List.length_cons]
    have:=ih fun y hy=>h y (List.mem_cons_of_mem _ hy)
    have:=h x (List.mem_cons_self ..)
    omega
 have h1:=this (s.take k) fun r hr2=>hr r (List.mem_of_mem_take hr2)
 have:(s.take k).length≤6:=by rw[List.length_take];omega
 omega
set_option maxHeartbeats 1600000 in
set_option maxRecDepth 100000 in
theorem zIU (s:Sto) (hs:s.length≤6) (hr6:∀r∈s,r.length≤100) (v:Value) (w:World) (hv:RArg w v s) :
 Calls Tryz.prog 116 #[v] w fun e w'=>∃x,e=.returned x∧w'.ownsRow w.heap.size 3 1 x s.flatten.length (s.flatten.map (Value.int .i64))∧Below w.heap.size w w':=by
 have HRA:Hid (∀Y,Below w.heap.size w Y→RArg Y v s):=fun Y hY=>RArg.below hY hv
 obtain⟨a,c,rfl,hl,hr⟩:=hv
 have HV:Hid (∀(i:Nat) (r:List Int),s[i]? = some r→∃b off x,a=some ⟨b,off,none⟩∧b<w.heap.size∧w.cell? ⟨b,off+i,none⟩=some x∧IArg w x r):=hr
 have HR6:Hid (∀k,(s.take k).flatten.length≤600):=zJd s hs hr6
 have HFA:Hid ((s.take s.length).flatten=s.flatten):=by show _=_;rw[List.take_length]
 unfold maxLen at hl
 obtain⟨hl1,hl⟩:=hl
 clear hr hr6
 go_enter Tryz.func116,Tryz.ntmps116
 go_wp2_with fail
 go_loopw [3,11] (fun sz i wr=>∃k:Nat,k≤s.length∧i=.int .i64 k∧sz=.int .i64 ((s.take k).flatten.length:Nat)∧wr=w) (fun _ i _=>s.length - (intOf i).toNat)
 case atStart=>exact⟨0,by omega,rfl,rfl,rfl⟩
 case round =>
  obtain⟨k,hk,rfl,rfl,rfl⟩:=hrel
  by_cases hlt:k<s.length
  ·obtain⟨x,hx⟩:∃x,s[k]? = some x:=⟨s[k],by simp[hlt]⟩
   have HF:Hid ((s.take (k+1)).flatten.length=(s.take k).flatten.length+x.length):=by show _=_;rw[zGV s k x hx,List.length_append]
   have hx1:=HR6.out (k+1)
   rw[HF.out] at hx1
   obtain⟨bb,off,y,hax,hlb,hc,a5,c5,rfl,⟨hm5,hm6⟩,_⟩:=HV.out k x hx
   subst hax
   unfold maxLen at hm6
   obtain⟨q,hq⟩:∃q,(s.take k).flatten.length=q:=⟨_,rfl⟩
   rw[hq] at HF hx1 ⊢
   clear hx hq
   go_wp2
   go_roundw
   case rel=>exact⟨k+1,by omega,by go_num,by rw[HF.out];go_num,trivial⟩
   case measure=>simp[intOf];omega
  ·have hks:k=s.length:=by omega
   subst hks
   have hx1:=HR6.out s.length
   obtain⟨q,hq⟩:∃q,(s.take s.length).flatten.length=q:=⟨_,rfl⟩
   rw[hq] at hx1 ⊢
   clear hq hlt hk
   obtain⟨wo,rfl⟩:∃wo:World,wo=wr:=⟨_,rfl⟩
   go_wp2_with fail
   refine (zKo q (by omega) _).mono ?_
   rintro e w1 ⟨x,rfl,hox,hb1⟩
   obtain⟨ax,cx,rfl⟩:=zAC hox
   have HOX:Hid (w1.ownsRow wo.heap.size 3 1 (.slice ax 0 cx) 0 []):=hox
   have HB1:Hid (Below wo.heap.size wo w1):=hb1
   clear hox hb1
   go_wp2_with fail
   go_loopw [6,27] (fun nv i wy=>∃k:Nat,k≤s.length∧i=.int .i64 k∧wy.ownsRow wo.heap.size 3 1 nv (s.take k).flatten.length ((s.take k).flatten.map (Value.int .i64))∧Below wo.heap.size wo wy) (fun _ i _=>s.length - (intOf i).toNat)
   case atStart=>exact⟨0,by omega,rfl,HOX.out,HB1.out⟩
   case round =>
    obtain⟨k,hk,rfl,hnv,hbw⟩:=hrel
    obtain⟨an,cn,rfl⟩:=zAC hnv
    have HNV:Hid (wr.ownsRow wo.heap.size 3 1 (.slice an (s.take k).flatten.length cn) (s.take k).flatten.length ((s.take k).flatten.map (Value.int .i64))):=hnv
    have HBW:Hid (Below wo.heap.size wo wr):=hbw
    have hbs:=hbw.size
    clear hnv hbw
    by_cases hlt:k<s.length
    ·obtain⟨x,hx⟩:∃x,s[k]? = some x:=⟨s[k],by simp[hlt]⟩
     have HF:Hid ((s.take (k+1)).flatten=(s.take k).flatten++x):=zGV s k x hx
     have hx1:=HR6.out (k+1)
     rw[HF.out,List.length_append] at hx1
     obtain⟨bb,off,y,hax,hlb,hc0,hix⟩:=HV.out k x hx
     subst hax
     have hc:=(HBW.out.cell (p:=⟨bb,off+k,none⟩) hlb).trans hc0
     have HIX:Hid (IArg wr y x):=IArg.below HBW.out hix
     obtain⟨a5,c5,rfl,⟨hm5,hm6⟩,_⟩:=hix
     obtain⟨acc,hacc⟩:∃acc,(s.take k).flatten=acc:=⟨_,rfl⟩
     rw[hacc] at HF hx1 HNV ⊢
     clear hx hacc hc0
     go_wp2_with (at_builtin;refine zBG rfl _ _ rfl wo.heap.size _ acc rfl HNV.out _ x rfl HIX.out (by omega) hbs ?_)
     intro v3 w3 hown3 hg3 _
     have HB3:Hid (Below wo.heap.size wo w3):=HBW.out.grown hg3 hbs (fun k h=>(HNV.out.lt k h).1)
     have HO3:Hid (w3.ownsRow wo.heap.size 3 1 v3 (acc++x).length ((acc++x).map (Value.int .i64))):=by
      show World.ownsRow _ _ _ _ _ _ _
      rw[List.length_append,List.map_append];exact hown3
     clear hown3 hg3
     go_wp2
     go_roundw
     case rel=>exact⟨k+1,by omega,by go_num,by rw[HF.out];exact HO3.out,HB3.out⟩
     case measure=>simp[intOf];omega
    ·have hks:k=s.length:=by omega
     subst hks
     rw[HFA.out] at HNV ⊢
     go_wp2
     go_ret
     exact⟨_,rfl,HNV.out,HBW.out⟩
open Go.RowKit Go.Maps
theorem zFo {p:Nat→Prop} (h:∃n,p n):∃n,p n∧∀m,p m→n≤m:=by
 obtain⟨n,hn⟩:=h
 have:∀(k n:Nat),n≤k→p n→∃n,p n∧∀m,p m→n≤m:=by
  intro k
  induction k with
  | zero=>intro n hk hn;exact⟨n,hn,fun m _=>by omega⟩
  | succ k ih =>
    intro n hk hn
    by_cases h:∃m,p m∧m<n
    ·obtain⟨m,hm,hlt⟩:=h
     exact ih m (by omega) hm
    ·refine⟨n,hn,fun m hm=>?_⟩
     apply Classical.byContradiction
     intro hl
     exact h ⟨m,hm,by omega⟩
 exact this n n (Nat.le_refl _) hn
open Classical in
noncomputable def zB3 (p:Nat→Prop):Nat:=if h:∃n,p n then Classical.choose (zFo h) else 0
theorem zDu {p:Nat→Prop} (h:∃n,p n):p (zB3 p):=by
 unfold zB3
 rw[dif_pos h]
 exact (Classical.choose_spec (zFo h)).1
theorem zCl {p:Nat→Prop} {n:Nat} (h:p n):zB3 p≤n:=by
 have he:∃n,p n:=⟨n,h⟩
 unfold zB3
 rw[dif_pos he]
 exact (Classical.choose_spec (zFo he)).2 n h
structure SkO (vs:List MVar) (S:Sk):Prop where
 prf:S.proof.length≤6000
 cs:S.cs.length+S.fuel≤1000
 path:zEY vs S.path
theorem zLU (vs:List MVar) (pt:List (List Nat)) (S:Sk) (h:SkO vs S) (h0:(zAk vs pt S).1=0):SkO vs (zAk vs pt S).2:=by
 unfold zAk at h0 ⊢
 split
 ·rename_i hc;rw[if_pos hc] at h0;cases h0
 ·rename_i hc0
  rw[if_neg hc0] at h0
  split
  ·rename_i hc;rw[if_pos hc] at h0;cases h0
  ·rename_i hc1
   rw[if_neg hc1] at h0
   split
   ·rename_i hc;rw[if_pos hc] at h0;cases h0
   ·refine⟨by simp only;omega,?_,zI8 vs _ h.path _⟩
    have:=h.cs
    simp only[List.length_append,List.length_singleton]
    omega
theorem zLk (vs:List MVar) (hv:zAW vs) (pt:List (List Nat)) (S:Sk) (h:SkO vs S) (hf:¬zAp (zAP vs (zAT vs pt S))<0):SkO vs (zCY (zAP vs (zAT vs pt S)) S) :=
 ⟨h.prf,h.cs,zKM vs hv pt S h.path hf⟩
def NxI (W w:World) (s r mb:Nat) (sv pv:Value) (vs:List MVar) (pt:List (List Nat)) (R:Int×List Int×Sk) (wr:World) (n:Nat):Prop :=
 ∃(S:Sk) (cv prv pav:Value) (L:List SV),zBZ vs S=n∧zA4 vs pt S=R∧SkO vs S∧SkD W wr s r mb sv pv cv prv pav L (S.proof.map fun x=>zAR vs x.cla) S∧TFr w wr
set_option maxHeartbeats 6400000 in
set_option maxRecDepth 100000 in
theorem zJe (vs:List MVar) (hva:zAH vs) (hn1:1≤vs.length) (pt:List (List Nat)) (W:World) (s r mb:Nat) (sv pv cv prv pav:Value) (hB:SkB W s r mb sv pv vs pt) (L:List SV) (S:Sk) (hS:SkO vs S) (w:World)
 (hD:SkD W w s r mb sv pv cv prv pav L (S.proof.map fun x=>zAR vs x.cla) S) :
 Calls Tryz.prog 58 #[.pointer (some ⟨s,0,none⟩)] w fun e w'=>∃x,e=.returned (.tuple #[.int .i64 (zA4 vs pt S).1,x])∧w'.ownsRow w.heap.size 3 1 x (zA4 vs pt S).2.1.length ((zA4 vs pt S).2.1.map (Value.int .i64))∧TFr w w' ∧
  ∃cv' prv' pav' L',SkD W w' s r mb sv pv cv' prv' pav' L' ((zA4 vs pt S).2.2.proof.map fun x=>zAR vs x.cla) (zA4 vs pt S).2.2:=by
 obtain⟨R,hR⟩:∃R,zA4 vs pt S=R:=⟨_,rfl⟩
 rw[hR]
 obtain⟨i0,hi0,hz0,hz1,hz2⟩:=info_parts Tryz.infoLit
 have HVO:Hid (zAH vs):=hva
 have HSB:Hid (SkB W s r mb sv pv vs pt):=hB
 have HI:Hid (∃n,NxI W w s r mb sv pv vs pt R w n):=⟨_,S,cv,prv,pav,L,rfl,hR,hS,hD,TFr.refl _⟩
 obtain⟨asv,csv,hsv⟩:∃a c,sv=.slice a vs.length c:=by obtain⟨a,c,h,_⟩:=(hB.keep w hD.fr).1;exact⟨a,c,h⟩
 subst hsv
 clear hD hB hva hR hS
 go_enter Tryz.func58,Tryz.ntmps58
 go_wp2_with fail
 go_loopw [] (fun wr=>∃n,NxI W w s r mb (.slice asv vs.length csv) pv vs pt R wr n) (fun wr=>zB3 (NxI W w s r mb (.slice asv vs.length csv) pv vs pt R wr))
 case atStart=>exact HI.out
 case round =>
  have hsp:=zDu hrel
  obtain⟨N,hN⟩:∃N,zB3 (NxI W w s r mb (.slice asv vs.length csv) pv vs pt R wr)=N:=⟨_,rfl⟩
  have HN:Hid (zB3 (NxI W w s r mb (.slice asv vs.length csv) pv vs pt R wr)=N):=hN
  rw[hN] at hsp
  clear hrel HI hN
  obtain⟨S',cv',prv',pav',L',hop,hnx,hok,hd,htf⟩:=hsp
  have HOP:Hid (zBZ vs S'=N):=hop
  have HNX:Hid (zA4 vs pt S'=R):=hnx
  have HOK:Hid (SkO vs S'):=hok
  have HD:Hid (SkD W wr s r mb (.slice asv vs.length csv) pv cv' prv' pav' L' (S'.proof.map fun x=>zAR vs x.cla) S'):=hd
  have HTF:Hid (TFr w wr):=htf
  obtain⟨apa,cpa,rfl⟩:=zAC hd.path
  obtain⟨s0,s1,s2,s3,s4,s5,s6⟩:=hd.cells
  have hp36:=zKL vs _ hok.path
  obtain⟨l,hl⟩:∃l,zAT vs pt S'=l:=⟨_,rfl⟩
  have HL:Hid (zAT vs pt S'=l):=hl
  have HLE:Hid (∀Z,Below wr.heap.size wr Z→Calls Tryz.prog 112 #[.pointer (some ⟨r,0,none⟩),.slice apa S'.path.length cpa] Z fun e w'=>e=.returned (.int .u64 (l:Int))∧Below Z.heap.size Z w'):=fun Z hZ=>by
   rw[←hl]
   exact zGQ vs HVO.out hn1 S'.cs pt S'.path r _ pv cv' _ Z ((hd.below hZ).rules HSB.out) (LOwn.arg (hd.below hZ).path)
  have hst:=zDM vs HVO.out.1 pt S'
  rw[hnx,hl] at hst
  have hwl:∀i,l.testBit i=true→(zAG vs).testBit i=true:=fun i hi=>by rw[←hl] at hi;exact (zCj vs HVO.out.1 _ _ _ i hi).1
  have HWL:Hid (∀i,l.testBit i=true→(zAG vs).testBit i=true):=hwl
  have HST:=(show Hid _ from hst)
  clear hop hnx hok hd htf hl hst hwl
  go_wp2_with fail
  go_region_law
   (first
    | (rw[if_pos (by rfl)];go_simp;go_at_call 112;refine (HLE.out _ (Below.refl _ _).drew).mono ?_;rintro e w2 ⟨rfl,hb2⟩;have hB2:Below wr.heap.size wr w2:=(Below.refl _ _).drew.trans hb2;dsimp only))
  all_goals
   have HD2:=(show Hid _ from HD.out.below hB2)
   have HT2:Hid (TFr w w2):=HTF.out.trans (TFr.below hB2)
   clear hb2 hB2 s0 s1 s2 s3 s4 s5 s6 HD HTF
   obtain⟨s0,s1,s2,s3,s4,s5,s6⟩:=HD2.out.cells
   by_cases hl0:l=0
   ·have hst:=HST.out
    rw[if_pos hl0] at hst
    subst hl0
    go_wp2_with fail
    refine (zKn vs HVO.out hn1 pt W s r mb _ pv _ _ _ HSB.out L' S' HOK.out.prf HOK.out.cs hp36 HL.out w2 HD2.out).mono ?_
    rintro e w3 ⟨rfl,ht3,cv3,prv3,pav3,L3,hd3⟩
    have HT3:Hid (TFr w w3):=HT2.out.trans ht3
    clear ht3
    by_cases hv:(zAk vs pt S').1=0
    ·rw[if_pos hv] at hst
     have HNI:Hid (NxI W w s r mb (.slice asv vs.length csv) pv vs pt R w3 (zBZ vs (zAk vs pt S').2)):=⟨_,cv3,prv3,pav3,L3,rfl,hst.symm,zLU vs pt S' HOK.out hv,hd3,HT3.out⟩
     have HLT:Hid (zBZ vs (zAk vs pt S').2<N):=by rw[←HOP.out];exact zCZ vs pt S' hv
     rw[hv]
     clear hst hv hd3 HST HLE
     go_wp2
     go_roundw
     case rel=>exact⟨_,HNI.out⟩
     case measure=>exact Nat.lt_of_le_of_lt (zCl HNI.out) (by rw[HN.out];exact HLT.out)
    ·rw[if_neg hv] at hst
     have HST2:Hid (R=((zAk vs pt S').1,[],(zAk vs pt S').2)):=hst
     have HD3:=(show Hid _ from hd3)
     obtain⟨vd,hvd⟩:∃vd,(zAk vs pt S').1=vd:=⟨_,rfl⟩
     have HVD:Hid ((zAk vs pt S').1=vd):=hvd
     rw[hvd] at hv ⊢
     have hv':(vd != 0)=true:=by simpa using hv
     clear hst hd3 hvd HST HLE
     go_wp2
     go_ret2
     rw[HST2.out,HVD.out]
     exact⟨_,rfl,World.ownsRow_nil _ _ _ _,HT3.out,_,_,_,_,HD3.out⟩
   ·have hst:=HST.out
    rw[if_neg hl0] at hst
    have hl0':((l:Int)==0)=false:=by simpa using hl0
    obtain⟨st,hstp⟩:∃st,zAP vs l=st:=⟨_,rfl⟩
    have HSTP:Hid (zAP vs l=st):=hstp
    rw[hstp] at hst
    have hstl:st.length≤6:=by rw[←hstp,zDa];exact HVO.out.1.1
    have HSR:Hid (∀r∈st,r.length≤100):=fun r hr=>by
     obtain⟨i,hi⟩:=List.mem_iff_getElem?.1 hr
     have h1:=zCb (zA8 vs l) (List.replicate vs.length []) i
     have h2:(zAz (zA8 vs l) (List.replicate vs.length [])).getD i []=r:=by
      have:zAz (zA8 vs l) (List.replicate vs.length [])=st:=hstp
      rw[this,List.getD_eq_getElem?_getD,hi];rfl
     rw[h2] at h1
     have h3:=zCh vs l
     have h4:((List.replicate vs.length ([]:List Int)).getD i []).length=0:=by
      rw[List.getD_eq_getElem?_getD,List.getElem?_replicate]
      split <;> rfl
     omega
    clear hstp
    go_wp2_with fail
    refine (zIH vs HVO.out l HWL.out _ w2 (HSB.out.keep _ HD2.out.fr).1 (HSB.out.keep _ HD2.out.fr).2.2).mono ?_
    rintro e w3 ⟨B,cells,rfl,hg3,hBs,hb3⟩
    rw[HSTP.out] at hg3
    have HG3:Hid (zCm w3 B vs.length cells st):=hg3
    have HD3:=(show Hid _ from HD2.out.below hb3)
    have HT3:Hid (TFr w w3):=HT2.out.trans (TFr.below hb3)
    clear hb3 s0 s1 s2 s3 s4 s5 s6 HD2 HT2 HLE
    obtain⟨s0,s1,s2,s3,s4,s5,s6⟩:=HD3.out.cells
    go_wp2_with fail
    refine (zIS st hstl _ w3 HG3.out.rarg).mono ?_
    rintro e w4 ⟨rfl,rfl⟩
    obtain⟨ff,hff⟩:∃ff,zAp st=ff:=⟨_,rfl⟩
    have HFF:Hid (zAp st=ff):=hff
    rw[hff] at hst ⊢
    by_cases hf0:ff<0
    ·rw[if_pos hf0] at hst
     have HST2:Hid (R=(1,st.flatten,S')):=hst
     clear hst hff hg3
     go_wp2_with fail
     refine (zIU st hstl HSR.out _ w4 HG3.out.rarg).mono ?_
     rintro e w5 ⟨x,rfl,hox,hb5⟩
     have HO5:Hid (w5.ownsRow w4.heap.size 3 1 x st.flatten.length (st.flatten.map (Value.int .i64))):=hox
     have HD5:=(show Hid _ from HD3.out.below hb5)
     have HT5:Hid (TFr w w5):=HT3.out.trans (TFr.below hb5)
     have HLE4:Hid (w.heap.size≤w4.heap.size):=HT3.out.size
     clear hox hb5
     go_wp2
     go_ret2
     rw[HST2.out]
     exact⟨_,rfl,World.ownsRow.mono HO5.out HLE4.out,HT5.out,_,_,_,_,HD5.out⟩
    ·rw[if_neg hf0] at hst
     obtain⟨hfs,hfl⟩:=zEW st (by rw[hff];exact hf0)
     rw[hff] at hfs hfl
     obtain⟨v,rfl⟩:∃v:Nat,ff=(v:Int):=⟨ff.toNat,by omega⟩
     rw[Int.toNat_natCast] at hfl
     have hvl:v<st.length:=by omega
     obtain⟨row,hrow⟩:∃row,st[v]? = some row:=⟨st[v],by rw[List.getElem?_eq_getElem hvl]⟩
     rw[List.getD_eq_getElem?_getD,hrow] at hfl
     simp only[Option.getD_some] at hfl
     obtain⟨htop,hlen,hrws,_⟩:=hg3
     obtain⟨xr,hxr,hoxr⟩:=hrws v row hrow
     obtain⟨axr,cxr,rfl⟩:=zAC hoxr
     obtain⟨gx,hgx⟩:∃gx,axr=some ⟨gx,0,none⟩:=by
      rcases hoxr.2 with ⟨_,hn⟩ | ⟨g,cap,cur,he,_⟩
      ·omega
      ·cases he;exact⟨g,rfl⟩
     subst hgx
     obtain⟨x0,hx0⟩:∃x0,row[0]? = some x0:=⟨row[0],by rw[List.getElem?_eq_getElem (by omega)]⟩
     have cB:w4.cell? ⟨B,v,none⟩=some (.slice (some ⟨gx,0,none⟩) row.length cxr):=by rw[htop.cellAt v (by omega)];exact hxr
     have lB:B<w4.heap.size:=(htop.lt B rfl).2
     have cX:w4.cell? ⟨gx,0,none⟩=some (.int .i64 x0):=by rw[hoxr.cellAt 0 (by omega),List.getElem?_map,hx0];rfl
     have lX:gx<w4.heap.size:=(hoxr.lt gx rfl).2
     have HPK:Hid (zKJ st=⟨(v:Int),4,x0⟩):=by
      show _=_
      unfold zKJ
      have hgd:st.getD v []=row:=by rw[List.getD_eq_getElem?_getD,hrow];rfl
      rw[hff,Int.toNat_natCast,hgd,List.getD_eq_getElem?_getD,hx0];rfl
     have HST2:Hid (R=zA4 vs pt (zCY st S')):=hst
     have HOK2:Hid (SkO vs (zCY st S')):=by rw[←HSTP.out,←HL.out];exact zLk vs HVO.out.1 pt S' HOK.out (by rw[HL.out,HSTP.out,hff];exact hf0)
     have HOP2:Hid (zBZ vs (zCY st S')<N):=by rw[←HOP.out,←HSTP.out,←HL.out];exact zDK vs HVO.out.1 pt S' (by rw[HL.out,HSTP.out,hff];exact hf0)
     have hvn:v<vs.length:=by omega
     have hvn':(v:Int)<(vs.length:Int):=by omega
     have hr1:0<row.length:=by omega
     have hr2:(0:Int)<(row.length:Int):=by omega
     have hr3:¬row=[]:=fun h=>by rw[h] at hr1;cases hr1
     have hWs:W.heap.size≤w4.heap.size:=HD3.out.fr.size
     have hopa:w4.ownsRow W.heap.size 117 3 (.slice apa S'.path.length cpa) S'.path.length (zAv S'.path):=HD3.out.path
     have hf1:¬((v:Int)<0):=by omega
     clear hst hff hrow hxr hx0 hoxr htop hrws hlen hfs hfl hvl HST hstl
     go_wp2_with fail
     go_region_law
      (first
       | (rw[if_pos (by rfl)];refine zAg _ _ _ 67 rfl W.heap.size 117 i0 _ 3 24 Tryz.underClauseE hi0 hz0 hz1 hz2 rfl (by decide) _ _ _ rfl (hopa.drew.alloc _) ⟨w4.heap.size,0,none⟩ 1 1 (zBq ⟨(v:Int),4,x0⟩) rfl rfl (zHd w4.drew ⟨(v:Int),4,x0⟩) (by intro u hu;simp[zBq] at hu;rcases hu with rfl | rfl | rfl <;> rfl) ?_ ?_ ?_ ?_;(unfold maxLen;omega);omega;(simp;omega);intro v7 w7 hown7 hg7 hat7;obtain⟨a7,c7,hv7⟩:=zAC hown7;subst hv7
          have hbl7:=zAq (HD3.out.below ((Below.refl _ _).drew.alloc (Nat.le_refl _) _)).blkS hg7 (hopa.drew.alloc _) (by decide)
          have t5:w7.cell? ⟨s,5,none⟩=some (.slice apa S'.path.length cpa):=blk9 hbl7 5 _ rfl
          have z5:w7.frozen? ⟨s,5,none⟩=false:=frz9 hbl7 5
          have l5:s<w7.heap.size:=(Array.getElem?_eq_some_iff.1 hbl7).1))
     all_goals
      have HNI:Hid (NxI W w s r mb (.slice asv vs.length csv) pv vs pt R (w7.setCell ⟨s,5,none⟩ (.slice a7 (S'.path.length+1) c7)) (zBZ vs (zCY st S'))):=by
       have hb5:Below w4.heap.size w4 (w4.drew.alloc (.cells #[.int .i64 (v:Int),.int .i64 4,.int .i64 x0] 117)):=(Below.refl _ _).drew.alloc (Nat.le_refl _) _
       have hpush:=HD3.out.pushp (l:=⟨(v:Int),4,x0⟩) hb5 hg7 hat7 rfl hown7
       have hsk:SkD W (w7.setCell ⟨s,5,none⟩ (.slice a7 (S'.path.length+1) c7)) s r mb (.slice asv vs.length csv) pv cv' prv' (.slice a7 (S'.path.length+1) c7) L' ((zCY st S').proof.map fun x=>zAR vs x.cla) (zCY st S'):=by
        unfold zCY
        rw[HPK.out]
        exact hpush
       exact⟨zCY st S',_,_,_,L',rfl,HST2.out.symm,HOK2.out,hsk,((HT3.out.trans (TFr.below hb5)).trans (TFr.grown (hopa.drew.alloc _) hg7 zLR)).trans (TFr.set hbl7 zFn 5 _)⟩
      go_wp2
      go_roundw
      case rel=>exact⟨_,HNI.out⟩
      case measure=>exact Nat.lt_of_le_of_lt (zCl HNI.out) (by rw[HN.out];exact HOP2.out)
end Go.Proofs.YtdjbejlbmaiocafGreatDoor
