/- What the proof leans on, part 30. -/
import Derived.Test.YtndcpnlaadikoaaGreatDoorPartBc
import Derived.Test.YtndcpnlaadikoaaGreatDoorPartAj
import Derived.Test.YtndcpnlaadikoaaGreatDoorPartBa
import Derived.Test.YtndcpnlaadikoaaGreatDoorPartAo
namespace Go.Proofs.YtndcpnlaadikoaaGreatDoor
open Go.RowKit
theorem zGQ (m:Mod):∀(d out:Cla),(zBR m d out).2=0→(∀x∈out,litE m.vars x=0)→∀x∈(zBR m d out).1,litE m.vars x=0
 | [],out,_,ho=>ho
 | t :: r,out,h,ho=>by
   unfold zBR at h ⊢
   by_cases h1:(zCQ m t).2=0
   ·rw[if_pos h1] at h ⊢
    refine zGQ m r _ h fun x hx=>?_
    rcases List.mem_append.1 hx with h2 | h2
    ·exact ho x h2
    ·rw[List.mem_singleton.1 h2]
     unfold zCQ at h1 ⊢
     split at h1
     ·rename_i h3
      rw[if_pos h3]
      split at h1
      ·rename_i h4
       rw[if_pos h4];exact h4
      ·rename_i h4
       exact absurd h1 h4
     ·rename_i h3
      exact absurd h1 h3
   ·rw[if_neg h1] at h;exact absurd h h1
theorem zC3 (m:Mod) (l:List Cla) (d:Cla) (h:(zAL m l d).2.1=true):zAP m=0∧zDz m.vars l=0∧(zAL m l d).2.2=0∧claE m.vars (zAL m l d).1=0∧zBL m.vars (l.map (zAF m.vars)) (ptsM m) (zAL m l d).1=true:=by
 unfold zAL at h ⊢
 by_cases h1:zCP m l d=0
 ·obtain⟨c0,c1,c2⟩:=zC1 m l d h1
  rw[if_pos h1] at h ⊢
  by_cases h2:(zBR m d []).2=0
  ·rw[if_pos h2] at h ⊢
   dsimp only at h ⊢
   have hr:=zGQ m d [] h2 (fun x hx=>by cases hx)
   have h4:=zE1 m d []
   simp only[List.length_nil,Nat.zero_add] at h4
   have h5:=zG3 _ _ c2
   unfold zCr at h ⊢
   by_cases h3:zBL m.vars (l.map (zAF m.vars)) (ptsM m) (zBR m d []).1=true
   ·rw[if_pos h3] at h ⊢
    refine⟨c0,c1,rfl,?_,?_⟩
    ·show claE m.vars (zGG m.vars (l.map (zAF m.vars)) (ptsM m) (zBR m d []).1)=0
     unfold claE
     have h6:(zGG m.vars (l.map (zAF m.vars)) (ptsM m) (zBR m d []).1).length≤(zBR m d []).1.length:=zED _ _ _
     rw[if_neg (by omega)]
     refine zFO _ fun e he=>?_
     obtain⟨x,hx,rfl⟩:=List.mem_map.1 he
     exact hr x (zEC _ x _ _ hx)
    ·exact zDG _ _ _ h3
   ·rw[if_neg h3] at h;cases h
  ·rw[if_neg h2] at h;cases h
 ·rw[if_neg h1] at h;cases h
theorem zH1 (w:World) (v o n:Int) (B:Nat) (hB:B=w.heap.size):LArg (w.alloc (.cells #[.int .i64 v,.int .i64 o,.int .i64 n] 76)) (.slice (some ⟨B,0,none⟩) 1 1) [⟨v,o,n⟩]:=by
 subst hB
 refine⟨_,1,rfl,⟨by simp,by unfold maxLen;omega⟩,fun i t ht=>?_⟩
 match i,ht with
 | 0,ht =>
   cases ht
   exact⟨_,0,rfl,by simp,World.cell?_alloc_at _ _ _ 0 (by simp),World.cell?_alloc_at _ _ _ 1 (by simp),World.cell?_alloc_at _ _ _ 2 (by simp)⟩
theorem zIy (w:World):zA8 w (.slice none 0 0) []:=⟨none,0,rfl,⟨Nat.le_refl _,Nat.zero_le _⟩,fun i z hz=>by simp at hz⟩
theorem zKX (l:List SV):∀c∈l.map zCO,c.length=3:=by
 intro c hc
 obtain⟨t,_,rfl⟩:=List.mem_map.1 hc
 rfl
theorem zDT {base:Nat} {w:World} {v:Value} {L:List SV} (h:zCC base w v L) (k:Nat) (x:SV) (hx:L[k]? = some x):∃g cc,v=.slice (some ⟨g,0,none⟩) L.length cc∧L.length≤cc∧cc≤maxLen∧g<w.heap.size ∧
 w.cell? ⟨g,k * 3,none⟩=some (.int .i64 x.1.kind)∧w.cell? ⟨g,k * 3+1,none⟩=some (.int .i64 x.1.con)∧w.cell? ⟨g,k * 3+2,none⟩=some x.2:=by
 have hk:k<L.length:=(List.getElem?_eq_some_iff.1 hx).1
 have hw:=zKX L
 have get:∀(j:Nat) (u:Value),j<3→(zCO x)[j]? = some u→((L.map zCO).flatten)[k * 3+j]? = some u:=by
  intro j u hj hu
  have h1:(((L.map zCO).flatten).drop (k * 3))[j]? = some u:=by
   rw[zDI 3 k _ hw,←List.map_drop,List.drop_eq_getElem_cons hk]
   have e:L[k]=x:=by rw[List.getElem?_eq_getElem hk] at hx;exact Option.some.inj hx
   rw[List.map_cons,List.flatten_cons,e,List.getElem?_append_left (by show j<3;exact hj)]
   exact hu
  rw[List.getElem?_drop] at h1
  exact h1
 rcases h.1.2 with ⟨rfl,hn⟩ | ⟨g,cap,cur,rfl,hg,hh,hc1,hc2,_,_⟩
 ·omega
 ·refine⟨g,cap,rfl,hc1,hc2,(Array.getElem?_eq_some_iff.1 hh).1,?_,?_,?_⟩
  ·rw[h.1.cellAt _ (by omega)];exact get 0 _ (by omega) rfl
  ·rw[h.1.cellAt _ (by omega)];exact get 1 _ (by omega) rfl
  ·rw[h.1.cellAt _ (by omega)];exact get 2 _ (by omega) rfl
theorem zGR {α β:Type} (f:α→β) (L:List α) (S:List β) (b:β) (h:L.map f=S++[b]):∃x,L[S.length]? = some x∧f x=b∧L.length=S.length+1:=by
 have hl:L.length=S.length+1:=by have:=congrArg List.length h;simpa using this
 have h1:(L.map f)[S.length]? = some b:=by rw[h];simp
 rw[List.getElem?_map] at h1
 obtain⟨x,hx,he⟩:=Option.map_eq_some_iff.1 h1
 exact⟨x,hx,he,hl⟩
theorem zDn {w w':World} (h:∃n,w'=w.drewN n):Below w.heap.size w w':=by
 obtain⟨n,rfl⟩:=h
 exact⟨rfl,rfl,rfl,Nat.le_refl _,fun _ _=>rfl⟩
set_option maxHeartbeats 3200000 in
set_option maxRecDepth 100000 in
theorem zIz (w:World) (hT:TabT w) :
 Calls Tryz.prog 8 #[] w fun e w'=>e=.returned (.bool true)∧Below w.heap.size w w':=by
 have HT:Hid (∀w',Below w.heap.size w w'→TabT w'):=fun w' h=>hT.below h
 clear hT
 have HB0:Hid (Below w.heap.size w (w.alloc (.cells #[.int .i64 1,.int .i64 1,.int .i64 0] 76))):=zAA _ _
 have HD:Hid (∀w',Below (w.alloc (.cells #[.int .i64 1,.int .i64 1,.int .i64 0] 76)).heap.size (w.alloc (.cells #[.int .i64 1,.int .i64 1,.int .i64 0] 76)) w'→LArg w' (.slice (some ⟨w.heap.size,0,none⟩) 1 1) dTwo):=fun w' h=>LArg.below h (zH1 w 1 1 0 _ rfl)
 obtain⟨S,hS⟩:=zN9
 have HS:Hid (zBS twoM [] dTwo=(S++[⟨2,0,[⟨1,2,1⟩]⟩],true,0)):=hS
 clear hS
 go_enter Tryz.func8,Tryz.ntmps8
 go_wp2_with fail
 refine (zIY _).mono ?_
 rintro e w1 ⟨vs,cs,rfl,hm,hb1⟩
 have HM:Hid (MArg w1 vs cs twoM):=hm
 have HA1:Hid (Below (w.alloc (.cells #[.int .i64 1,.int .i64 1,.int .i64 0] 76)).heap.size (w.alloc (.cells #[.int .i64 1,.int .i64 1,.int .i64 0] 76)) w1):=hb1
 clear hm hb1
 go_wp2_with fail
 refine (zFc twoM [] dTwo _ _ _ _ _ HM.out (zIy _) (HD.out _ HA1.out) (HT.out _ (HB0.out.trans (HA1.out.mono HB0.out.size)))).mono ?_
 rintro e w2 ⟨x,rfl,hx,hb2⟩
 rw[zNF] at hx ⊢
 dsimp only at hx ⊢
 have HX:Hid (∀Y,Below w2.heap.size w2 Y→LArg Y x [⟨1,2,1⟩]):=fun Y hY=>LArg.below hY hx.arg
 have HA2:Hid (Below (w.alloc (.cells #[.int .i64 1,.int .i64 1,.int .i64 0] 76)).heap.size (w.alloc (.cells #[.int .i64 1,.int .i64 1,.int .i64 0] 76)) w2):=HA1.out.trans (hb2.mono HA1.out.size)
 obtain⟨ax,cx,hxe⟩:=zAE (show w2.ownsRow _ _ _ _ _ _ from hx)
 subst hxe
 clear hx hb2 HM
 go_wp2_with fail
 refine (zIY _).mono ?_
 rintro e w3 ⟨vs,cs,rfl,hm,hb3⟩
 have HM:Hid (MArg w3 vs cs twoM):=hm
 have HX3:Hid (Below w2.heap.size w2 w3):=hb3
 have HA3:Hid (Below (w.alloc (.cells #[.int .i64 1,.int .i64 1,.int .i64 0] 76)).heap.size (w.alloc (.cells #[.int .i64 1,.int .i64 1,.int .i64 0] 76)) w3):=HA2.out.trans (hb3.mono HA2.out.size)
 clear hm hb3
 go_wp2_with fail
 refine (zFc twoM [] [] _ _ _ _ _ HM.out (zIy _) (zLZ _) (HT.out _ (HB0.out.trans (HA3.out.mono HB0.out.size)))).mono ?_
 rintro e w4 ⟨y,rfl,hy,hb4⟩
 rw[zN7] at hy ⊢
 dsimp only at hy ⊢
 obtain⟨ay,cy,hye⟩:=zAE (show w4.ownsRow _ _ _ _ _ _ from hy)
 subst hye
 have HX4:Hid (Below w2.heap.size w2 w4):=HX3.out.trans (hb4.mono HX3.out.size)
 have HA4:Hid (Below (w.alloc (.cells #[.int .i64 1,.int .i64 1,.int .i64 0] 76)).heap.size (w.alloc (.cells #[.int .i64 1,.int .i64 1,.int .i64 0] 76)) w4):=HA3.out.trans (hb4.mono HA3.out.size)
 clear hy hb4 HM
 go_wp2_with fail
 refine (zIY _).mono ?_
 rintro e w5 ⟨vs,cs,rfl,hm,hb5⟩
 have HM:Hid (MArg w5 vs cs twoM):=hm
 have HX5:Hid (Below w2.heap.size w2 w5):=HX4.out.trans (hb5.mono HX4.out.size)
 have HA5:Hid (Below (w.alloc (.cells #[.int .i64 1,.int .i64 1,.int .i64 0] 76)).heap.size (w.alloc (.cells #[.int .i64 1,.int .i64 1,.int .i64 0] 76)) w5):=HA4.out.trans (hb5.mono HA4.out.size)
 clear hm hb5
 go_wp2_with fail
 refine (zGP twoM [] dTwo _ _ _ _ _ HM.out (zIy _) (HD.out _ HA5.out) (HT.out _ (HB0.out.trans (HA5.out.mono HB0.out.size)))).mono ?_
 rintro e w6 ⟨z,L,rfl,hmp,hso,hl15,hb6⟩
 rw[HS.out] at hmp ⊢
 dsimp only at hmp ⊢
 obtain⟨q,hq,hqe,hql⟩:=zGR (fun x:SV=>x.1) L S _ hmp
 obtain⟨g,cc,rfl,hcc1,hcc2,hgl,_,_,s2⟩:=zDT hso _ q hq
 have HQ:Hid (LArg w6 q.2 [⟨1,2,1⟩]):=by have h1:=(hso.2 q (List.mem_of_getElem? hq)).arg;rw[hqe] at h1;exact h1
 obtain⟨aq,cq,hqq,_,_⟩:=id HQ.out
 rw[hqq] at s2
 have HQ2:Hid (∀Y,Below w6.heap.size w6 Y→LArg Y (.slice aq 1 cq) [⟨1,2,1⟩]):=fun Y hY=>LArg.below hY (by have h1:=HQ.out;rw[hqq] at h1;exact h1)
 have HX6:Hid (Below w2.heap.size w2 w6):=HX5.out.trans (hb6.mono HX5.out.size)
 have HB6:Hid (Below w.heap.size w w6):=HB0.out.trans ((HA5.out.trans (hb6.mono HA5.out.size)).mono HB0.out.size)
 obtain⟨j,hj⟩:∃j,S.length=j:=⟨_,rfl⟩
 rw[hj] at hql s2
 rw[hql]
 have hj15:j+1≤1500:=by omega
 unfold maxLen at hcc2
 have hjc:j+1≤cc:=by omega
 clear hmp hso hq hqe hb6 HM hj hql hqq HQ hl15 hcc1
 go_upto_region 5 with (fail)
 go_wp2_with fail
 refine (zC2 [⟨1,2,1⟩] _ _ _ (HX.out _ (HX6.out.alloc HX6.out.size _)) (zH1 w6 1 2 1 _ rfl)).mono ?_
 rintro e w7 ⟨rfl,hd7⟩
 have hB7:Below w6.heap.size w6 w7:=(zAA _ _).trans ((zDn hd7).mono (by simp))
 have t2:=(hB7.cell (p:=⟨g,j * 3+2,none⟩) hgl).trans s2
 have HB7:Hid (Below w6.heap.size w6 w7):=hB7
 clear hd7 hB7 s2
 go_wp2_with fail
 refine (zC2 [⟨1,2,1⟩] _ _ _ (HQ2.out _ HB7.out) (HX.out _ (HX6.out.trans (HB7.out.mono HX6.out.size)))).mono ?_
 rintro e w8 ⟨rfl,hd8⟩
 have HB8:Hid (Below w.heap.size w w8):=HB6.out.trans ((HB7.out.trans ((zDn hd8).mono HB7.out.size)).mono HB6.out.size)
 clear hd8 t2
 go_wp2
 go_ret
 exact⟨rfl,HB8.out⟩
def zEZ (lo:Int) (j:Nat):List Int:=(List.range j).map fun (k:Nat)=>lo+(k:Int)
theorem zKY (lo:Int) (j:Nat):zEZ lo (j+1)=zEZ lo j++[lo+j]:=by simp[zEZ,List.range_succ]
theorem zLh (lo:Int) (j:Nat):(zEZ lo j).length=j:=by simp[zEZ]
theorem zH2 {w:World} {b1 b2 s1 s2 n1 n2:Nat} {t1 t2:TypeId} {x v:Value} {xs ys:List Value} (h1:w.ownsRow b1 t1 s1 x n1 xs) (h2:w.ownsRow b2 t2 s2 v n2 ys) (ht:t1≠t2):x.ownBlock=none∨x.ownBlock≠v.ownBlock:=by
 rcases h1.2 with ⟨rfl,_⟩ | ⟨g,cap,cur,rfl,_,hh,_⟩
 ·exact Or.inl rfl
 ·rcases h2.2 with ⟨rfl,_⟩ | ⟨g2,cap2,cur2,rfl,_,hh2,_⟩
  ·exact Or.inr (fun h=>by cases h)
  ·refine Or.inr fun h=>?_
   have hg:g=g2:=by injection h
   subst hg
   rw[hh] at hh2
   injection hh2 with h9
   injection h9 with _ h8
   exact ht h8
def zEa (N:Nat) (v:Value) (cells:List Value) (M:Sto) (k:Nat) (w:World):Prop :=
 w.ownsRow N 42 1 v k cells∧∀j r,j<k→M[j]? = some r→∃x,cells[j]? = some x∧w.ownsRow N 3 1 x r.length (r.map (Value.int .i64))
theorem zEa.below {N k:Nat} {v:Value} {cells:List Value} {M:Sto} {w w':World} (h:zEa N v cells M k w) (hb:Below w.heap.size w w'):zEa N v cells M k w':=by
 refine⟨zAD h.1 hb,fun j r hj hr=>?_⟩
 obtain⟨x,h1,h2⟩:=h.2 j r hj hr
 exact⟨x,h1,zAD h2 hb⟩
theorem zEa.push {N k:Nat} {v v' x:Value} {cells:List Value} {M:Sto} {r:List Int} {w w':World} (h:zEa N v cells M k w) (hr:M[k]? = some r) (hx:w.ownsRow N 3 1 x r.length (r.map (Value.int .i64))) (hw:w'.ownsRow N 42 1 v' (k+1) (cells++[x])) (hg:w.grownBy w' v.ownBlock):zEa N v' (cells++[x]) M (k+1) w':=by
 have hlen:cells.length=k:=by have:=h.1.1;omega
 have keep:∀{y:Value} {q:List Int},w.ownsRow N 3 1 y q.length (q.map (Value.int .i64))→w'.ownsRow N 3 1 y q.length (q.map (Value.int .i64)):=fun hy=>hy.kept hg (zH2 hy h.1 (by decide))
 refine⟨hw,fun j q hj hq=>?_⟩
 by_cases hjk:j=k
 ·subst hjk
  rw[hr] at hq
  cases hq
  exact⟨x,by rw[List.getElem?_append_right (by omega),hlen];simp,keep hx⟩
 ·obtain⟨y,h1,h2⟩:=h.2 j q (by omega) hq
  exact⟨y,by rw[List.getElem?_append_left (by omega)];exact h1,keep h2⟩
theorem zEa.arg {N:Nat} {v:Value} {cells:List Value} {M:Sto} {w:World} (h:zEa N v cells M M.length w):RArg w v M:=by
 rcases h.1.2 with ⟨rfl,hn⟩ | ⟨g,cap,cur,rfl,hg,hh,hc1,hc2,_,_⟩
 ·have:M=[]:=List.eq_nil_of_length_eq_zero hn
  subst this
  exact⟨none,0,rfl,⟨Nat.le_refl _,Nat.zero_le _⟩,fun i z hz=>by simp at hz⟩
 ·refine⟨_,cap,rfl,⟨hc1,hc2⟩,fun i r hr=>?_⟩
  have hi:i<M.length:=(List.getElem?_eq_some_iff.1 hr).1
  obtain⟨x,h1,h2⟩:=h.2 i r hi hr
  exact⟨g,0,x,rfl,(Array.getElem?_eq_some_iff.1 hh).1,by rw[Nat.zero_add,h.1.cellAt i (by omega)];exact h1,zCW h2⟩
theorem Tryz.infoIntsR:(Tryz.prog.info? 42).map (fun i=>(i.zero,i.size,i.bytes))=some (some (.slice none 0 0),1,24):=by kernel_rfl
theorem Tryz.underStoreR:Tryz.prog.underlying 153=some (.slice 42):=by kernel_rfl
theorem zAm {w:World} {ops:Array Oper} {rest:List Oper} {o:Oper} {a:Act} {Q:Exit→Act→World→Prop} (hgd:o.guard=none) (s x:Operand)
 (ho:o.op=.call { callee:=.builtin .append,args:=#[s,x],argTypes:=#[153,153] }) (base:Nat)
 (v:Value) (k:Nat) (cells:List Value) (hs:a.eval s=v) (hown:w.ownsRow base 42 1 v k cells)
 (g:Nat) (y:Value) (hy:y.oneCell'=true) (hx:a.eval x=.slice (some ⟨g,0,none⟩) 1 1) (hc:w.cell? ⟨g,0,none⟩=some y) (hk:k≤1000) (hbase:base≤w.heap.size)
 (h:∀v' w',w'.ownsRow base 42 1 v' (k+1) (cells++[y])→w.grownBy w' v.ownBlock→wpList Tryz.prog ops Q rest (a.put o.dst v') w'):wpList Tryz.prog ops Q (o :: rest) a w:=by
 obtain⟨i1,hi1,hy0,hy1,hy2⟩:=info_parts Tryz.infoIntsR
 refine wpList_append_own w hgd s x 153 ho base 42 i1 (.slice none 0 0) 1 24 Tryz.underStoreR hi1 hy0 hy1 hy2 rfl (by decide) v k cells hs hown ⟨g,0,none⟩ 1 1 [y] hx rfl ?_ ?_ (by unfold maxLen;omega) (by omega) hbase ?_
 ·intro j u hj
  match j,hj with
  | 0,hj=>simp at hj;subst hj;rw[zDZ];exact hc
 ·intro u hu
  rcases List.mem_singleton.1 hu with rfl
  exact hy
 ·intro v' w' h1 h2 _
  exact h v' w' h1 h2
set_option maxHeartbeats 3200000 in
set_option maxRecDepth 100000 in
theorem zGS (m:Mod) (hm:zAP m=0) (vs cs:Value) (w:World) (hma:MArg w vs cs m) :
 Calls Tryz.prog 96 #[modV vs cs m] w fun e w'=>∃x,e=.returned x∧RArg w' x (zAK m.vars)∧Below w.heap.size w w':=by
 have HVA:Hid (zAU m.vars):=zCx m hm
 have h6:m.vars.length≤6:=(zAo m hm).2.1
 obtain⟨⟨a1,c1,rfl,hl1,hr1⟩,⟨a2,c2,rfl,_,_⟩⟩:=hma
 have HV1:Hid (∀(i:Nat) (t:MVar),m.vars[i]? = some t→t.name.size≤maxLen∧∃b off,a1=some ⟨b,off,none⟩∧b<w.heap.size ∧
  w.cell? ⟨b,off+i * 3,none⟩=some (.string t.name)∧w.cell? ⟨b,off+i * 3+1,none⟩=some (.int .i64 t.lo)∧w.cell? ⟨b,off+i * 3+2,none⟩=some (.int .i64 t.hi)):=hr1
 unfold maxLen at hl1
 obtain⟨hl11,hl1⟩:=hl1
 obtain⟨i0,hi,hz0,hz1,hz2⟩:=info_parts Tryz.infoInt
 obtain⟨i1,hi1,hy0,hy1,hy2⟩:=info_parts Tryz.infoIntsR
 have HML:Hid ((zAK m.vars).length=m.vars.length):=by show _=_;simp[zAK]
 unfold modV
 clear hr1 hm
 go_enter Tryz.func96,Tryz.ntmps96
 go_wp2_with fail
 have HB0:Hid (Below w.heap.size w (w.alloc (.cells #[.slice a1 m.vars.length c1,.slice a2 m.cons.length c2,.int .i64 m.goal,.int .i64 m.var] 25))):=zAA _ _
 have HK0:Hid ((w.alloc (.cells #[.slice a1 m.vars.length c1,.slice a2 m.cons.length c2,.int .i64 m.goal,.int .i64 m.var] 25)).cell? ⟨w.heap.size,0,none⟩=some (.slice a1 m.vars.length c1)):=World.cell?_alloc_at _ _ _ 0 (by simp)
 have HL0:Hid ((w.alloc (.cells #[.slice a1 m.vars.length c1,.slice a2 m.cons.length c2,.int .i64 m.goal,.int .i64 m.var] 25)).heap.size=w.heap.size+1):=by show _=_;simp
 obtain⟨W,hW⟩:∃W,w.alloc (.cells #[.slice a1 m.vars.length c1,.slice a2 m.cons.length c2,.int .i64 m.goal,.int .i64 m.var] 25)=W:=⟨_,rfl⟩
 rw[hW] at HB0 HK0 HL0 ⊢
 clear hW
 go_loopw [3,4] (fun o i wr=>∃(k:Nat) (cells:List Value),k≤m.vars.length∧i=.int .i64 k∧zEa W.heap.size o cells (zAK m.vars) k wr∧Below W.heap.size W wr) (fun _ i _=>m.vars.length - (intOf i).toNat)
 case atStart=>exact⟨0,[],by omega,rfl,⟨World.ownsRow_nil _ _ _ _,fun j r hj=>by omega⟩,Below.refl _ _⟩
 case round =>
  obtain⟨k,cells,hk,rfl,hrow,hbw⟩:=hrel
  have HROW:Hid (zEa W.heap.size u3 cells (zAK m.vars) k wr):=hrow
  have HBW:Hid (Below W.heap.size W wr):=hbw
  have HBN:Hid (Below w.heap.size w wr):=HB0.out.trans (hbw.mono HB0.out.size)
  have k0:=(hbw.cell (p:=⟨w.heap.size,0,none⟩) (by rw[HL0.out];simp)).trans HK0.out
  obtain⟨ao,co,rfl⟩:=zAE hrow.1
  clear hrow hbw
  by_cases hlt:k<m.vars.length
  ·obtain⟨t,ht⟩:∃t,m.vars[k]? = some t:=⟨m.vars[k],by simp[hlt]⟩
   have HMK:Hid ((zAK m.vars)[k]? = some (zEZ t.lo (t.hi+1 - t.lo).toNat)):=by show _=_;unfold zAK;rw[List.getElem?_map,ht];rfl
   have hvt:zAH m.vars k=t:=by unfold zAH;rw[List.getD_eq_getElem?_getD,ht];rfl
   have hbn:=HVA.out.2 k hlt
   have hsz:=HVA.out.1.2 k
   unfold zAu at hsz
   rw[hvt] at hbn hsz
   obtain⟨_,b,off,hax,hb,e0,e1,e2⟩:=HV1.out k t ht
   subst hax
   obtain⟨lo,hlo⟩:∃lo,t.lo=lo:=⟨_,rfl⟩
   obtain⟨hh,hhi⟩:∃hh,t.hi=hh:=⟨_,rfl⟩
   rw[hlo] at e1 hbn hsz HMK
   rw[hhi] at e2 hbn hsz HMK
   have f1:=(HBN.out.cell (p:=⟨b,off+k * 3+1,none⟩) hb).trans e1
   have HF:Hid (∀Y,Below wr.heap.size wr Y→Y.cell? ⟨w.heap.size,0,none⟩=some (.slice (some ⟨b,off,none⟩) m.vars.length c1)∧Y.cell? ⟨b,off+k * 3+2,none⟩=some (.int .i64 hh)):=fun Y hY =>
    ⟨(hY.cell (p:=⟨w.heap.size,0,none⟩) (World.block_lt_of_cell? wr _ k0)).trans k0,(hY.cell (p:=⟨b,off+k * 3+2,none⟩) (Nat.lt_of_lt_of_le hb HBN.out.size)).trans ((HBN.out.cell (p:=⟨b,off+k * 3+2,none⟩) hb).trans e2)⟩
   obtain⟨wo,hwo⟩:∃wo:World,wo=wr:=⟨_,rfl⟩
   clear ht e0 e1 e2 hvt hlo hhi
   go_wp2_with fail
   rw[←hwo] at HROW HBW HBN HF ⊢
   clear k0 f1 hwo hb
   go_loopw [5,6] (fun l n wx=>∃j:Nat,lo+(j:Int)≤hh+1∧n=.int .i64 (lo+(j:Int))∧wx.ownsRow wo.heap.size 3 1 l (zEZ lo j).length ((zEZ lo j).map (Value.int .i64))∧Below wo.heap.size wo wx) (fun _ n _=>(hh+1 - intOf n).toNat)
   case atStart=>exact⟨0,by omega,by simp,World.ownsRow_nil _ _ _ _,Below.refl _ _⟩
   case round =>
    obtain⟨j,hj,rfl,hown,hbx⟩:=hrel
    have HBX:Hid (Below wo.heap.size wo wr):=hbx
    obtain⟨k0,f2⟩:=HF.out _ hbx
    obtain⟨acc,hacc⟩:∃acc,zEZ lo j=acc:=⟨_,rfl⟩
    have hal:acc.length≤6:=by rw[←hacc,zLh];omega
    have HAC:Hid (zEZ lo j=acc):=hacc
    rw[hacc] at hown
    have HOW:Hid (wr.ownsRow wo.heap.size 3 1 u5 acc.length (acc.map (Value.int .i64))):=hown
    obtain⟨al,cl,rfl⟩:=zAE hown
    clear hacc hbx
    by_cases hlj:lo+(j:Int)≤hh
    ·obtain⟨z,hz⟩:∃z,z=lo+(j:Int):=⟨_,rfl⟩
     have HZ:Hid (z=lo+(j:Int)):=hz
     have HN:Hid (zEZ lo (j+1)=acc++[z]):=by show _=_;rw[←HAC.out,hz];exact zKY lo j
     have hzb:-50≤z∧z≤50∧z≤hh:=by omega
     have HJ:Hid (lo+((j+1:Nat):Int)≤hh+1):=by show _≤_;omega
     rw[←hz]
     clear hz hlj hj
     go_wp2_with (at_builtin;refine wpList_append_own _ rfl _ _ 42 rfl wo.heap.size 3 i0 (.int .i64 0) 1 8 Tryz.underlying42 hi hz0 hz1 hz2 rfl (by decide) _ _ _ rfl (hown.alloc _) ⟨wr.heap.size,0,none⟩ 1 1 [.int .i64 z] rfl rfl ?c1 ?c2 ?c3 ?c4 ?c5 ?_)
     case c1=>exact zC0 wr z
     case c2=>intro u hu;rcases List.mem_singleton.1 hu with rfl;rfl
     case c3=>unfold maxLen;omega
     case c4=>omega
     case c5=>have:=HBX.out.size;simp;omega
     intro v3 w3 hown3 hgrow _
     have HO3:Hid (w3.ownsRow wo.heap.size 3 1 v3 (zEZ lo (j+1)).length ((zEZ lo (j+1)).map (Value.int .i64))):=by
      show w3.ownsRow _ _ _ _ _ _
      rw[HN.out,List.length_append,List.map_append];exact hown3
     have HB3:Hid (Below wo.heap.size wo w3):=(HBX.out.alloc HBX.out.size _).grown hgrow (by have:=HBX.out.size;simp;omega) (fun g h=>(hown.lt g h).1)
     clear hown3 hgrow hown k0 f2
     go_wp2
     go_roundw
     case rel=>exact⟨j+1,HJ.out,by rw[HZ.out];go_num,HO3.out,HB3.out⟩
     case measure=>simp[intOf];omega
    ·have hje:j=(hh+1 - lo).toNat:=by omega
     have HMK2:Hid ((zAK m.vars)[k]? = some acc):=by show _=_;rw[HMK.out,←HAC.out,hje]
     have HR2:Hid (zEa W.heap.size (.slice ao k co) cells (zAK m.vars) k wr):=HROW.out.below HBX.out
     have HOL:Hid (wr.ownsRow W.heap.size 3 1 (.slice al acc.length cl) acc.length (acc.map (Value.int .i64))):=⟨HOW.out.1,by
      rcases HOW.out.2 with h | ⟨g,cap,cur,h1,h2,h3⟩
      ·exact Or.inl h
      ·exact Or.inr ⟨g,cap,cur,h1,Nat.le_trans HBW.out.size h2,h3⟩⟩
     have HBF:Hid (Below W.heap.size W wr):=HBW.out.trans (HBX.out.mono HBW.out.size)
     have hout:=HR2.out.1
     have hclen:cells.length=k:=by have:=hout.1;omega
     clear hje hown
     clear hclen
     go_wp2_with (at_builtin;refine zAm rfl _ _ rfl W.heap.size _ k cells rfl (hout.alloc _) wr.heap.size (.slice al acc.length cl) rfl rfl ?c1 ?c2 ?c3 ?_)
     case c2=>omega
     case c3=>have:=HBF.out.size;simp;omega
     intro v3 w3 hown3 hgrow
     have HP3:Hid (zEa W.heap.size v3 (cells++[.slice al acc.length cl]) (zAK m.vars) (k+1) w3):=(HR2.out.below (zAA _ _)).push HMK2.out (HOL.out.alloc _) hown3 hgrow
     have HB3:Hid (Below W.heap.size W w3):=(HBF.out.alloc HBF.out.size _).grown hgrow (by have:=HBF.out.size;simp;omega) (fun g h=>(hout.lt g h).1)
     clear hown3 hgrow hout
     go_wp2
     go_roundw
     case rel=>exact⟨k+1,_,by omega,by go_num,HP3.out,HB3.out⟩
     case measure=>simp[intOf];omega
  ·have hke:k=m.vars.length:=by omega
   have HF:Hid (RArg wr (.slice ao k co) (zAK m.vars)):=by
    have h:=HROW.out
    have h2:zEa W.heap.size (.slice ao k co) cells (zAK m.vars) (zAK m.vars).length wr:=by rw[HML.out,←hke];exact h
    exact h2.arg
   clear hke
   go_wp2
   go_ret
   exact⟨_,rfl,HF.out,HBN.out⟩
end Go.Proofs.YtndcpnlaadikoaaGreatDoor
