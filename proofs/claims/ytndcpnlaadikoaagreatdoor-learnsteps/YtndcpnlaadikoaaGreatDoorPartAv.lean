/- What the proof leans on, part 22. -/
import Derived.Test.YtndcpnlaadikoaaGreatDoorPartAu
import Derived.Deep.RegionLaw
import Derived.Shelf.RegionOpenPlain
import Derived.KernelRfl
namespace Go.Proofs.YtndcpnlaadikoaaGreatDoor
open Go.RowKit
def zCN (xs:List Value):Nat→List Value→List Value
 | _,[]=>xs
 | o,v :: r=>zCN (xs.set o v) (o+1) r
theorem zDm (j:Nat):∀(vs xs:List Value) (o:Nat),(zCN xs o vs)[j]? = if o≤j∧j<o+vs.length∧j<xs.length then vs[j - o]? else xs[j]?
 | [],xs,o=>by
   unfold zCN
   rw[if_neg (by simp;omega)]
 | v :: r,xs,o=>by
   unfold zCN
   rw[zDm j r]
   by_cases h:o=j
   ·subst h
    rw[if_neg (by omega),List.getElem?_set]
    by_cases hl:o<xs.length
    ·rw[if_pos rfl,if_pos hl,if_pos ⟨Nat.le_refl _,by simp,hl⟩];simp
    ·rw[if_pos rfl,if_neg hl,if_neg (by omega)]
     rw[List.getElem?_eq_none (by omega)]
   ·rw[List.getElem?_set_ne h]
    simp only[List.length_set,List.length_cons]
    by_cases hc:o+1≤j∧j<o+1+r.length∧j<xs.length
    ·rw[if_pos hc,if_pos (by omega),show j - o=(j - (o+1))+1 by omega,List.getElem?_cons_succ]
    ·rw[if_neg hc,if_neg (by omega)]
theorem zB1 {base:Nat} {e:TypeId} {size g n cap:Nat}:∀(vs xs:List Value) (o:Nat) (w:World),w.ownsRow base e size (.slice (some ⟨g,0,none⟩) n cap) n xs→base≤g →
 (w.setCells g o vs).ownsRow base e size (.slice (some ⟨g,0,none⟩) n cap) n (zCN xs o vs)∧Below base w (w.setCells g o vs)
 | [],xs,o,w,h,_=>⟨h,Below.refl _ _⟩
 | v :: r,xs,o,w,h,hg=>by
   obtain⟨h1,h2⟩:=h.stored o v
   obtain⟨h3,h4⟩:=zB1 r _ (o+1) _ h1 hg
   refine⟨h3,Below.trans ?_ h4⟩
   exact (Below.refl base w).setCell hg v
theorem zGM {base:Nat} {e:TypeId} {size g n cap:Nat} {xs:List Value} {w:World} (k:Nat) (hk:k≤n) (h:w.ownsRow base e size (.slice (some ⟨g,0,none⟩) n cap) n xs):w.ownsRow base e size (.slice (some ⟨g,0,none⟩) k cap) k (xs.take (k * size)):=by
 have hx:=h.1
 have hm:k * size≤n * size:=Nat.mul_le_mul_right _ hk
 rcases h.2 with ⟨h',_⟩ | ⟨g',cap',cur,h',hb,hg,hnc,hcm,hcs,htake⟩
 ·simp at h'
 ·simp only[Value.slice.injEq,Option.some.injEq,Addr.mk.injEq,and_true,true_and] at h'
  obtain⟨rfl,rfl⟩:=h'
  refine⟨by rw[List.length_take,hx];omega,.inr ⟨g,cap,cur,rfl,hb,hg,by omega,hcm,hcs,?_⟩⟩
  rw[←htake,List.take_take]
  congr 1
  omega
theorem zBw (s:Nat):∀(ch:List (List Value)),(∀c∈ch,c.length=s)→ch.flatten.length=ch.length * s
 | [],_=>by simp
 | c :: r,h=>by
   rw[List.flatten_cons,List.length_append,zBw s r (fun x hx=>h x (List.mem_cons_of_mem _ hx)),h c (List.mem_cons_self ..),List.length_cons,Nat.add_mul]
   omega
theorem zHp (s:Nat):∀(k:Nat) (ch:List (List Value)),(∀c∈ch,c.length=s)→ch.flatten.take (k * s)=(ch.take k).flatten
 | 0,ch,_=>by simp
 | k+1,[],_=>by simp
 | k+1,c :: r,h=>by
   rw[List.flatten_cons,List.take_succ_cons,List.flatten_cons,←zHp s k r (fun x hx=>h x (List.mem_cons_of_mem _ hx)),List.take_append,h c (List.mem_cons_self ..),show (k+1) * s - s=k * s by rw[Nat.add_mul];omega,List.take_of_length_le]
   rw[h c (List.mem_cons_self ..),Nat.add_mul];omega
theorem zDI (s:Nat):∀(k:Nat) (ch:List (List Value)),(∀c∈ch,c.length=s)→ch.flatten.drop (k * s)=(ch.drop k).flatten
 | 0,ch,_=>by simp
 | k+1,[],_=>by simp
 | k+1,c :: r,h=>by
   rw[List.flatten_cons,List.drop_succ_cons,←zDI s k r (fun x hx=>h x (List.mem_cons_of_mem _ hx)),List.drop_append,h c (List.mem_cons_self ..),show (k+1) * s - s=k * s by rw[Nat.add_mul];omega,List.drop_eq_nil_of_le]
   ·rfl
   ·rw[h c (List.mem_cons_self ..),Nat.add_mul];omega
theorem zEl (s:Nat) (ch:List (List Value)) (hs:∀c∈ch,c.length=s) (k:Nat) (hk:k<ch.length) (z:List Value) :
 (zCN (zCN ch.flatten (k * s) (ch.drop (k+1)).flatten) ((ch.length - 1) * s) z).take ((ch.length - 1) * s)=(ch.eraseIdx k).flatten:=by
 have hl:=zBw s ch hs
 have hd:(ch.drop (k+1)).flatten.length=(ch.length - (k+1)) * s:=by
  rw[zBw s _ (fun c hc=>hs c (List.mem_of_mem_drop hc)),List.length_drop]
 have ht:(ch.take k).flatten.length=k * s:=by
  rw[zBw s _ (fun c hc=>hs c (List.mem_of_mem_take hc)),List.length_take,Nat.min_eq_left (by omega)]
 have e1:(ch.length - 1) * s=k * s+(ch.length - (k+1)) * s:=by rw[←Nat.add_mul];congr 1;omega
 have e2:(ch.length - 1) * s≤ch.length * s:=Nat.mul_le_mul_right _ (by omega)
 apply List.ext_getElem?
 intro j
 rw[List.eraseIdx_eq_take_drop_succ,List.flatten_append]
 by_cases hj:j<(ch.length - 1) * s
 ·rw[List.getElem?_take,if_pos hj,zDm,if_neg (by omega),zDm]
  by_cases hjk:j<k * s
  ·rw[if_neg (by omega),List.getElem?_append_left (by rw[ht];exact hjk),←zHp s k ch hs,List.getElem?_take,if_pos hjk]
  ·rw[if_pos ⟨by omega,by rw[hd];omega,by rw[hl];omega⟩,List.getElem?_append_right (by rw[ht];omega),ht]
 ·rw[List.getElem?_eq_none (by rw[List.length_take];omega),List.getElem?_eq_none (by rw[List.length_append,ht,hd];omega)]
theorem zEG {P:Program} (w:World) (t e ty:TypeId) (z:Value) (zs:List Value) (ht:P.underlying t=some (.slice e)) (hv:∀w,(zeroValue e).run P w=.ok z w) (hz:(Builtin.zeroCells z.cells 1).toList=zs) (h1:∀u∈zs,u.oneCell'=true) (b o c:Nat)
 (hc:∀j,j<zs.length→(w.cell? ⟨b,o+j,none⟩).isSome=true) (hf:∀j,j<zs.length→w.frozen? ⟨b,o+j,none⟩=false) :
 (Builtin.clear_ #[t] ty #[.slice (some ⟨b,o,none⟩) 1 c]).run P w=.ok (.tuple #[]) (w.setCells b o zs):=by
 have hst:=run_storeCells_cells (P:=P) b o zs 0 w (by simpa using hc) (by simpa using hf) h1
 simp only[Nat.add_zero] at hst
 simp[Builtin.clear_,run_underlying ht,hv,hz,hst]
def EArg (w:World) (v:Value) (ch:List (List Value)):Prop :=
 ∃a c,v=.slice a ch.length c∧(ch.length≤c∧c≤maxLen)∧∀(j:Nat) (u:Value),ch.flatten[j]? = some u→∃b off,a=some ⟨b,off,none⟩∧b<w.heap.size∧w.cell? ⟨b,off+j,none⟩=some u
theorem EArg.below {w w':World} {v:Value} {ch:List (List Value)} (hb:Below w.heap.size w w') (h:EArg w v ch):EArg w' v ch:=by
 obtain⟨a,c,hv,hm,hr⟩:=h
 refine⟨a,c,hv,hm,fun j u hu=>?_⟩
 obtain⟨b,off,ha,hlt,hc⟩:=hr j u hu
 exact⟨b,off,ha,Nat.lt_of_lt_of_le hlt hb.size,(hb.cell (p:=⟨b,off+j,none⟩) hlt).trans hc⟩
theorem zMl {w:World} {base s:Nat} {e:TypeId} {v:Value} {ch:List (List Value)} (hs:∀c∈ch,c.length=s) (h:w.ownsRow base e s v ch.length ch.flatten):EArg w v ch:=by
 have hl:=zBw s ch hs
 rcases h.2 with ⟨rfl,hn⟩ | ⟨g,cap,cur,rfl,hg,hh,hc1,hc2,_,_⟩
 ·have:ch=[]:=List.eq_nil_of_length_eq_zero hn
  subst this
  exact⟨none,0,rfl,⟨Nat.le_refl _,Nat.zero_le _⟩,fun j u hu=>by simp at hu⟩
 ·refine⟨_,cap,rfl,⟨hc1,hc2⟩,fun j u hu=>?_⟩
  have hj:=(List.getElem?_eq_some_iff.1 hu).1
  exact⟨g,0,rfl,(Array.getElem?_eq_some_iff.1 hh).1,by rw[Nat.zero_add,h.cellAt j (by omega)];exact hu⟩
theorem Tryz.infoReason:(Tryz.prog.info? 145).map (fun i=>(i.zero,i.size,i.bytes))=some (some (.agg #[.int .i64 0,.int .i64 0,.slice none 0 0,.int .u64 0]),4,48):=by kernel_rfl
theorem zMm (w:World):(zeroValue 76).run Tryz.prog w=.ok (.agg #[.int .i64 0,.int .i64 0,.int .i64 0]) w:=by
 obtain⟨i0,hi,hz0,hz1,hz2⟩:=info_parts Tryz.infoLit
 simp[zeroValue,typeInfo,hi,hz0]
theorem zIq (w:World):(zeroValue 145).run Tryz.prog w=.ok (.agg #[.int .i64 0,.int .i64 0,.slice none 0 0,.int .u64 0]) w:=by
 obtain⟨i0,hi,hz0,hz1,hz2⟩:=info_parts Tryz.infoReason
 simp[zeroValue,typeInfo,hi,hz0]
theorem zBh:Tryz.prog.underlying 142=some (.slice 145):=by kernel_rfl
set_option maxHeartbeats 1600000 in
set_option maxRecDepth 100000 in
theorem zMn (ch:List (List Value)) (hs:∀c∈ch,c.length=3) (h1:∀c∈ch,∀u∈c,u.oneCell'=true) (k:Nat) (hk:k<ch.length) (base:Nat) (v:Value) (w:World) (h:w.ownsRow base 76 3 v ch.length ch.flatten) :
 Calls Tryz.prog 228 #[v,.int .i64 k,.int .i64 ((k:Int)+1)] w fun e w'=>∃x,e=.returned x∧w'.ownsRow base 76 3 x (ch.eraseIdx k).length (ch.eraseIdx k).flatten∧Below base w w':=by
 obtain⟨i0,hi0,hz0,hz1,hz2⟩:=info_parts Tryz.infoLit
 have hl:=zBw 3 ch hs
 have hEL:(ch.eraseIdx k).length=ch.length - 1:=List.length_eraseIdx_of_lt hk
 rcases h.2 with ⟨rfl,hn⟩ | ⟨g,cap,cur,rfl,hg,hh,hc1,hc2,_,_⟩
 ·omega
 obtain⟨n,hn⟩:∃n,ch.length=n+1:=⟨ch.length - 1,by omega⟩
 have hED:=zEl 3 ch hs k hk [.int .i64 0,.int .i64 0,.int .i64 0]
 obtain⟨news,hnews⟩:∃news,(ch.drop (k+1)).flatten=news:=⟨_,rfl⟩
 have hnl:news.length=(n - k) * 3:=by
  rw[←hnews,zBw 3 _ (fun c hc=>hs c (List.mem_of_mem_drop hc)),List.length_drop,hn];congr 1;omega
 have hn1:∀u∈news,u.oneCell'=true:=by
  intro u hu
  rw[←hnews] at hu
  obtain⟨c,hc,hu⟩:=List.mem_flatten.1 hu
  exact h1 c (List.mem_of_mem_drop hc) u hu
 rw[hn] at h hEL hED
 rw[hnews,show n+1 - 1=n by omega] at hED
 rw[show n+1 - 1=n by omega] at hEL
 have HD:Hid (w.drew.ownsRow base 76 3 (.slice (some ⟨g,0,none⟩) (n+1) cap) (n+1) ch.flatten):=h
 obtain⟨hs1,hb1⟩:=zB1 (base:=base) news ch.flatten (k * 3) w.drew HD.out hg
 obtain⟨W1,hW1⟩:∃W1,W1=w.drew.setCells g (k * 3) news:=⟨_,rfl⟩
 rw[←hW1] at hs1 hb1
 have HW:Hid (W1=w.drew.setCells g (k * 3) news):=hW1
 have HS1:Hid (W1.ownsRow base 76 3 (.slice (some ⟨g,0,none⟩) (n+1) cap) (n+1) (zCN ch.flatten (k * 3) news)):=hs1
 obtain⟨hs2,hb2⟩:=zB1 (base:=base) [.int .i64 0,.int .i64 0,.int .i64 0] _ (n * 3) W1 hs1 hg
 have HFIN:Hid ((W1.setCells g (n * 3) [.int .i64 0,.int .i64 0,.int .i64 0]).ownsRow base 76 3 (.slice (some ⟨g,0,none⟩) n cap) (ch.eraseIdx k).length (ch.eraseIdx k).flatten):=by
  show World.ownsRow _ _ _ _ _ _ _
  rw[hEL,←hED]
  exact zGM n (by omega) hs2
 have HBF:Hid (Below base w (W1.setCells g (n * 3) [.int .i64 0,.int .i64 0,.int .i64 0])):=((Below.refl base w).drew).trans (hb1.trans hb2)
 have hmk:k * 3≤n * 3:=Nat.mul_le_mul_right _ (by omega)
 have hcl:∀ty,(Builtin.clear_ #[27] ty #[.slice (some ⟨g,n * 3,none⟩) 1 (cap - n)]).run Tryz.prog W1=.ok (.tuple #[]) (W1.setCells g (n * 3) [.int .i64 0,.int .i64 0,.int .i64 0]) :=
  fun ty=>zEG W1 _ _ ty _ [.int .i64 0,.int .i64 0,.int .i64 0] zBM zMm (by kernel_rfl) (by intro u hu;simp at hu;rcases hu with rfl | rfl | rfl | rfl <;> rfl) g (n * 3) _ (fun j hj=>by
   have hjj:n * 3+j<(n+1) * 3:=by simp at hj;omega
   rw[HS1.out.cellAt _ hjj]
   have:n * 3+j<(zCN ch.flatten (k * 3) news).length:=by rw[HS1.out.1];exact hjj
   rw[List.getElem?_eq_getElem this];rfl) (fun j hj=>HS1.out.frozenAt _)
 have s1:Hid (news.length=(n - k) * 3):=hnl
 have s2:Hid (∀u∈news,u.oneCell'=true):=hn1
 have s3:Hid (∀t,t<news.length→(w.drew.cell? ⟨g,0+k * 3+t,none⟩).isSome=true∧w.drew.frozen? ⟨g,0+k * 3+t,none⟩=false):=by
  intro t ht
  rw[hnl] at ht
  have e0:(n - k) * 3+k * 3=n * 3:=by rw[←Nat.add_mul];congr 1;omega
  have htt:k * 3+t<(n+1) * 3:=by rw[Nat.add_mul];omega
  rw[Nat.zero_add,HD.out.cellAt _ htt,HD.out.frozenAt]
  have:k * 3+t<ch.flatten.length:=by rw[HD.out.1];exact htt
  rw[List.getElem?_eq_getElem this]
  exact⟨rfl,rfl⟩
 obtain⟨A,hA,hsrc⟩:∃A:Addr,(if cap=k+1 then some (⟨g,0,none⟩:Addr) else some ⟨g,(k+1) * 3,none⟩)=some A∧Hid (∀t u,news[t]? = some u→w.drew.cell? (A.add t)=some u):=by
  by_cases hck:cap=k+1
  ·refine⟨⟨g,0,none⟩,by simp[hck],fun t u hu=>?_⟩
   have h0:news.length=0:=by rw[hnl,show n - k=0 by omega,Nat.zero_mul]
   rw[List.length_eq_zero_iff.1 h0] at hu
   simp at hu
  ·refine⟨⟨g,(k+1) * 3,none⟩,by simp[hck],fun t u hu=>?_⟩
   have ht:=(List.getElem?_eq_some_iff.1 hu).1
   rw[hnl] at ht
   have e0:(n - k) * 3+k * 3=n * 3:=by rw[←Nat.add_mul];congr 1;omega
   have htt:(k+1) * 3+t<(n+1) * 3:=by rw[Nat.add_mul,Nat.add_mul];omega
   rw[zDZ,HD.out.cellAt _ htt]
   rw[←hnews,←zDI 3 _ ch hs,List.getElem?_drop] at hu
   exact hu
 have hkc:k+1≤cap:=by omega
 unfold maxLen at hc2
 rw[hn]
 have hkn:k≤n:=by omega
 have hcn:n+1≤cap:=by omega
 clear hc1 hW1 hs1 hb1 hs2 hb2 hED hnews hnl hn1 h1 hs hl h hEL hh hz0 hz2 hn hk hmk
 go_enter Tryz.func228,Tryz.ntmps228
 have hkk:k+(n - k)=n:=by omega
 have hlen:n+1 - (k+1)=n - k:=by omega
 have hroom:k+(n - k)≤cap:=by omega
 have hic:k≤cap:=by omega
 have hk0:(0:Int)≤(k:Int)+1:=by omega
 go_wp2_with fail
 go_region_law (refine step_append_room rfl (.tmp 22) (.tmp 25) 27 rfl 76 i0 3 zBM hi0 hz1 g 0 k cap (by simp[Act.eval,Act.put]) A (n - k) (cap - (k+1)) news (by simp[Act.eval,Act.put]) s1.out hsrc.out s2.out hroom s3.out ?_;rw[Nat.zero_add,←HW.out,hkk])
 have hne:¬cap=n:=by omega
 have hn0:(0:Int)≤(n:Int)+1:=by omega
 have hnc:n≤cap:=by omega
 go_wp2
 go_ret
 exact⟨_,rfl,HFIN.out,HBF.out⟩
set_option maxHeartbeats 1600000 in
set_option maxRecDepth 100000 in
theorem zIr (ch:List (List Value)) (hs:∀c∈ch,c.length=4) (h1:∀c∈ch,∀u∈c,u.oneCell'=true) (k:Nat) (hk:k<ch.length) (base:Nat) (v:Value) (w:World) (h:w.ownsRow base 145 4 v ch.length ch.flatten) :
 Calls Tryz.prog 149 #[v,.int .i64 k,.int .i64 ((k:Int)+1)] w fun e w'=>∃x,e=.returned x∧w'.ownsRow base 145 4 x (ch.eraseIdx k).length (ch.eraseIdx k).flatten∧Below base w w':=by
 obtain⟨i0,hi0,hz0,hz1,hz2⟩:=info_parts Tryz.infoReason
 have hl:=zBw 4 ch hs
 have hEL:(ch.eraseIdx k).length=ch.length - 1:=List.length_eraseIdx_of_lt hk
 rcases h.2 with ⟨rfl,hn⟩ | ⟨g,cap,cur,rfl,hg,hh,hc1,hc2,_,_⟩
 ·omega
 obtain⟨n,hn⟩:∃n,ch.length=n+1:=⟨ch.length - 1,by omega⟩
 have hED:=zEl 4 ch hs k hk [.int .i64 0,.int .i64 0,.slice none 0 0,.int .u64 0]
 obtain⟨news,hnews⟩:∃news,(ch.drop (k+1)).flatten=news:=⟨_,rfl⟩
 have hnl:news.length=(n - k) * 4:=by
  rw[←hnews,zBw 4 _ (fun c hc=>hs c (List.mem_of_mem_drop hc)),List.length_drop,hn];congr 1;omega
 have hn1:∀u∈news,u.oneCell'=true:=by
  intro u hu
  rw[←hnews] at hu
  obtain⟨c,hc,hu⟩:=List.mem_flatten.1 hu
  exact h1 c (List.mem_of_mem_drop hc) u hu
 rw[hn] at h hEL hED
 rw[hnews,show n+1 - 1=n by omega] at hED
 rw[show n+1 - 1=n by omega] at hEL
 have HD:Hid (w.drew.ownsRow base 145 4 (.slice (some ⟨g,0,none⟩) (n+1) cap) (n+1) ch.flatten):=h
 obtain⟨hs1,hb1⟩:=zB1 (base:=base) news ch.flatten (k * 4) w.drew HD.out hg
 obtain⟨W1,hW1⟩:∃W1,W1=w.drew.setCells g (k * 4) news:=⟨_,rfl⟩
 rw[←hW1] at hs1 hb1
 have HW:Hid (W1=w.drew.setCells g (k * 4) news):=hW1
 have HS1:Hid (W1.ownsRow base 145 4 (.slice (some ⟨g,0,none⟩) (n+1) cap) (n+1) (zCN ch.flatten (k * 4) news)):=hs1
 obtain⟨hs2,hb2⟩:=zB1 (base:=base) [.int .i64 0,.int .i64 0,.slice none 0 0,.int .u64 0] _ (n * 4) W1 hs1 hg
 have HFIN:Hid ((W1.setCells g (n * 4) [.int .i64 0,.int .i64 0,.slice none 0 0,.int .u64 0]).ownsRow base 145 4 (.slice (some ⟨g,0,none⟩) n cap) (ch.eraseIdx k).length (ch.eraseIdx k).flatten):=by
  show World.ownsRow _ _ _ _ _ _ _
  rw[hEL,←hED]
  exact zGM n (by omega) hs2
 have HBF:Hid (Below base w (W1.setCells g (n * 4) [.int .i64 0,.int .i64 0,.slice none 0 0,.int .u64 0])):=((Below.refl base w).drew).trans (hb1.trans hb2)
 have hmk:k * 4≤n * 4:=Nat.mul_le_mul_right _ (by omega)
 have hcl:∀ty,(Builtin.clear_ #[142] ty #[.slice (some ⟨g,n * 4,none⟩) 1 (cap - n)]).run Tryz.prog W1=.ok (.tuple #[]) (W1.setCells g (n * 4) [.int .i64 0,.int .i64 0,.slice none 0 0,.int .u64 0]) :=
  fun ty=>zEG W1 _ _ ty _ [.int .i64 0,.int .i64 0,.slice none 0 0,.int .u64 0] zBh zIq (by kernel_rfl) (by intro u hu;simp at hu;rcases hu with rfl | rfl | rfl | rfl <;> rfl) g (n * 4) _ (fun j hj=>by
   have hjj:n * 4+j<(n+1) * 4:=by simp at hj;omega
   rw[HS1.out.cellAt _ hjj]
   have:n * 4+j<(zCN ch.flatten (k * 4) news).length:=by rw[HS1.out.1];exact hjj
   rw[List.getElem?_eq_getElem this];rfl) (fun j hj=>HS1.out.frozenAt _)
 have s1:Hid (news.length=(n - k) * 4):=hnl
 have s2:Hid (∀u∈news,u.oneCell'=true):=hn1
 have s3:Hid (∀t,t<news.length→(w.drew.cell? ⟨g,0+k * 4+t,none⟩).isSome=true∧w.drew.frozen? ⟨g,0+k * 4+t,none⟩=false):=by
  intro t ht
  rw[hnl] at ht
  have e0:(n - k) * 4+k * 4=n * 4:=by rw[←Nat.add_mul];congr 1;omega
  have htt:k * 4+t<(n+1) * 4:=by rw[Nat.add_mul];omega
  rw[Nat.zero_add,HD.out.cellAt _ htt,HD.out.frozenAt]
  have:k * 4+t<ch.flatten.length:=by rw[HD.out.1];exact htt
  rw[List.getElem?_eq_getElem this]
  exact⟨rfl,rfl⟩
 obtain⟨A,hA,hsrc⟩:∃A:Addr,(if cap=k+1 then some (⟨g,0,none⟩:Addr) else some ⟨g,(k+1) * 4,none⟩)=some A∧Hid (∀t u,news[t]? = some u→w.drew.cell? (A.add t)=some u):=by
  by_cases hck:cap=k+1
  ·refine⟨⟨g,0,none⟩,by simp[hck],fun t u hu=>?_⟩
   have h0:news.length=0:=by rw[hnl,show n - k=0 by omega,Nat.zero_mul]
   rw[List.length_eq_zero_iff.1 h0] at hu
   simp at hu
  ·refine⟨⟨g,(k+1) * 4,none⟩,by simp[hck],fun t u hu=>?_⟩
   have ht:=(List.getElem?_eq_some_iff.1 hu).1
   rw[hnl] at ht
   have e0:(n - k) * 4+k * 4=n * 4:=by rw[←Nat.add_mul];congr 1;omega
   have htt:(k+1) * 4+t<(n+1) * 4:=by rw[Nat.add_mul,Nat.add_mul];omega
   rw[zDZ,HD.out.cellAt _ htt]
   rw[←hnews,←zDI 4 _ ch hs,List.getElem?_drop] at hu
   exact hu
 have hkc:k+1≤cap:=by omega
 unfold maxLen at hc2
 rw[hn]
 have hkn:k≤n:=by omega
 have hcn:n+1≤cap:=by omega
 clear hc1 hW1 hs1 hb1 hs2 hb2 hED hnews hnl hn1 h1 hs hl h hEL hh hz0 hz2 hn hk hmk
 go_enter Tryz.func149,Tryz.ntmps149
 have hkk:k+(n - k)=n:=by omega
 have hlen:n+1 - (k+1)=n - k:=by omega
 have hroom:k+(n - k)≤cap:=by omega
 have hic:k≤cap:=by omega
 have hk0:(0:Int)≤(k:Int)+1:=by omega
 go_wp2_with fail
 go_region_law (refine step_append_room rfl (.tmp 22) (.tmp 25) 142 rfl 145 i0 4 zBh hi0 hz1 g 0 k cap (by simp[Act.eval,Act.put]) A (n - k) (cap - (k+1)) news (by simp[Act.eval,Act.put]) s1.out hsrc.out s2.out hroom s3.out ?_;rw[Nat.zero_add,←HW.out,hkk])
 have hne:¬cap=n:=by omega
 have hn0:(0:Int)≤(n:Int)+1:=by omega
 have hnc:n≤cap:=by omega
 go_wp2
 go_ret
 exact⟨_,rfl,HFIN.out,HBF.out⟩
theorem zMo {w:World} {ch:List (List Value)} {s n c:Nat} (hs:∀x∈ch,x.length=s) (h0:0<s) (h:EArg w (.slice none n c) ch):ch=[]:=by
 obtain⟨a,c2,he,_,hr⟩:=h
 cases ch with
 | nil=>rfl
 | cons z r =>
   have hz:=hs z (List.mem_cons_self ..)
   cases z with
   | nil=>simp at hz;omega
   | cons y t =>
     obtain⟨b,off,hq,_⟩:=hr 0 y rfl
     rw[hq] at he
     cases he
set_option maxHeartbeats 800000 in
set_option maxRecDepth 100000 in
theorem zG0 (ch:List (List Value)) (hs:∀c∈ch,c.length=4) (h1:∀c∈ch,∀u∈c,u.oneCell'=true) (hl:ch.length≤9000) (u:Value) (w:World) (hu:EArg w u ch) :
 Calls Tryz.prog 148 #[u] w fun e w'=>∃x,e=.returned x∧w'.ownsRow w.heap.size 145 4 x ch.length ch.flatten∧Below w.heap.size w w':=by
 obtain⟨i0,hi0,hz0,hz1,hz2⟩:=info_parts Tryz.infoReason
 have hfl:=zBw 4 ch hs
 have HU:Hid (∀w',Below w.heap.size w w'→EArg w' u ch):=fun w' h=>EArg.below h hu
 have q22:∀(w:World) (a:Option Addr) (n c n' c':Nat),(binOp .eql 142 (.slice a n c) (.slice none n' c')).run Tryz.prog w=.ok (.bool a.isNone) w:=fun w a n c n' c'=>Lib.run_eql_slice_nil w _ _ a n c n' c' zBh
 obtain⟨a,c,he,hm,hr⟩:=id hu
 subst he
 cases a with
 | none =>
   have:=zMo hs (by omega) hu
   subst this
   clear hu HU
   go_enter Tryz.func148,Tryz.ntmps148
   go_wp2
   go_ret
   exact⟨_,rfl,World.ownsRow_nil _ _ _ _,Below.refl _ _⟩
 | some ad =>
   have HL:Hid (ch.length≤9000):=hl
   have HC:Hid (∀(j:Nat) (u:Value),ch.flatten[j]? = some u→(w.alloc (.cells #[] 145)).cell? (ad.add j)=some u):=fun j y hy=>by
    obtain⟨b,off,hq,hlt,hc⟩:=hr j y hy
    cases hq
    rw[zDZ]
    exact ((zAA w _).cell (p:=⟨b,off+j,none⟩) hlt).trans hc
   have H1:Hid (∀u∈ch.flatten,u.oneCell'=true):=fun u hu=>by
    obtain⟨c,hc,hu⟩:=List.mem_flatten.1 hu
    exact h1 c hc u hu
   have HFL:Hid (ch.flatten.length=ch.length * 4):=hfl
   have HM0:Hid ((w.alloc (.cells #[] 145)).ownsRow w.heap.size 145 4 (.slice (some ⟨w.heap.size,0,none⟩) 0 0) 0 []):=World.ownsRow_made w #[] 0 (Nat.le_refl _) (Nat.zero_le _) (by simp)
   clear hu hl hs h1 hr hm hfl
   go_enter Tryz.func148,Tryz.ntmps148
   go_wp2_with (at_builtin;refine wpList_append_own _ rfl _ _ 142 rfl w.heap.size 145 i0 (.agg #[.int .i64 0,.int .i64 0,.slice none 0 0,.int .u64 0]) 4 48 zBh hi0 hz0 hz1 hz2 rfl (by decide) _ _ _ rfl HM0.out ad ch.length c ch.flatten rfl HFL.out HC.out H1.out ?c1 ?c2 ?c3 ?_)
   case c1=>have:=HL.out;unfold maxLen;omega
   case c2=>have:=HL.out;omega
   case c3=>simp
   intro v3 w3 hown3 hgrow _
   have HB3:Hid (Below w.heap.size w w3):=(zAA _ _).grown hgrow (by simp) (by intro k hk;simp[Value.ownBlock] at hk;omega)
   have HO3:Hid (w3.ownsRow w.heap.size 145 4 v3 ch.length ch.flatten):=by show World.ownsRow _ _ _ _ _ _ _;simpa using hown3
   obtain⟨av,cv,rfl⟩:=zAE hown3
   clear hown3 hgrow
   go_wp2
   go_ret
   exact⟨_,by simp,HO3.out,HB3.out⟩
end Go.Proofs.YtndcpnlaadikoaaGreatDoor
