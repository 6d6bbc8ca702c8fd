/- What the proof leans on, part 26. -/
import Derived.Test.YtndcpnlaadikoaaGreatDoorPartAy
import Derived.KernelRfl
import Derived.Test.YtndcpnlaadikoaaGreatDoorPartAt
import Derived.Test.YtndcpnlaadikoaaGreatDoorPartAq
import Derived.Test.YtndcpnlaadikoaaGreatDoorPartAx
set_option maxRecDepth 100000
set_option maxHeartbeats 3200000
namespace Go.Proofs.YtndcpnlaadikoaaGreatDoor
open Go.RowKit
def EArg (w:World) (v:Value) (ch:List (List Value)):Prop :=
 ∃a c,v=.slice a ch.length c∧(ch.length≤c∧c≤maxLen)∧∀(j:Nat) (u:Value),ch.flatten[j]? = some u→∃b off,a=some ⟨b,off,none⟩∧b<w.heap.size∧w.cell? ⟨b,off+j,none⟩=some u
theorem EArg.below {w w':World} {v:Value} {ch:List (List Value)} (hb:Below w.heap.size w w') (h:EArg w v ch):EArg w' v ch:=by
 obtain⟨a,c,hv,hm,hr⟩:=h;refine⟨a,c,hv,hm,fun j u hu=>?_⟩
 obtain⟨b,off,ha,hlt,hc⟩:=hr j u hu;exact⟨b,off,ha,Nat.lt_of_lt_of_le hlt hb.size,(hb.cell (p:=⟨b,off+j,none⟩) hlt).trans hc⟩
theorem zRM {w:World} {base s:Nat} {e:TypeId} {v:Value} {ch:List (List Value)} (hs:∀c∈ch,c.length=s) (h:w.ownsRow base e s v ch.length ch.flatten):EArg w v ch:=by
 have hl:=zCn s ch hs;rcases h.2 with ⟨rfl,hn⟩ | ⟨g,cap,cur,rfl,hg,hh,hc1,hc2,_,_⟩
 ·have:ch=[]:=List.eq_nil_of_length_eq_zero hn
  subst this;exact⟨none,0,rfl,⟨Nat.le_refl _,Nat.zero_le _⟩,fun j u hu=>by simp at hu⟩
 ·refine⟨_,cap,rfl,⟨hc1,hc2⟩,fun j u hu=>?_⟩
  have hj:=(List.getElem?_eq_some_iff.1 hu).1;exact⟨g,0,rfl,(Array.getElem?_eq_some_iff.1 hh).1,by rw[Nat.zero_add,h.cellAt j (by omega)];exact hu⟩
theorem Tryz.infoReason:(Tryz.prog.info? 145).map (fun i=>(i.zero,i.size,i.bytes))=some (some (.agg #[.int .i64 0,.int .i64 0,.slice none 0 0,.int .u64 0]),4,48):=by kernel_rfl
theorem zRN (w:World):(zeroValue 76).run Tryz.prog w=.ok (.agg #[.int .i64 0,.int .i64 0,.int .i64 0]) w:=by
 obtain⟨i0,hi,hz0,hz1,hz2⟩:=info_parts Tryz.infoLit;simp[zeroValue,typeInfo,hi,hz0]
theorem zLu (w:World):(zeroValue 145).run Tryz.prog w=.ok (.agg #[.int .i64 0,.int .i64 0,.slice none 0 0,.int .u64 0]) w:=by
 obtain⟨i0,hi,hz0,hz1,hz2⟩:=info_parts Tryz.infoReason;simp[zeroValue,typeInfo,hi,hz0]
theorem zCS:Tryz.prog.underlying 142=some (.slice 145):=by kernel_rfl
theorem zRO (ch:List (List Value)) (hs:∀c∈ch,c.length=3) (h1:∀c∈ch,∀u∈c,u.oneCell'=true) (k:Nat) (hk:k<ch.length) (base:Nat) (v:Value) (w:World) (h:w.ownsRow base 76 3 v ch.length ch.flatten) :
 Calls Tryz.prog 228 #[v,.int .i64 k,.int .i64 ((k:Int)+1)] w fun e w'=>∃x,e=.returned x∧w'.ownsRow base 76 3 x (ch.eraseIdx k).length (ch.eraseIdx k).flatten∧Below base w w':=by
 obtain⟨i0,hi0,hz0,hz1,hz2⟩:=info_parts Tryz.infoLit;have hl:=zCn 3 ch hs;have hEL:(ch.eraseIdx k).length=ch.length - 1:=List.length_eraseIdx_of_lt hk;rcases h.2 with ⟨rfl,hn⟩ | ⟨g,cap,cur,rfl,hg,hh,hc1,hc2,_,_⟩
 ·omega
 obtain⟨n,hn⟩:∃n,ch.length=n+1:=⟨ch.length - 1,by omega⟩
 have hED:=zGl 3 ch hs k hk [.int .i64 0,.int .i64 0,.int .i64 0];obtain⟨news,hnews⟩:∃news,(ch.drop (k+1)).flatten=news:=⟨_,rfl⟩;have hnl:news.length=(n - k) * 3:=by
  rw[←hnews,zCn 3 _ (fun c hc=>hs c (List.mem_of_mem_drop hc)),List.length_drop,hn];congr 1;omega
 have hn1:∀u∈news,u.oneCell'=true:=by
  intro u hu;rw[←hnews] at hu;obtain⟨c,hc,hu⟩:=List.mem_flatten.1 hu;exact h1 c (List.mem_of_mem_drop hc) u hu
 rw[hn] at h hEL hED;rw[hnews,show n+1 - 1=n by omega] at hED
 rw[show n+1 - 1=n by omega] at hEL
 have HD:Hid (w.drew.ownsRow base 76 3 (.slice (some ⟨g,0,none⟩) (n+1) cap) (n+1) ch.flatten):=h;obtain⟨hs1,hb1⟩:=zCv (base:=base) news ch.flatten (k * 3) w.drew HD.out hg;obtain⟨W1,hW1⟩:∃W1,W1=w.drew.setCells g (k * 3) news:=⟨_,rfl⟩;rw[←hW1] at hs1 hb1;have HW:Hid (W1=w.drew.setCells g (k * 3) news):=hW1;have HS1:Hid (W1.ownsRow base 76 3 (.slice (some ⟨g,0,none⟩) (n+1) cap) (n+1) (zDN ch.flatten (k * 3) news)):=hs1;obtain⟨hs2,hb2⟩:=zCv (base:=base) [.int .i64 0,.int .i64 0,.int .i64 0] _ (n * 3) W1 hs1 hg;have HFIN:Hid ((W1.setCells g (n * 3) [.int .i64 0,.int .i64 0,.int .i64 0]).ownsRow base 76 3 (.slice (some ⟨g,0,none⟩) n cap) (ch.eraseIdx k).length (ch.eraseIdx k).flatten):=by
  show World.ownsRow _ _ _ _ _ _ _;rw[hEL,←hED];exact zGM n (by omega) hs2
 have HBF:Hid (Below base w (W1.setCells g (n * 3) [.int .i64 0,.int .i64 0,.int .i64 0])):=((Below.refl base w).drew).trans (hb1.trans hb2);have hmk:k * 3≤n * 3:=Nat.mul_le_mul_right _ (by omega)
 have hcl:∀ty,(Builtin.clear_ #[27] ty #[.slice (some ⟨g,n * 3,none⟩) 1 (cap - n)]).run Tryz.prog W1=.ok (.tuple #[]) (W1.setCells g (n * 3) [.int .i64 0,.int .i64 0,.int .i64 0]) :=
  fun ty=>zFv W1 _ _ ty _ [.int .i64 0,.int .i64 0,.int .i64 0] zB1 zRN (by kernel_rfl) (by intro u hu;simp at hu;rcases hu with rfl | rfl | rfl | rfl <;> rfl) g (n * 3) _ (fun j hj=>by
   have hjj:n * 3+j<(n+1) * 3:=by simp at hj;omega
   rw[HS1.out.cellAt _ hjj];have:n * 3+j<(zDN ch.flatten (k * 3) news).length:=by rw[HS1.out.1];exact hjj
   rw[List.getElem?_eq_getElem this];rfl) (fun j hj=>HS1.out.frozenAt _)
 have s1:Hid (news.length=(n - k) * 3):=hnl;have s2:Hid (∀u∈news,u.oneCell'=true):=hn1;have s3:Hid (∀t,t<news.length→(w.drew.cell? ⟨g,0+k * 3+t,none⟩).isSome=true∧w.drew.frozen? ⟨g,0+k * 3+t,none⟩=false):=by
  intro t ht;rw[hnl] at ht;have e0:(n - k) * 3+k * 3=n * 3:=by rw[←Nat.add_mul];congr 1;omega
  have htt:k * 3+t<(n+1) * 3:=by rw[Nat.add_mul];omega
  rw[Nat.zero_add,HD.out.cellAt _ htt,HD.out.frozenAt];have:k * 3+t<ch.flatten.length:=by rw[HD.out.1];exact htt
  rw[List.getElem?_eq_getElem this];exact⟨rfl,rfl⟩
 obtain⟨A,hA,hsrc⟩:∃A:Addr,(if cap=k+1 then some (⟨g,0,none⟩:Addr) else some ⟨g,(k+1) * 3,none⟩)=some A∧Hid (∀t u,news[t]? = some u→w.drew.cell? (A.add t)=some u):=by
  by_cases hck:cap=k+1
  ·refine⟨⟨g,0,none⟩,by simp[hck],fun t u hu=>?_⟩
   have h0:news.length=0:=by rw[hnl,show n - k=0 by omega,Nat.zero_mul]
   rw[List.length_eq_zero_iff.1 h0] at hu;simp at hu
  ·refine⟨⟨g,(k+1) * 3,none⟩,by simp[hck],fun t u hu=>?_⟩
   have ht:=(List.getElem?_eq_some_iff.1 hu).1;rw[hnl] at ht;have e0:(n - k) * 3+k * 3=n * 3:=by rw[←Nat.add_mul];congr 1;omega
   have htt:(k+1) * 3+t<(n+1) * 3:=by rw[Nat.add_mul,Nat.add_mul];omega
   rw[zEZ,HD.out.cellAt _ htt];rw[←hnews,←zEi 3 _ ch hs,List.getElem?_drop] at hu;exact hu
 have hkc:k+1≤cap:=by omega
 unfold maxLen at hc2;rw[hn];have hkn:k≤n:=by omega
 have hcn:n+1≤cap:=by omega
 clear hc1 hW1 hs1 hb1 hs2 hb2 hED hnews hnl hn1 h1 hs hl h hEL hh hz0 hz2 hn hk hmk;go_enter Tryz.func228,Tryz.ntmps228
 have hkk:k+(n - k)=n:=by omega
 have hlen:n+1 - (k+1)=n - k:=by omega
 have hroom:k+(n - k)≤cap:=by omega
 have hic:k≤cap:=by omega
 have hk0:(0:Int)≤(k:Int)+1:=by omega
 go_wp2_with fail
 go_region_law (refine step_append_room rfl (.tmp 22) (.tmp 25) 27 rfl 76 i0 3 zB1 hi0 hz1 g 0 k cap (by simp[Act.eval,Act.put]) A (n - k) (cap - (k+1)) news (by simp[Act.eval,Act.put]) s1.out hsrc.out s2.out hroom s3.out ?_;rw[Nat.zero_add,←HW.out,hkk])
 have hne:¬cap=n:=by omega
 have hn0:(0:Int)≤(n:Int)+1:=by omega
 have hnc:n≤cap:=by omega
 go_wp2
 go_ret
 exact⟨_,rfl,HFIN.out,HBF.out⟩
theorem zLv (ch:List (List Value)) (hs:∀c∈ch,c.length=4) (h1:∀c∈ch,∀u∈c,u.oneCell'=true) (k:Nat) (hk:k<ch.length) (base:Nat) (v:Value) (w:World) (h:w.ownsRow base 145 4 v ch.length ch.flatten) :
 Calls Tryz.prog 149 #[v,.int .i64 k,.int .i64 ((k:Int)+1)] w fun e w'=>∃x,e=.returned x∧w'.ownsRow base 145 4 x (ch.eraseIdx k).length (ch.eraseIdx k).flatten∧Below base w w':=by
 obtain⟨i0,hi0,hz0,hz1,hz2⟩:=info_parts Tryz.infoReason;have hl:=zCn 4 ch hs;have hEL:(ch.eraseIdx k).length=ch.length - 1:=List.length_eraseIdx_of_lt hk;rcases h.2 with ⟨rfl,hn⟩ | ⟨g,cap,cur,rfl,hg,hh,hc1,hc2,_,_⟩
 ·omega
 obtain⟨n,hn⟩:∃n,ch.length=n+1:=⟨ch.length - 1,by omega⟩
 have hED:=zGl 4 ch hs k hk [.int .i64 0,.int .i64 0,.slice none 0 0,.int .u64 0];obtain⟨news,hnews⟩:∃news,(ch.drop (k+1)).flatten=news:=⟨_,rfl⟩;have hnl:news.length=(n - k) * 4:=by
  rw[←hnews,zCn 4 _ (fun c hc=>hs c (List.mem_of_mem_drop hc)),List.length_drop,hn];congr 1;omega
 have hn1:∀u∈news,u.oneCell'=true:=by
  intro u hu;rw[←hnews] at hu;obtain⟨c,hc,hu⟩:=List.mem_flatten.1 hu;exact h1 c (List.mem_of_mem_drop hc) u hu
 rw[hn] at h hEL hED;rw[hnews,show n+1 - 1=n by omega] at hED
 rw[show n+1 - 1=n by omega] at hEL
 have HD:Hid (w.drew.ownsRow base 145 4 (.slice (some ⟨g,0,none⟩) (n+1) cap) (n+1) ch.flatten):=h;obtain⟨hs1,hb1⟩:=zCv (base:=base) news ch.flatten (k * 4) w.drew HD.out hg;obtain⟨W1,hW1⟩:∃W1,W1=w.drew.setCells g (k * 4) news:=⟨_,rfl⟩;rw[←hW1] at hs1 hb1;have HW:Hid (W1=w.drew.setCells g (k * 4) news):=hW1;have HS1:Hid (W1.ownsRow base 145 4 (.slice (some ⟨g,0,none⟩) (n+1) cap) (n+1) (zDN ch.flatten (k * 4) news)):=hs1;obtain⟨hs2,hb2⟩:=zCv (base:=base) [.int .i64 0,.int .i64 0,.slice none 0 0,.int .u64 0] _ (n * 4) W1 hs1 hg;have HFIN:Hid ((W1.setCells g (n * 4) [.int .i64 0,.int .i64 0,.slice none 0 0,.int .u64 0]).ownsRow base 145 4 (.slice (some ⟨g,0,none⟩) n cap) (ch.eraseIdx k).length (ch.eraseIdx k).flatten):=by
  show World.ownsRow _ _ _ _ _ _ _;rw[hEL,←hED];exact zGM n (by omega) hs2
 have HBF:Hid (Below base w (W1.setCells g (n * 4) [.int .i64 0,.int .i64 0,.slice none 0 0,.int .u64 0])):=((Below.refl base w).drew).trans (hb1.trans hb2);have hmk:k * 4≤n * 4:=Nat.mul_le_mul_right _ (by omega)
 have hcl:∀ty,(Builtin.clear_ #[142] ty #[.slice (some ⟨g,n * 4,none⟩) 1 (cap - n)]).run Tryz.prog W1=.ok (.tuple #[]) (W1.setCells g (n * 4) [.int .i64 0,.int .i64 0,.slice none 0 0,.int .u64 0]) :=
  fun ty=>zFv W1 _ _ ty _ [.int .i64 0,.int .i64 0,.slice none 0 0,.int .u64 0] zCS zLu (by kernel_rfl) (by intro u hu;simp at hu;rcases hu with rfl | rfl | rfl | rfl <;> rfl) g (n * 4) _ (fun j hj=>by
   have hjj:n * 4+j<(n+1) * 4:=by simp at hj;omega
   rw[HS1.out.cellAt _ hjj];have:n * 4+j<(zDN ch.flatten (k * 4) news).length:=by rw[HS1.out.1];exact hjj
   rw[List.getElem?_eq_getElem this];rfl) (fun j hj=>HS1.out.frozenAt _)
 have s1:Hid (news.length=(n - k) * 4):=hnl;have s2:Hid (∀u∈news,u.oneCell'=true):=hn1;have s3:Hid (∀t,t<news.length→(w.drew.cell? ⟨g,0+k * 4+t,none⟩).isSome=true∧w.drew.frozen? ⟨g,0+k * 4+t,none⟩=false):=by
  intro t ht;rw[hnl] at ht;have e0:(n - k) * 4+k * 4=n * 4:=by rw[←Nat.add_mul];congr 1;omega
  have htt:k * 4+t<(n+1) * 4:=by rw[Nat.add_mul];omega
  rw[Nat.zero_add,HD.out.cellAt _ htt,HD.out.frozenAt];have:k * 4+t<ch.flatten.length:=by rw[HD.out.1];exact htt
  rw[List.getElem?_eq_getElem this];exact⟨rfl,rfl⟩
 obtain⟨A,hA,hsrc⟩:∃A:Addr,(if cap=k+1 then some (⟨g,0,none⟩:Addr) else some ⟨g,(k+1) * 4,none⟩)=some A∧Hid (∀t u,news[t]? = some u→w.drew.cell? (A.add t)=some u):=by
  by_cases hck:cap=k+1
  ·refine⟨⟨g,0,none⟩,by simp[hck],fun t u hu=>?_⟩
   have h0:news.length=0:=by rw[hnl,show n - k=0 by omega,Nat.zero_mul]
   rw[List.length_eq_zero_iff.1 h0] at hu;simp at hu
  ·refine⟨⟨g,(k+1) * 4,none⟩,by simp[hck],fun t u hu=>?_⟩
   have ht:=(List.getElem?_eq_some_iff.1 hu).1;rw[hnl] at ht;have e0:(n - k) * 4+k * 4=n * 4:=by rw[←Nat.add_mul];congr 1;omega
   have htt:(k+1) * 4+t<(n+1) * 4:=by rw[Nat.add_mul,Nat.add_mul];omega
   rw[zEZ,HD.out.cellAt _ htt];rw[←hnews,←zEi 4 _ ch hs,List.getElem?_drop] at hu;exact hu
 have hkc:k+1≤cap:=by omega
 unfold maxLen at hc2;rw[hn];have hkn:k≤n:=by omega
 have hcn:n+1≤cap:=by omega
 clear hc1 hW1 hs1 hb1 hs2 hb2 hED hnews hnl hn1 h1 hs hl h hEL hh hz0 hz2 hn hk hmk;go_enter Tryz.func149,Tryz.ntmps149
 have hkk:k+(n - k)=n:=by omega
 have hlen:n+1 - (k+1)=n - k:=by omega
 have hroom:k+(n - k)≤cap:=by omega
 have hic:k≤cap:=by omega
 have hk0:(0:Int)≤(k:Int)+1:=by omega
 go_wp2_with fail
 go_region_law (refine step_append_room rfl (.tmp 22) (.tmp 25) 142 rfl 145 i0 4 zCS hi0 hz1 g 0 k cap (by simp[Act.eval,Act.put]) A (n - k) (cap - (k+1)) news (by simp[Act.eval,Act.put]) s1.out hsrc.out s2.out hroom s3.out ?_;rw[Nat.zero_add,←HW.out,hkk])
 have hne:¬cap=n:=by omega
 have hn0:(0:Int)≤(n:Int)+1:=by omega
 have hnc:n≤cap:=by omega
 go_wp2
 go_ret
 exact⟨_,rfl,HFIN.out,HBF.out⟩
theorem zRP {w:World} {ch:List (List Value)} {s n c:Nat} (hs:∀x∈ch,x.length=s) (h0:0<s) (h:EArg w (.slice none n c) ch):ch=[]:=by
 obtain⟨a,c2,he,_,hr⟩:=h;cases ch with
 | nil=>rfl
 | cons z r =>
   have hz:=hs z (List.mem_cons_self ..);cases z with
   | nil=>simp at hz;omega
   | cons y t =>
     obtain⟨b,off,hq,_⟩:=hr 0 y rfl;rw[hq] at he;cases he
theorem zJn (ch:List (List Value)) (hs:∀c∈ch,c.length=4) (h1:∀c∈ch,∀u∈c,u.oneCell'=true) (hl:ch.length≤9000) (u:Value) (w:World) (hu:EArg w u ch) :
 Calls Tryz.prog 148 #[u] w fun e w'=>∃x,e=.returned x∧w'.ownsRow w.heap.size 145 4 x ch.length ch.flatten∧Below w.heap.size w w':=by
 obtain⟨i0,hi0,hz0,hz1,hz2⟩:=info_parts Tryz.infoReason;have hfl:=zCn 4 ch hs;have HU:Hid (∀w',Below w.heap.size w w'→EArg w' u ch):=fun w' h=>EArg.below h hu
 have q22:∀(w:World) (a:Option Addr) (n c n' c':Nat),(binOp .eql 142 (.slice a n c) (.slice none n' c')).run Tryz.prog w=.ok (.bool a.isNone) w:=fun w a n c n' c'=>Lib.run_eql_slice_nil w _ _ a n c n' c' zCS
 obtain⟨a,c,he,hm,hr⟩:=id hu;subst he;cases a with
 | none =>
   have:=zRP hs (by omega) hu
   subst this;clear hu HU;go_enter Tryz.func148,Tryz.ntmps148
   go_wp2
   go_ret
   exact⟨_,rfl,World.ownsRow_nil _ _ _ _,Below.refl _ _⟩
 | some ad =>
   have HL:Hid (ch.length≤9000):=hl;have HC:Hid (∀(j:Nat) (u:Value),ch.flatten[j]? = some u→(w.alloc (.cells #[] 145)).cell? (ad.add j)=some u):=fun j y hy=>by
    obtain⟨b,off,hq,hlt,hc⟩:=hr j y hy;cases hq
    rw[zEZ];exact ((zAA w _).cell (p:=⟨b,off+j,none⟩) hlt).trans hc
   have H1:Hid (∀u∈ch.flatten,u.oneCell'=true):=fun u hu=>by
    obtain⟨c,hc,hu⟩:=List.mem_flatten.1 hu;exact h1 c hc u hu
   have HFL:Hid (ch.flatten.length=ch.length * 4):=hfl;have HM0:Hid ((w.alloc (.cells #[] 145)).ownsRow w.heap.size 145 4 (.slice (some ⟨w.heap.size,0,none⟩) 0 0) 0 []):=World.ownsRow_made w #[] 0 (Nat.le_refl _) (Nat.zero_le _) (by simp)
   clear hu hl hs h1 hr hm hfl;go_enter Tryz.func148,Tryz.ntmps148
   go_wp2_with (at_builtin;refine wpList_append_own _ rfl _ _ 142 rfl w.heap.size 145 i0 (.agg #[.int .i64 0,.int .i64 0,.slice none 0 0,.int .u64 0]) 4 48 zCS hi0 hz0 hz1 hz2 rfl (by decide) _ _ _ rfl HM0.out ad ch.length c ch.flatten rfl HFL.out HC.out H1.out ?c1 ?c2 ?c3 ?_)
   case c1=>have:=HL.out;unfold maxLen;omega
   case c2=>have:=HL.out;omega
   case c3=>simp
   intro v3 w3 hown3 hgrow _;have HB3:Hid (Below w.heap.size w w3):=(zAA _ _).grown hgrow (by simp) (by intro k hk;simp[Value.ownBlock] at hk;omega)
   have HO3:Hid (w3.ownsRow w.heap.size 145 4 v3 ch.length ch.flatten):=by show World.ownsRow _ _ _ _ _ _ _;simpa using hown3
   obtain⟨av,cv,rfl⟩:=zAC hown3;clear hown3 hgrow;go_wp2
   go_ret
   exact⟨_,by simp,HO3.out,HB3.out⟩
theorem zHy {α β:Type} (f:α→β) (l:List α) (k:Nat):(l.map f).eraseIdx k=(l.eraseIdx k).map f:=by
 rw[List.eraseIdx_eq_take_drop_succ,List.eraseIdx_eq_take_drop_succ,List.map_append,List.map_take,List.map_drop]
theorem zKk (l:Cla):(l.map zDS).flatten=zBI l:=by unfold zBI;rw[List.flatMap]
theorem zKl (l:Cla):∀c∈l.map zDS,c.length=3:=by
 intro c hc;obtain⟨t,_,rfl⟩:=List.mem_map.1 hc;rfl
theorem zLw (l:Cla):∀c∈l.map zDS,∀u∈c,u.oneCell'=true:=by
 intro c hc u hu;obtain⟨t,_,rfl⟩:=List.mem_map.1 hc;simp[zDS] at hu;rcases hu with rfl | rfl | rfl <;> rfl
theorem zR6 {base:Nat} {w:World} {v:Value} {l:Cla} (h:LOwn base w v l):w.ownsRow base 76 3 v (l.map zDS).length (l.map zDS).flatten:=by
 rw[List.length_map,zKk];exact h
theorem zR7 {base:Nat} {w:World} {v:Value} {l:Cla} (h:w.ownsRow base 76 3 v (l.map zDS).length (l.map zDS).flatten):LOwn base w v l:=by
 rw[List.length_map,zKk] at h;exact h
def zR8 (F:Nat) (caps:Array Value) (enough:Cla→Bool) (n:Nat) (w:World):Prop :=
 (∀(args:Array Value) (w':World),Sem.run Tryz.prog (callFunc F args) w'=.ok (.enter F args) w') ∧
 ∀(c:Cla) (v:Value) (w':World),c.length≤n→Below w.heap.size w w'→LArg w' v c→Calls Tryz.prog F (#[v]++caps) w' fun e w''=>e=.returned (.bool (enough c))∧Below w'.heap.size w' w''
theorem zSa (l:Cla) (k:Nat) (hk:k<l.length) (base:Nat) (v:Value) (w:World) (h:LOwn base w v l) :
 Calls Tryz.prog 228 #[v,.int .i64 k,.int .i64 ((k:Int)+1)] w fun e w'=>∃x,e=.returned x∧LOwn base w' x (l.eraseIdx k)∧Below base w w':=by
 refine (zRO (l.map zDS) (zKl l) (zLw l) k (by rw[List.length_map];exact hk) base v w (zR6 h)).mono ?_
 rintro e w' ⟨x,rfl,hx,hb⟩;rw[zHy] at hx;exact⟨x,rfl,zR7 hx,hb⟩
theorem zI4 {α:Type} (enough:List α→Bool) (k:Nat) (out:List α):zAx enough (k+1) out=zAx enough k (if enough (out.eraseIdx k) then out.eraseIdx k else out):=rfl
theorem zN6 (F:Nat) (caps:Array Value) (enough:Cla→Bool) (l:Cla) (hl:l.length≤900) (v:Value) (w:World) (hv:LArg w v l) (hF:zR8 F caps enough l.length w) :
 Calls Tryz.prog 142 #[v,.func (.func F) #[] caps] w fun e w'=>∃x,e=.returned x∧LOwn w.heap.size w' x (zAx enough l.length l)∧Below w.heap.size w w':=by
 have HV:Hid (LArg w v l):=hv;have HL:Hid (l.length≤900):=hl;have HF:Hid (zR8 F caps enough l.length w):=hF;obtain⟨R,hR⟩:∃R,zAx enough l.length l=R:=⟨_,rfl⟩;have HR:Hid (R=zAx enough l.length l):=hR.symm;rw[hR];obtain⟨a,c,rfl,_,_⟩:=hv;clear hF hR;go_enter Tryz.func142,Tryz.ntmps142
 go_wp2_with fail
 refine (zIs l HL.out _ _ HV.out).mono ?_;rintro e w1 ⟨x,rfl,hx,hb1⟩;have HX:Hid (LOwn w.heap.size w1 x l):=hx;have HB1:Hid (Below w.heap.size w w1):=hb1;obtain⟨ax,cx,rfl⟩:=zAC (show w1.ownsRow _ _ _ _ _ _ from hx)
 clear hx hb1;go_wp2_with fail
 go_loopw [5,6] (fun o i wr=>∃(out:Cla) (k:Nat),i=.int .i64 ((k:Int) - 1)∧k≤out.length∧Hid (out.length≤l.length)∧LOwn w.heap.size wr o out∧Hid (R=zAx enough k out)∧Below w.heap.size w wr) (fun _ i _=>(intOf i+1).toNat)
 case atStart=>exact⟨l,l.length,rfl,Nat.le_refl _,Nat.le_refl _,HX.out,HR,HB1.out⟩
 case round =>
  obtain⟨out,k,rfl,hk,hlo,ho,hrd,hbw⟩:=hrel;have HO:Hid (LOwn w.heap.size wr u5 out):=ho;have HBW:Hid (Below w.heap.size w wr):=hbw;obtain⟨ao,co,rfl⟩:=zAC (show wr.ownsRow _ _ _ _ _ _ from ho)
  clear ho hbw;cases k with
  | zero =>
    have HE:Hid (R=out):=hrd.out;clear hrd;go_wp2
    go_ret
    exact⟨_,rfl,by rw[HE.out];exact HO.out,HBW.out⟩
  | succ k =>
    have hke:((k+1:Nat):Int) - 1=(k:Int):=by omega
    rw[hke];have HST:Hid (R=zAx enough k (if enough (out.eraseIdx k) then out.eraseIdx k else out)):=hrd.out
    have HLO:Hid (out.length≤900):=Nat.le_trans hlo.out HL.out;have HEL:Hid ((out.eraseIdx k).length=out.length - 1):=List.length_eraseIdx_of_lt (by omega)
    have hk9:k+1≤900:=Nat.le_trans hk HLO.out;clear hrd hke;go_wp2_with fail
    refine (zIs out HLO.out _ _ HO.out.arg).mono ?_;rintro e w2 ⟨y,rfl,hy,hb2⟩;have HY:Hid (LOwn w.heap.size w2 y out):=zBJ HBW.out.size hy;have HY2:Hid (LOwn wr.heap.size w2 y out):=hy;have HO2:Hid (LOwn w.heap.size w2 (.slice ao (List.length out) co) out):=zAB HO.out hb2;have HBR:Hid (Below wr.heap.size wr w2):=hb2;have HB2:Hid (Below w.heap.size w w2):=HBW.out.trans (hb2.mono HBW.out.size);obtain⟨ay,cy,rfl⟩:=zAC (show w2.ownsRow _ _ _ _ _ _ from hy)
    clear hy hb2;go_wp2_with fail
    refine (zSa out k (by omega) wr.heap.size _ _ HY2.out).mono ?_
    rintro e w3 ⟨z,rfl,hz,hb3⟩;have HZ:Hid (LOwn w.heap.size w3 z (out.eraseIdx k)):=zBJ HBW.out.size hz;have HBR3:Hid (Below wr.heap.size wr w3):=HBR.out.trans hb3;have HO3:Hid (LOwn w.heap.size w3 (.slice ao (List.length out) co) out):=zAB HO.out HBR3.out;have HB3:Hid (Below w.heap.size w w3):=HBW.out.trans (HBR3.out.mono HBW.out.size);obtain⟨az,cz,rfl⟩:=zAC (show w3.ownsRow _ _ _ _ _ _ from hz)
    have HCL:Hid (Calls Tryz.prog F (#[.slice az (out.eraseIdx k).length cz]++caps) w3 fun e w''=>e=.returned (.bool (enough (out.eraseIdx k)))∧Below w3.heap.size w3 w''):=HF.out.2 _ _ _ (by have:=hlo.out;have:=HEL.out;omega) HB3.out HZ.out.arg
    obtain⟨B,hB⟩:∃B,enough (out.eraseIdx k)=B:=⟨_,rfl⟩;rw[hB] at HCL HST;obtain⟨E,hE⟩:∃E,out.eraseIdx k=E:=⟨_,rfl⟩;rw[hE] at HCL HST HEL HZ ⊢;have HLK:Hid (E.length≤l.length):=by have:=hlo.out;have:=HEL.out;show _≤_;omega
    have hkE:k≤E.length:=by have:=HEL.out;omega
    clear hz hb3 hB hE;go_wp2_with fail
    rw[HF.out.1,Oper.upon_enter];refine HCL.out.mono ?_;rintro e w4 ⟨rfl,hb4⟩;have HO4:Hid (LOwn w.heap.size w4 (.slice ao (List.length out) co) out):=zAB HO3.out hb4;have HZ4:Hid (LOwn w.heap.size w4 (.slice az (List.length E) cz) E):=zAB HZ.out hb4;have HB4:Hid (Below w.heap.size w w4):=HB3.out.trans (hb4.mono HB3.out.size);clear hb4;cases B
    ·have HN:Hid (R=zAx enough k out):=HST.out
     clear HST;go_wp2
     go_roundw
     case rel=>exact⟨out,k,rfl,by omega,hlo,HO4.out,HN,HB4.out⟩
     case measure=>simp[intOf]
    ·have HN:Hid (R=zAx enough k E):=HST.out
     clear HST;go_wp2
     go_roundw
     case rel=>exact⟨E,k,rfl,hkE,HLK,HZ4.out,HN,HB4.out⟩
     case measure=>simp[intOf]
abbrev RV:=(MStep×Nat)×Value
def zA8 (x:RV):List Value:=[.int .i64 x.1.1.kind,.int .i64 x.1.1.con,x.2,.int .u64 (x.1.2:Int)]
def IsSl (x:RV):Prop:=∃a n c,x.2=.slice a n c
theorem zDd (l:List RV):∀c∈l.map zA8,c.length=4:=by
 intro c hc;obtain⟨t,_,rfl⟩:=List.mem_map.1 hc;rfl
theorem zE9 (l:List RV) (h:∀x∈l,IsSl x):∀c∈l.map zA8,∀u∈c,u.oneCell'=true:=by
 intro c hc u hu;obtain⟨t,ht,rfl⟩:=List.mem_map.1 hc;obtain⟨a,n,c,he⟩:=h t ht;simp[zA8,he] at hu;rcases hu with rfl | rfl | rfl | rfl <;> rfl
def ROwn (base:Nat) (w:World) (v:Value) (l:List RV):Prop:=w.ownsRow base 145 4 v l.length (l.map zA8).flatten
def zGN (w:World) (v:Value) (l:List RV):Prop:=EArg w v (l.map zA8)
theorem zGN.below {w w':World} {v:Value} {l:List RV} (hb:Below w.heap.size w w') (h:zGN w v l):zGN w' v l:=EArg.below hb h
theorem zPg {w:World} {v:Value} {l:List RV} (h:zGN w v l):∃a c,v=.slice a l.length c:=by
 obtain⟨a,c,rfl,_,_⟩:=h;exact⟨a,c,by rw[List.length_map]⟩
theorem ROwn.arg {base:Nat} {w:World} {v:Value} {l:List RV} (h:ROwn base w v l):zGN w v l:=zRM (zDd l) (by rw[List.length_map];exact h)
theorem zDu {base base':Nat} {w:World} {v:Value} {l:List RV} (hb:base'≤base) (h:ROwn base w v l):ROwn base' w v l:=World.ownsRow.mono h hb
def zR9 (F:Nat) (caps:Array Value) (enough:List RV→Bool) (l:List RV) (w:World):Prop :=
 (∀(args:Array Value) (w':World),Sem.run Tryz.prog (callFunc F args) w'=.ok (.enter F args) w') ∧
 ∀(c:List RV) (v:Value) (w':World),c.length≤l.length→(∀x∈c,x∈l)→Below w.heap.size w w'→zGN w' v c→Calls Tryz.prog F (#[v]++caps) w' fun e w''=>e=.returned (.bool (enough c))∧Below w'.heap.size w' w''
theorem zN7 (l:List RV) (h1:∀x∈l,IsSl x) (k:Nat) (hk:k<l.length) (base:Nat) (v:Value) (w:World) (h:ROwn base w v l) :
 Calls Tryz.prog 149 #[v,.int .i64 k,.int .i64 ((k:Int)+1)] w fun e w'=>∃x,e=.returned x∧ROwn base w' x (l.eraseIdx k)∧Below base w w':=by
 refine (zLv (l.map zA8) (zDd l) (zE9 l h1) k (by rw[List.length_map];exact hk) base v w (by rw[List.length_map];exact h)).mono ?_
 rintro e w' ⟨x,rfl,hx,hb⟩;rw[zHy,List.length_map] at hx;exact⟨x,rfl,hx,hb⟩
theorem zGm (l:List RV) (h1:∀x∈l,IsSl x) (hl:l.length≤9000) (v:Value) (w:World) (h:zGN w v l) :
 Calls Tryz.prog 148 #[v] w fun e w'=>∃x,e=.returned x∧ROwn w.heap.size w' x l∧Below w.heap.size w w':=by
 refine (zJn (l.map zA8) (zDd l) (zE9 l h1) (by rw[List.length_map];exact hl) v w h).mono ?_
 rintro e w' ⟨x,rfl,hx,hb⟩;rw[List.length_map] at hx;exact⟨x,rfl,hx,hb⟩
theorem zJo (F:Nat) (caps:Array Value) (enough:List RV→Bool) (l:List RV) (hsl:∀x∈l,IsSl x) (hl:l.length≤9000) (v:Value) (w:World) (hv:zGN w v l) (hF:zR9 F caps enough l w) :
 Calls Tryz.prog 89 #[v,.func (.func F) #[] caps] w fun e w'=>∃x,e=.returned x∧ROwn w.heap.size w' x (zAx enough l.length l)∧Below w.heap.size w w':=by
 have HV:Hid (zGN w v l):=hv;have HSL:Hid (∀x∈l,IsSl x):=hsl;have HL:Hid (l.length≤9000):=hl;have HF:Hid (zR9 F caps enough l w):=hF;obtain⟨R,hR⟩:∃R,zAx enough l.length l=R:=⟨_,rfl⟩;have HR:Hid (R=zAx enough l.length l):=hR.symm;rw[hR];obtain⟨a,c,rfl⟩:=zPg hv;clear hF hR hsl;go_enter Tryz.func89,Tryz.ntmps89
 go_wp2_with fail
 refine (zGm l HSL.out HL.out _ _ HV.out).mono ?_;rintro e w1 ⟨x,rfl,hx,hb1⟩;have HX:Hid (ROwn w.heap.size w1 x l):=hx;have HB1:Hid (Below w.heap.size w w1):=hb1;obtain⟨ax,cx,rfl⟩:=zAC (show w1.ownsRow _ _ _ _ _ _ from hx)
 clear hx hb1;go_wp2_with fail
 go_loopw [5,6] (fun o i wr=>∃(out:List RV) (k:Nat),i=.int .i64 ((k:Int) - 1)∧k≤out.length∧Hid (out.length≤l.length)∧Hid (∀x∈out,x∈l)∧ROwn w.heap.size wr o out∧Hid (R=zAx enough k out)∧Below w.heap.size w wr) (fun _ i _=>(intOf i+1).toNat)
 case atStart=>exact⟨l,l.length,rfl,Nat.le_refl _,Nat.le_refl _,fun _ h=>h,HX.out,HR,HB1.out⟩
 case round =>
  obtain⟨out,k,rfl,hk,hlo,hso,ho,hrd,hbw⟩:=hrel;have HSO:Hid (∀x∈out,IsSl x):=fun x hx=>HSL.out x (hso.out x hx)
  have HO:Hid (ROwn w.heap.size wr u5 out):=ho;have HBW:Hid (Below w.heap.size w wr):=hbw;obtain⟨ao,co,rfl⟩:=zAC (show wr.ownsRow _ _ _ _ _ _ from ho)
  clear ho hbw;cases k with
  | zero =>
    have HE:Hid (R=out):=hrd.out;clear hrd;go_wp2
    go_ret
    exact⟨_,rfl,by rw[HE.out];exact HO.out,HBW.out⟩
  | succ k =>
    have hke:((k+1:Nat):Int) - 1=(k:Int):=by omega
    rw[hke];have HST:Hid (R=zAx enough k (if enough (out.eraseIdx k) then out.eraseIdx k else out)):=hrd.out
    have HLO:Hid (out.length≤9000):=Nat.le_trans hlo.out HL.out;have HEL:Hid ((out.eraseIdx k).length=out.length - 1):=List.length_eraseIdx_of_lt (by omega)
    have hk9:k+1≤9000:=Nat.le_trans hk HLO.out;clear hrd hke;go_wp2_with fail
    refine (zGm out HSO.out HLO.out _ _ HO.out.arg).mono ?_;rintro e w2 ⟨y,rfl,hy,hb2⟩;have HY:Hid (ROwn w.heap.size w2 y out):=zDu HBW.out.size hy;have HY2:Hid (ROwn wr.heap.size w2 y out):=hy;have HO2:Hid (ROwn w.heap.size w2 (.slice ao (List.length out) co) out):=zAB HO.out hb2;have HBR:Hid (Below wr.heap.size wr w2):=hb2;have HB2:Hid (Below w.heap.size w w2):=HBW.out.trans (hb2.mono HBW.out.size);obtain⟨ay,cy,rfl⟩:=zAC (show w2.ownsRow _ _ _ _ _ _ from hy)
    clear hy hb2;go_wp2_with fail
    refine (zN7 out HSO.out k (by omega) wr.heap.size _ _ HY2.out).mono ?_
    rintro e w3 ⟨z,rfl,hz,hb3⟩;have HZ:Hid (ROwn w.heap.size w3 z (out.eraseIdx k)):=zDu HBW.out.size hz;have HBR3:Hid (Below wr.heap.size wr w3):=HBR.out.trans hb3;have HO3:Hid (ROwn w.heap.size w3 (.slice ao (List.length out) co) out):=zAB HO.out HBR3.out;have HB3:Hid (Below w.heap.size w w3):=HBW.out.trans (HBR3.out.mono HBW.out.size);obtain⟨az,cz,rfl⟩:=zAC (show w3.ownsRow _ _ _ _ _ _ from hz)
    have HCL:Hid (Calls Tryz.prog F (#[.slice az (out.eraseIdx k).length cz]++caps) w3 fun e w''=>e=.returned (.bool (enough (out.eraseIdx k)))∧Below w3.heap.size w3 w''):=HF.out.2 _ _ _ (by have:=hlo.out;have:=HEL.out;omega) (fun x hx=>hso.out x (List.mem_of_mem_eraseIdx hx)) HB3.out HZ.out.arg
    obtain⟨B,hB⟩:∃B,enough (out.eraseIdx k)=B:=⟨_,rfl⟩;rw[hB] at HCL HST;have HSE:Hid (∀x∈out.eraseIdx k,x∈l):=fun x hx=>hso.out x (List.mem_of_mem_eraseIdx hx)
    obtain⟨E,hE⟩:∃E,out.eraseIdx k=E:=⟨_,rfl⟩;rw[hE] at HCL HST HEL HZ HSE ⊢;have HLK:Hid (E.length≤l.length):=by have:=hlo.out;have:=HEL.out;show _≤_;omega
    have hkE:k≤E.length:=by have:=HEL.out;omega
    clear hz hb3 hB hE;go_wp2_with fail
    rw[HF.out.1,Oper.upon_enter];refine HCL.out.mono ?_;rintro e w4 ⟨rfl,hb4⟩;have HO4:Hid (ROwn w.heap.size w4 (.slice ao (List.length out) co) out):=zAB HO3.out hb4;have HZ4:Hid (ROwn w.heap.size w4 (.slice az (List.length E) cz) E):=zAB HZ.out hb4;have HB4:Hid (Below w.heap.size w w4):=HB3.out.trans (hb4.mono HB3.out.size);clear hb4;cases B
    ·have HN:Hid (R=zAx enough k out):=HST.out
     clear HST;go_wp2
     go_roundw
     case rel=>exact⟨out,k,rfl,by omega,hlo,hso,HO4.out,HN,HB4.out⟩
     case measure=>simp[intOf]
    ·have HN:Hid (R=zAx enough k E):=HST.out
     clear HST;go_wp2
     go_roundw
     case rel=>exact⟨E,k,rfl,hkE,HLK,HSE,HZ4.out,HN,HB4.out⟩
     case measure=>simp[intOf]
theorem zSb (vs:List MVar) (hva:zAQ vs) (pts:List Nat) (any:Cla) (hla:any.length≤100) (g0:Nat) (hgw:∀i,g0.testBit i=true→(zAE vs).testBit i=true) (sv pv u:Value) (w:World) (hv:VArg w sv vs) (hp:PArg w pv pts) (hu:LArg w u any) (hT:TabT w) :
 Calls Tryz.prog 153 #[sv,pv,u,.int .u64 g0] w fun e w'=>∃x,e=.returned x∧LOwn w.heap.size w' x (whyP vs pts any g0)∧Below w.heap.size w w':=by
 have HV:Hid (∀w',Below w.heap.size w w'→VArg w' sv vs):=fun w' h=>VArg.below h hv
 have HP:Hid (∀w',Below w.heap.size w w'→PArg w' pv pts):=fun w' h=>PArg.below h hp
 have HU:Hid (∀w',Below w.heap.size w w'→LArg w' u any):=fun w' h=>LArg.below h hu
 have HT:Hid (∀w',Below w.heap.size w w'→TabT w'):=fun w' h=>hT.below h
 have HVO:Hid (zAQ vs):=hva;have HLA:Hid (any.length≤100):=hla;have HGW:Hid (∀i,g0.testBit i=true→(zAE vs).testBit i=true):=hgw;have HG36:Hid (g0<2 ^ 36):=Nat.lt_of_le_of_lt (Nat.le_of_testBit hgw) (zBh vs hva.1);obtain⟨h,hh⟩:∃h,zAH vs any=h:=⟨_,rfl⟩;have HH:Hid (zAH vs any=h):=hh;have HH36:Hid (h<2 ^ 36):=by rw[←hh];exact zFi vs hva.1 _
 obtain⟨LP,hLP⟩:∃LP,zCF (fun g=>zBv vs pts (h ||| g)) (g0+1) g0 g0=LP:=⟨_,rfl⟩
 have HWY:Hid (whyP vs pts any g0=any++zBY vs LP):=by show _=_;unfold whyP;rw[hh,hLP]
 have HLE:Hid (LP=zCF (fun g=>zBv vs pts (h ||| g)) (g0+1) g0 g0):=hLP.symm
 obtain⟨a1,c1,rfl,_,_⟩:=hv;obtain⟨a2,c2,rfl,_,_⟩:=hp;obtain⟨a3,c3,rfl,_,_⟩:=hu;clear hva hla hgw hh hLP hT;go_enter Tryz.func153,Tryz.ntmps153
 go_wp2_with fail
 refine (zCm vs HVO.out any _ _ _ (HV.out _ (Below.refl _ _)) (HU.out _ (Below.refl _ _))).mono ?_;rintro e w1 ⟨rfl,hb1⟩;rw[HH.out];have HB1:Hid (Below w.heap.size w w1):=hb1;clear hb1;go_wp2_with fail
 go_loopw [3,10] (fun g r wr=>∃gg rr:Nat,g=.int .u64 (gg:Int)∧r=.int .u64 (rr:Int)∧Hid (gg<2 ^ 36)∧Hid (rr<2 ^ 36)∧Hid (LP=zCF (fun g=>zBv vs pts (h ||| g)) (rr+1) gg rr)∧Hid (∀i,gg.testBit i=true→(zAE vs).testBit i=true)∧Hid (Below w.heap.size w wr)) (fun _ r _=>(intOf r).toNat)
 case atStart=>exact⟨g0,g0,rfl,rfl,HG36,HG36,HLE,HGW,HB1⟩
 case round =>
  obtain⟨gg,rr,rfl,rfl,hg36,hr36,hle,hgw,hbw⟩:=hrel;by_cases hr0:rr=0
  ·subst hr0
   have HEQ:Hid (LP=gg):=by show _=_;rw[hle.out];rfl
   clear hle;go_wp2_with fail
   refine (zKW any (by have:=HLA.out;omega) _ _ (HU.out _ hbw.out)).mono ?_
   rintro e w2 ⟨x,rfl,hx,hb2⟩;have HB2:Hid (Below w.heap.size w w2):=hbw.out.trans (hb2.mono hbw.out.size);have HX:Hid (LOwn w.heap.size w2 x any):=zBJ hbw.out.size hx;have HSZ:Hid (w.heap.size≤w2.heap.size):=HB2.out.size;obtain⟨ax,cx,rfl⟩:=zAC (show w2.ownsRow _ _ _ _ _ _ from hx)
   clear hx hb2;go_wp2_with fail
   refine (zHg vs HVO.out gg hgw.out _ _ (HV.out _ HB2.out) (HT.out _ HB2.out)).mono ?_;rintro e w3 ⟨y,rfl,hy,hb3⟩;have HX3:Hid (LOwn w.heap.size w3 (.slice ax (List.length any) cx) any):=zAB HX.out hb3;have HB3:Hid (Below w.heap.size w w3):=HB2.out.trans (hb3.mono HB2.out.size);have HLL:Hid ((zBY vs gg).length≤36):=zD7 _ _;obtain⟨L,hL⟩:∃L,zBY vs gg=L:=⟨_,rfl⟩;have HRE:Hid (whyP vs pts any g0=any++L):=by show _=_;rw[HWY.out,HEQ.out,hL]
   rw[hL] at hy HLL;have HY:Hid (LArg w3 y L):=hy.arg;have HXL:Hid (∀g,(Value.slice ax (List.length any) cx).ownBlock=some g→w.heap.size≤g):=fun g hg=>((show w3.ownsRow _ _ _ _ _ _ from HX3.out).lt g hg).1
   obtain⟨ay,cy,rfl⟩:=zAC (show w3.ownsRow _ _ _ _ _ _ from hy)
   clear hy hb3 hL;go_wp2_with (at_builtin;refine zCQ 28 zDL rfl _ _ rfl w.heap.size _ any rfl HX3.out _ L rfl HY.out ?c1 ?c2 ?_)
   case c1=>have:=HLL.out;have:=HLA.out;omega
   case c2=>exact HB3.out.size
   intro v4 w4 hown4 hgrow;have HO4:Hid (LOwn w.heap.size w4 v4 (any++L)):=hown4;have HB4:Hid (Below w.heap.size w w4):=HB3.out.grown hgrow HB3.out.size (fun g hg=>HXL.out g hg)
   obtain⟨av,cv,rfl⟩:=zAC (show w4.ownsRow _ _ _ _ _ _ from hown4)
   clear hown4 hgrow;go_wp2
   go_ret
   exact⟨_,rfl,by rw[HRE.out];exact HO4.out,HB4.out⟩
  ·have HST:Hid (LP=zCF (fun g=>zBv vs pts (h ||| g)) ((rr &&& (rr - 1))+1) (if zBv vs pts (h ||| zAL gg (2 ^ Lib.ctz 64 rr)) then zAL gg (2 ^ Lib.ctz 64 rr) else gg) (rr &&& (rr - 1))):=by
    show _=_;rw[hle.out];exact zNs _ gg rr hr0 (by have:=hr36.out;omega)
   obtain⟨hlow,hk⟩:=Lib.lowest_bit 64 rr hr0 (by have:=hr36.out;omega)
   have hless:=zG6 rr hr0 (by have:=hr36.out;omega)
   obtain⟨hk36⟩:Nonempty (Lib.ctz 64 rr<36):=⟨(zEu rr hr0 hr36.out).2⟩;have hpow:2 ^ Lib.ctz 64 rr<2 ^ 36:=Nat.pow_lt_pow_right (by omega) hk36
   obtain⟨tt,htt⟩:∃tt,2 ^ Lib.ctz 64 rr=tt:=⟨_,rfl⟩;rw[htt] at hlow hpow HST;have hneg:IntKind.u64.wrap (-(rr:Int))=((18446744073709551616 - rr:Nat):Int):=by rw[IntKind.wrap_u64];have:=hr36.out;omega
   have hand:=bits_and_u64_nat rr (18446744073709551616 - rr) (by have:=hr36.out;omega) (by omega)
   have hlow':rr &&& (18446744073709551616 - rr)=tt:=hlow;rw[hlow'] at hand;obtain⟨N0,hN0⟩:∃N0,18446744073709551616 - rr=N0:=⟨_,rfl⟩;rw[hN0] at hneg hand;have hnot:=zAg gg tt (by have:=hg36.out;omega) (by omega)
   obtain⟨sp,hsp⟩:∃sp,zAL gg tt=sp:=⟨_,rfl⟩;have HSP36:Hid (sp<2 ^ 36):=by rw[←hsp];exact zB9 36 _ _ hg36.out
   have HSW:Hid (∀i,sp.testBit i=true→(zAE vs).testBit i=true):=fun i hi=>by
    rw[←hsp,zAO,Bool.and_eq_true] at hi;exact hgw.out i hi.1
   rw[hsp] at hnot HST;obtain⟨r2,hr2⟩:∃r2,rr &&& (rr - 1)=r2:=⟨_,rfl⟩;have hsub:IntKind.u64.wrap ((rr:Int) - 1)=((rr - 1:Nat):Int):=by rw[IntKind.wrap_u64];have:=hr36.out;omega
   have hand2:=bits_and_u64_nat rr (rr - 1) (by have:=hr36.out;omega) (by have:=hr36.out;omega)
   obtain⟨r1,hr1⟩:∃r1,rr - 1=r1:=⟨_,rfl⟩;rw[hr2] at hand2 hless HST;rw[hr1] at hsub hand2;have HR236:Hid (r2<2 ^ 36):=by have:=hr36.out;show _<_;omega
   have HLS:Hid (r2<rr):=hless;have hne:((rr:Int) != 0)=true:=by simpa using hr0
   have hor:=bits_or_u64_nat h sp (by have:=HH36.out;omega) (by have:=HSP36.out;omega)
   obtain⟨hs,hhs⟩:∃hs,h ||| sp=hs:=⟨_,rfl⟩
   have HHS36:Hid (hs<2 ^ 36):=by rw[←hhs];exact zHb HH36.out HSP36.out
   rw[hhs] at hor HST;obtain⟨B,hB⟩:∃B,zBv vs pts hs=B:=⟨_,rfl⟩;have HSY:Hid (Calls Tryz.prog 119 #[.slice a1 (List.length vs) c1,.slice a2 (List.length pts) c2,.int .u64 (hs:Int)] wr fun e w'=>e=.returned (.bool B)∧Below wr.heap.size wr w'):=by
    rw[←hB];exact zJm vs HVO.out pts hs HHS36.out _ _ wr (HV.out _ hbw.out) (HP.out _ hbw.out)
   rw[hB] at HST;have HGWK:Hid (∀i,gg.testBit i=true→(zAE vs).testBit i=true):=hgw.out;clear hle hr0 hlow hk hk36 hpow htt hlow' hN0 hsp hr2 hr1 hless hB hgw hhs;cases B
   ·have HS2:Hid (LP=zCF (fun g=>zBv vs pts (h ||| g)) (r2+1) gg r2):=by show _=_;rw[HST.out];rfl
    clear HST;go_wp2_with fail
    refine HSY.out.mono ?_;rintro e w7 ⟨rfl,hb7⟩;have HB7:Hid (Below w.heap.size w w7):=hbw.out.trans (hb7.mono hbw.out.size);clear hb7;go_wp2
    go_roundw
    case rel=>exact⟨gg,r2,rfl,rfl,hg36,HR236,HS2,HGWK,HB7⟩
    case measure=>simp[intOf];exact HLS.out
   ·have HS2:Hid (LP=zCF (fun g=>zBv vs pts (h ||| g)) (r2+1) sp r2):=by show _=_;rw[HST.out];rfl
    clear HST;go_wp2_with fail
    refine HSY.out.mono ?_;rintro e w7 ⟨rfl,hb7⟩;have HB7:Hid (Below w.heap.size w w7):=hbw.out.trans (hb7.mono hbw.out.size);clear hb7;go_wp2
    go_roundw
    case rel=>exact⟨sp,r2,rfl,rfl,HSP36,HR236,HS2,HSW,HB7⟩
    case measure=>simp[intOf];exact HLS.out
end Go.Proofs.YtndcpnlaadikoaaGreatDoor
