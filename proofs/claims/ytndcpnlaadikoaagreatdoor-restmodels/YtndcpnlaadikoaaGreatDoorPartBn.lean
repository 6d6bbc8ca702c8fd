/- What the proof leans on, part 40. -/
import Derived.Test.YtndcpnlaadikoaaGreatDoorPartBm
import Derived.Deep.RegionHeld3
import Derived.Deep.RegionLaw
import Derived.Deep.DeepCutAuto
import Derived.Deep.CutBlock
set_option maxRecDepth 100000
set_option maxHeartbeats 8000000
namespace Go.Proofs.YtndcpnlaadikoaaGreatDoor
open Go.RowKit
theorem zAW {w2 Y w3:World} {A:Prop} (h:Below w2.heap.size w2 Y∧A) (hb:Below Y.heap.size Y w3):Below w2.heap.size w2 w3:=h.1.trans (hb.mono h.1.size)
theorem zBp {w2 Y:World} {o:Obj} {A:Prop} (h:Below w2.heap.size w2 Y∧A):Below w2.heap.size w2 (Y.alloc o):=h.1.alloc h.1.size o
def SOwn (base:Nat) (w:World) (v:Value) (xs:List ByteArray):Prop:=w.ownsRow base 9 1 v xs.length (xs.map Value.string)
theorem SOwn.arg {base:Nat} {w:World} {v:Value} {xs:List ByteArray} (h:SOwn base w v xs):SArg w v xs:=by
 obtain⟨a,c,rfl,h1,h2⟩:=zDZ h;refine⟨a,c,rfl,h1,fun i z hz=>?_⟩
 obtain⟨g,ha,hg,hc⟩:=h2 i (List.getElem?_eq_some_iff.1 hz).1;refine⟨g,0,ha,hg,?_⟩;rw[Nat.zero_add,hc i (by have:=(List.getElem?_eq_some_iff.1 hz).1;omega),List.getElem?_map,hz]
 rfl
theorem SOwn.new (xs:List ByteArray) (base n:Nat) (cs:Array Value) (w:World) (hb:base≤w.heap.size) (hn:xs.length=n) (h0:n≤1000) (hc:cs.toList=xs.map Value.string):SOwn base (w.alloc (.cells cs 9)) (.slice (some ⟨w.heap.size,0,none⟩) n n) xs:=by
 subst hn;have hsz:cs.size=xs.length:=by rw[←Array.length_toList,hc,List.length_map]
 refine⟨by simp,Or.inr ⟨w.heap.size,xs.length,cs,rfl,hb,heap_alloc_new _ _,Nat.le_refl _,by unfold maxLen;omega,by omega,?_⟩⟩
 rw[hc];exact List.take_of_length_le (by simp)
theorem SOwn.below {base:Nat} {w w':World} {v:Value} {xs:List ByteArray} (h:SOwn base w v xs) (hb:Below w.heap.size w w'):SOwn base w' v xs:=zAB h hb
theorem zNM {w:World} {a:Option Addr} {n c:Nat} {l:List Int} (h:IArg w (.slice a n c) l):l.length≤c∧c≤maxLen:=by
 obtain⟨a',c',hv,hm,_⟩:=h;cases hv
 exact hm
theorem IArg.at {w:World} {a:Option Addr} {n c:Nat} {l:List Int} (h:IArg w (.slice a n c) l) (z:Int) (hz:l[0]? = some z):∃b off,a=some ⟨b,off,none⟩∧b<w.heap.size∧w.cell? ⟨b,off,none⟩=some (.int .i64 z):=by
 obtain⟨a',c',hv,_,hr⟩:=h;cases hv
 exact hr 0 z hz
theorem IArg.cell {w:World} {b off n c:Nat} {l:List Int} (h:IArg w (.slice (some ⟨b,off,none⟩) n c) l) (i:Nat) (z:Int) (hz:l[i]? = some z):w.cell? ⟨b,off+i,none⟩=some (.int .i64 z):=by
 obtain⟨a',c',hv,_,hr⟩:=h;cases hv
 obtain⟨b',o',he,_,hc⟩:=hr i z hz;cases he
 exact hc
theorem LArg.at {w:World} {a:Option Addr} {n c:Nat} {l:List MLit} (h:LArg w (.slice a n c) l) (z:MLit) (hz:l[0]? = some z):∃b off,a=some ⟨b,off,none⟩∧b<w.heap.size∧w.cell? ⟨b,off,none⟩=some (.int .i64 z.var)∧w.cell? ⟨b,off+1,none⟩=some (.int .i64 z.op)∧w.cell? ⟨b,off+2,none⟩=some (.int .i64 z.n):=by
 obtain⟨a',c',hv,_,hr⟩:=h;cases hv
 have:=hr 0 z hz;simpa using this
theorem zQD {w:World} {b off n c:Nat} {l:List Int} (h:IArg w (.slice (some ⟨b,off,none⟩) n c) l) (h1:1≤l.length):IArg w (.slice (some ⟨b,off+1,none⟩) (n - 1) (c - 1)) (l.drop 1):=by
 obtain⟨a',c',hv,hm,hr⟩:=h;cases hv
 refine⟨_,_,by rw[List.length_drop],?_,fun i z hz=>?_⟩
 ·rw[List.length_drop];omega
 ·rw[List.getElem?_drop] at hz
  obtain⟨b',o',he,h2,hc⟩:=hr (1+i) z hz;cases he
  exact⟨b,off+1,rfl,h2,by rw[Nat.add_assoc];exact hc⟩
theorem zRs {vars:List MVar} {c:MCon} (h:1≤c.kind∧c.kind≤10):zAz vars c≠[]:=by
 unfold zAz
 split;· simp
 split;· simp
 split;· simp
 split;· simp
 split;· simp
 split;· simp
 split;· simp
 split;· simp
 omega
theorem zQE (l:List ByteArray):∀u∈l.map Value.string,u.oneCell'=true:=by
 intro u hu;obtain⟨z,_,rfl⟩:=List.mem_map.1 hu;rfl
theorem zIU {w:World} {o:Oper} {a:Act} {K:Act→World→Prop} {Q:Exit→Act→World→Prop} (s x:Operand)
 (ho:o.op=.call { callee:=.builtin .append,args:=#[s,x],argTypes:=#[98,98] }) (base:Nat)
 (v:Value) (xs:List ByteArray) (hs:a.eval s=v) (hown:SOwn base w v xs)
 (g cap n:Nat) (l:List ByteArray) (hx:a.eval x=.slice (some ⟨g,0,none⟩) n cap) (base2:Nat) (hl:SOwn base2 w (.slice (some ⟨g,0,none⟩) n cap) l) (hn:xs.length+l.length≤100000) (hbase:base≤w.heap.size)
 (h:∀v' w',SOwn base w' v' (xs++l)→w.grownBy w' v.ownBlock→K (a.put o.dst v') w'):o.wp Tryz.prog a w K Q:=by
 obtain⟨i0,hi,hz0,hz1,hz2⟩:=info_parts Tryz.infoStr5;have hnl:n=l.length:=by
  rcases hl.2 with ⟨hq,_⟩ | ⟨g',cap',cur,hq,_⟩
  ·cases hq
  ·cases hq;rfl
 subst hnl;refine wp_append_own w s x 98 ho base 9 i0 (.string ⟨#[]⟩) 1 16 Tryz.underStrs5 hi hz0 hz1 hz2 rfl (by decide) v xs.length _ hs hown ⟨g,0,none⟩ l.length cap (l.map Value.string) hx (by simp) ?_ (zQE l) (by unfold maxLen;omega) (by omega) hbase ?_
 ·exact World.ownsRow.cells hl rfl
 ·intro v' w' h1 h2 h3
  exact h v' w' (by show w'.ownsRow _ _ _ _ _ _;rw[List.length_append,List.map_append];exact h1) h2
theorem zLA {w0 w w':World} {g:Nat} (h:Below w0.heap.size w0 w) (hg:w.grownBy w' (some g)) (hN:w0.heap.size≤g):Below w0.heap.size w0 w' :=
 Fr.toBelow ((Fr.below (X:=fun k=>w0.heap.size≤k) h).grown hg (fun k hk=>by cases hk;exact Or.inl hN))
theorem zQF (N B b:Nat) (vsl:Value) (vars:List MVar) (c:MCon) (vv vc vr vl:Value) (l:List UInt8) (w:World) (h:PrS N B b vsl l w) (hv:VArg w vsl vars) (hk:KArg w vv vc vr vl c) (hs:zIT vars) (hc:ConOk vars.length c) (hl:l.length≤10000000) :
 Calls Tryz.prog 189 #[.pointer (some ⟨b,0,none⟩),conV vv vc vr vl c] w fun e w'=>e=.returned (.tuple #[])∧PrS N B b vsl (l++zA6 vars c) w'∧Fr (XBB b B) w w':=by
 have HP:Hid (PrS N B b vsl l w):=h;have HVA:Hid (VArg w vsl vars):=hv;have HKA:Hid (KArg w vv vc vr vl c):=hk;have HS:Hid (zIT vars):=hs;have HC:Hid (ConOk vars.length c):=hc;have hkd:=hc.kind;clear h hv hs hc;obtain⟨⟨a1,c1,rfl,_,_⟩,⟨a2,c2,rfl,_,_⟩,⟨a3,c3,rfl,_,_⟩,⟨a4,c4,rfl,_,_⟩⟩:=hk;unfold conV;go_enter Tryz.func189,Tryz.ntmps189
 go_wp2_with fail
 obtain⟨W,hW⟩:∃W,W=w.alloc (.cells #[.int .i64 c.kind,.slice a1 c.vars.length c1,.slice a2 c.consts.length c2,.int .i64 c.n,.slice a3 c.rows.length c3,.slice a4 c.lits.length c4] 69):=⟨_,rfl⟩;have HBW:Hid (Below w.heap.size w W):=by show Below _ _ _;rw[hW];exact zAA _ _
 have HQ:W.heap[w.heap.size]? = some (.cells #[.int .i64 c.kind,.slice a1 c.vars.length c1,.slice a2 c.consts.length c2,.int .i64 c.n,.slice a3 c.rows.length c3,.slice a4 c.lits.length c4] 69):=by rw[hW];exact heap_alloc_new _ _
 rw[←hW];clear hW;have hbw:b<w.heap.size:=Nat.lt_of_lt_of_le HP.out.bB HP.out.Bw;have hcv:w.cell? ⟨b,2,none⟩=some vsl:=by
  obtain⟨p,buf,_,hk,_⟩:=HP.out.blk;exact blk9 hk 2 _ rfl
 have HM:Hid (c.vars.length≤4∧c.lits.length≤4∧c.consts.length≤8∧c.rows.length≤20):=zH8 HC.out.many;have HX:Hid (∀Y,Below w.heap.size w Y→PrS N B b vsl l Y∧TabN N Y∧Y.cell? ⟨b,2,none⟩=some vsl∧VArg Y vsl vars∧KArg Y (.slice a1 c.vars.length c1) (.slice a2 c.consts.length c2) (.slice a3 c.rows.length c3) (.slice a4 c.lits.length c4) c):=fun Y hY =>
  ⟨HP.out.below hY,HP.out.tab.below hY,(hY.cell (p:=⟨b,2,none⟩) hbw).trans hcv,VArg.below hY HVA.out,KArg.below hY HKA.out⟩
 have HNL:Hid (∀(q:List Int) (v:Value) (Y:World),Below w.heap.size w Y→IArg Y v q→q.length≤4→(∀x∈q,0≤x∧x<(vars.length:Int)) →
  Calls Tryz.prog 246 #[v,.func (.func 191) #[.pointer (some ⟨b,0,none⟩)] #[]] Y fun e w'=>e=.returned (.string (zBQ (q.map (zAq vars))))∧Below Y.heap.size Y w'):=by
  intro q v Y hY hq hq4 hqv;refine zMG b 191 (zAq vars) q v Y hq (by omega) ?_ zK4 ?_
  ·have h1:=zGW HS.out q 4 hq4
   rw[←zA0,zCi] at h1;simp only[List.length_cons,List.length_append] at h1;omega
  ·intro x hx w' hb
   have h2:=HX.out w' (hY.trans (hb.mono hY.size));refine (zF3 b vsl vars x w' h2.2.2.1 h2.2.2.2.1 (hqv x hx)).mono ?_;rintro e w'' ⟨rfl,rfl⟩;exact⟨rfl,Below.refl _ _⟩
 clear hcv;refine (HNL.out c.vars _ W HBW.out (HX.out W HBW.out).2.2.2.2.1 HM.out.1 HC.out.vars).mono ?_;rintro e W1 ⟨rfl,hb1⟩;have hlt:w.heap.size<W1.heap.size:=Nat.lt_of_lt_of_le (Array.getElem?_eq_some_iff.1 HQ).1 hb1.size;have HB1:Hid (Below w.heap.size w W1):=HBW.out.trans (hb1.mono HBW.out.size);have HQ1:W1.heap[w.heap.size]? = some (.cells #[.int .i64 c.kind,.slice a1 c.vars.length c1,.slice a2 c.consts.length c2,.int .i64 c.n,.slice a3 c.rows.length c3,.slice a4 c.lits.length c4] 69):=(hb1.block _ (Array.getElem?_eq_some_iff.1 HQ).1).trans HQ;have k0:=blk9 HQ1 0 _ rfl;have k1:=blk9 HQ1 1 _ rfl;have k2:=blk9 HQ1 2 _ rfl;have k3:=blk9 HQ1 3 _ rfl;have k4:=blk9 HQ1 4 _ rfl;have k5:=blk9 HQ1 5 _ rfl;clear hb1 HQ HQ1 HBW;go_upto_block 0 with (fail)
 go_cut [5] (fun v wx=>SOwn W1.heap.size wx v (zAz vars c)∧Below W1.heap.size W1 wx)
 case first =>
  have HG:Hid (∀Y,Below W1.heap.size W1 Y→PrS N B b vsl l Y∧TabN N Y∧Y.cell? ⟨b,2,none⟩=some vsl∧VArg Y vsl vars∧KArg Y (.slice a1 c.vars.length c1) (.slice a2 c.consts.length c2) (.slice a3 c.rows.length c3) (.slice a4 c.lits.length c4) c):=fun Y hY=>HX.out Y (HB1.out.trans (hY.mono HB1.out.size))
  have HNS:Hid (∀(Y:World) {A:Prop},Below W1.heap.size W1 Y∧A→Calls Tryz.prog 247 #[.slice a2 c.consts.length c2] Y fun e w'=>e=.returned (.string (zEO c.consts))∧Below Y.heap.size Y w'):=by
   intro Y A hY;have h1:=HG.out Y hY.1;refine zGr N c.consts _ Y h1.2.1 h1.2.2.2.2.2.1 (by have:=HM.out;omega) ?_ (fun x hx=>by have:=HC.out.consts x hx;unfold okI;omega)
   have h2:=zF7 c.consts 8 HM.out.2.2.1 HC.out.consts;unfold zEO at h2;rw[←zA0,zCi] at h2;simp only[List.length_cons,List.length_append] at h2;omega
  have HNN:Hid (∀(Y:World) {A:Prop},Below W1.heap.size W1 Y∧A→Calls Tryz.prog 188 #[.int .i64 c.n] Y fun e w'=>e=.returned (.string (numB c.n))∧Below Y.heap.size Y w'):=fun Y A hY =>
   zDQ N c.n (by have:=HC.out.num;unfold okI;omega) Y (HG.out Y hY.1).2.1
  have HNA:Hid (∀(Y:World) {A:Prop},Below W1.heap.size W1 Y∧A→∀x:Int,(0≤x∧x<(vars.length:Int))→Calls Tryz.prog 191 #[.pointer (some ⟨b,0,none⟩),.int .i64 x] Y fun e w'=>e=.returned (.string (zAq vars x))∧Below Y.heap.size Y w'):=by
   intro Y A hY x hx;have h2:=HG.out Y hY.1;refine (zF3 b vsl vars x Y h2.2.2.1 h2.2.2.2.1 hx).mono ?_;rintro e w'' ⟨rfl,rfl⟩;exact⟨rfl,Below.refl _ _⟩
  have HLI:Hid (∀(Y:World) {A:Prop},Below W1.heap.size W1 Y∧A→∀t:MLit,zSs vars t→Calls Tryz.prog 250 #[.pointer (some ⟨b,0,none⟩),litA t] Y fun e w'=>e=.returned (.string (zFS vars t))∧Below Y.heap.size Y w'):=by
   intro Y A hY t ht;have h2:=HG.out Y hY.1;exact zRo N b vsl vars t Y h2.2.1 h2.2.2.1 h2.2.2.2.1 ht.1 ht.2.1 (by have:=ht.2.2;unfold okI;omega) (by have:=zDx HS.out t.var;omega) (by have:=zE1 t.n (by have:=ht.2.2;omega);omega)
  have HLL:Hid (Calls Tryz.prog 249 #[.slice a4 c.lits.length c4,.func (.func 250) #[.pointer (some ⟨b,0,none⟩)] #[]] W1 fun e w'=>e=.returned (.string (zBQ (c.lits.map (zFS vars))))∧Below W1.heap.size W1 w'):=by
   refine zON b 250 (zFS vars) c.lits _ W1 (HG.out _ (Below.refl _ _)).2.2.2.2.2.2.2 (by have:=HM.out;omega) ?_ zMH ?_
   ·have h2:=zK8 HS.out HC.out
    rw[←zA0,zCi] at h2;simp only[List.length_cons,List.length_append] at h2;omega
   ·intro t ht w' hb'
    exact HLI.out w' ⟨hb',trivial⟩ t (HC.out.lits t ht)
  have hcs:c.kind=1∨c.kind=2∨c.kind=3∨c.kind=4∨c.kind=5∨c.kind=6∨c.kind=7∨c.kind=8∨c.kind=9∨c.kind=10:=by omega
  clear hkd;rcases hcs with hk | hk | hk | hk | hk | hk | hk | hk | hk | hk
  ·
   have HPB:Hid (zAz vars c=[zEO c.consts,zBQ (c.vars.map (zAq vars)),numB c.n]):=by show _=_;unfold zAz;rw[hk];  simp
   have t1:(c.kind==1)=true:=by rw[hk];rfl
   clear hk;go_wp2_with fail
   go_region_held3 (fun Y=>Below W1.heap.size W1 Y∧Y.cell? ⟨w.heap.size,2,none⟩=some (.slice a2 c.consts.length c2)∧Y.cell? ⟨w.heap.size,3,none⟩=some (.int .i64 c.n))
    ((refine (fun (hB:Below W1.heap.size W1 _)=>⟨hB,(hB.cell (p:=⟨w.heap.size,2,none⟩) hlt).trans k2,(hB.cell (p:=⟨w.heap.size,3,none⟩) hlt).trans k3⟩:Below W1.heap.size W1 _→_) ?_;first | exact (Below.refl _ _).drew | exact zAW (by assumption) hbq | exact zBp (by assumption) | exact (show Below W1.heap.size W1 _∧_ by assumption).1))
    (first
      | (go_at_call 247;refine (HNS.out _ (by assumption)).mono ?_;rintro e w3 ⟨rfl,hbq⟩;have hz:=(zAW (by assumption) hbq).size)
      | (go_at_call 188;refine (HNN.out _ (by assumption)).mono ?_;rintro e w3 ⟨rfl,hbq⟩;have hz:=(zAW (by assumption) hbq).size))
   all_goals (go_wp2_with fail;go_meet)
   all_goals (rw[HPB.out];exact⟨SOwn.new _ _ 3 _ _ hz rfl (by decide) rfl,(show Below W1.heap.size W1 _∧_ by assumption).1⟩)
  ·
   have HPB:Hid (zAz vars c=[zEO c.consts,zBQ (c.vars.map (zAq vars)),numB c.n]):=by show _=_;unfold zAz;rw[hk];  simp
   have t1:(c.kind==1)=false:=by rw[hk];rfl
   have t2:(c.kind==2)=true:=by rw[hk];rfl
   clear hk;go_wp2_with fail
   go_region_held3 (fun Y=>Below W1.heap.size W1 Y∧Y.cell? ⟨w.heap.size,2,none⟩=some (.slice a2 c.consts.length c2)∧Y.cell? ⟨w.heap.size,3,none⟩=some (.int .i64 c.n))
    ((refine (fun (hB:Below W1.heap.size W1 _)=>⟨hB,(hB.cell (p:=⟨w.heap.size,2,none⟩) hlt).trans k2,(hB.cell (p:=⟨w.heap.size,3,none⟩) hlt).trans k3⟩:Below W1.heap.size W1 _→_) ?_;first | exact (Below.refl _ _).drew | exact zAW (by assumption) hbq | exact zBp (by assumption) | exact (show Below W1.heap.size W1 _∧_ by assumption).1))
    (first
      | (go_at_call 247;refine (HNS.out _ (by assumption)).mono ?_;rintro e w3 ⟨rfl,hbq⟩;have hz:=(zAW (by assumption) hbq).size)
      | (go_at_call 188;refine (HNN.out _ (by assumption)).mono ?_;rintro e w3 ⟨rfl,hbq⟩;have hz:=(zAW (by assumption) hbq).size))
   all_goals (go_wp2_with fail;go_meet)
   all_goals (rw[HPB.out];exact⟨SOwn.new _ _ 3 _ _ hz rfl (by decide) rfl,(show Below W1.heap.size W1 _∧_ by assumption).1⟩)
  ·
   have HPB:Hid (zAz vars c=[zEO c.consts,zBQ (c.vars.map (zAq vars)),numB c.n]):=by show _=_;unfold zAz;rw[hk];  simp
   have t1:(c.kind==1)=false:=by rw[hk];rfl
   have t2:(c.kind==2)=false:=by rw[hk];rfl
   have t3:(c.kind==3)=true:=by rw[hk];rfl
   clear hk;go_wp2_with fail
   go_region_held3 (fun Y=>Below W1.heap.size W1 Y∧Y.cell? ⟨w.heap.size,2,none⟩=some (.slice a2 c.consts.length c2)∧Y.cell? ⟨w.heap.size,3,none⟩=some (.int .i64 c.n))
    ((refine (fun (hB:Below W1.heap.size W1 _)=>⟨hB,(hB.cell (p:=⟨w.heap.size,2,none⟩) hlt).trans k2,(hB.cell (p:=⟨w.heap.size,3,none⟩) hlt).trans k3⟩:Below W1.heap.size W1 _→_) ?_;first | exact (Below.refl _ _).drew | exact zAW (by assumption) hbq | exact zBp (by assumption) | exact (show Below W1.heap.size W1 _∧_ by assumption).1))
    (first
      | (go_at_call 247;refine (HNS.out _ (by assumption)).mono ?_;rintro e w3 ⟨rfl,hbq⟩;have hz:=(zAW (by assumption) hbq).size)
      | (go_at_call 188;refine (HNN.out _ (by assumption)).mono ?_;rintro e w3 ⟨rfl,hbq⟩;have hz:=(zAW (by assumption) hbq).size))
   all_goals (go_wp2_with fail;go_meet)
   all_goals (rw[HPB.out];exact⟨SOwn.new _ _ 3 _ _ hz rfl (by decide) rfl,(show Below W1.heap.size W1 _∧_ by assumption).1⟩)
  ·
   have HPB:Hid (zAz vars c=[zBQ (c.vars.map (zAq vars))]):=by show _=_;unfold zAz;rw[hk];  simp
   have t1:(c.kind==1)=false:=by rw[hk];rfl
   have t2:(c.kind==2)=false:=by rw[hk];rfl
   have t3:(c.kind==3)=false:=by rw[hk];rfl
   have t4:(c.kind==4)=true:=by rw[hk];rfl
   clear hk;go_wp2_with fail
   go_meet
   rw[HPB.out];exact⟨SOwn.new _ _ 1 _ _ (Nat.le_refl _) rfl (by decide) rfl,zAA _ _⟩
  ·
   have hlen:=(zEz c HC.out.form).1 hk;obtain⟨x0,hx0⟩:∃x,c.vars[0]? = some x:=⟨c.vars[0]'(by omega),List.getElem?_eq_getElem _⟩
   have HD0:Hid (c.vars.getD 0 0=x0):=by show _=_;rw[List.getD_eq_getElem?_getD,hx0];rfl
   have HR0:Hid (0≤x0∧x0<(vars.length:Int)):=HC.out.vars x0 (List.mem_of_getElem? hx0);obtain⟨x1,hx1⟩:∃x,c.vars[1]? = some x:=⟨c.vars[1]'(by omega),List.getElem?_eq_getElem _⟩
   have HD1:Hid (c.vars.getD 1 0=x1):=by show _=_;rw[List.getD_eq_getElem?_getD,hx1];rfl
   have HR1:Hid (0≤x1∧x1<(vars.length:Int)):=HC.out.vars x1 (List.mem_of_getElem? hx1);obtain⟨b1,o1,rfl,hb1,e0⟩:=IArg.at HKA.out.1 x0 hx0;have e1:=IArg.cell HKA.out.1 1 x1 hx1;have hb1':b1<W1.heap.size:=Nat.lt_of_lt_of_le hb1 HB1.out.size;have e0:=(HB1.out.cell (p:=⟨b1,o1,none⟩) hb1).trans e0;have e1:=(HB1.out.cell (p:=⟨b1,o1+1,none⟩) hb1).trans e1;have g0:(0:Int)<(c.vars.length:Int):=by omega
   have g1:(1:Int)<(c.vars.length:Int):=by omega
   have q0:¬c.vars=[]:=by intro h0;rw[h0] at hlen;simp at hlen
   have q1:0<c.vars.length:=by omega
   have HLEN:Hid (c.vars.length=2):=hlen;clear hlen;clear hx0 hx1;have HPB:Hid (zAz vars c=[zEO c.consts,zAq vars x0,zAq vars x1]):=by show _=_;unfold zAz;rw[hk];  simp[HD0.out,HD1.out,-List.getD_eq_getElem?_getD]
   have t1:(c.kind==1)=false:=by rw[hk];rfl
   have t2:(c.kind==2)=false:=by rw[hk];rfl
   have t3:(c.kind==3)=false:=by rw[hk];rfl
   have t4:(c.kind==4)=false:=by rw[hk];rfl
   have t5:(c.kind==5)=true:=by rw[hk];rfl
   clear hk;go_wp2_with fail
   go_region_held3 (fun Y=>Below W1.heap.size W1 Y∧Y.cell? ⟨w.heap.size,2,none⟩=some (.slice a2 c.consts.length c2)∧Y.cell? ⟨w.heap.size,1,none⟩=some (.slice (some ⟨b1,o1,none⟩) c.vars.length c1)∧Y.cell? ⟨b1,o1,none⟩=some (.int .i64 x0)∧Y.cell? ⟨b1,o1+1,none⟩=some (.int .i64 x1))
    ((refine (fun (hB:Below W1.heap.size W1 _)=>⟨hB,(hB.cell (p:=⟨w.heap.size,2,none⟩) hlt).trans k2,(hB.cell (p:=⟨w.heap.size,1,none⟩) hlt).trans k1,(hB.cell (p:=⟨b1,o1,none⟩) hb1').trans e0,(hB.cell (p:=⟨b1,o1+1,none⟩) hb1').trans e1⟩:Below W1.heap.size W1 _→_) ?_;first | exact (Below.refl _ _).drew | exact zAW (by assumption) hbq | exact zBp (by assumption) | exact (show Below W1.heap.size W1 _∧_ by assumption).1))
    (first
      | (go_at_call 247;refine (HNS.out _ (by assumption)).mono ?_;rintro e w3 ⟨rfl,hbq⟩;have hz:=(zAW (by assumption) hbq).size)
      | (go_at_call 191;refine (HNA.out _ (by assumption) _ (by first | exact HR0.out | exact HR1.out | exact HR2.out)).mono ?_;rintro e w3 ⟨rfl,hbq⟩;have hz:=(zAW (by assumption) hbq).size))
   all_goals (go_wp2_with fail;go_meet)
   all_goals (rw[HPB.out];exact⟨SOwn.new _ _ 3 _ _ hz rfl (by decide) rfl,(show Below W1.heap.size W1 _∧_ by assumption).1⟩)
  ·
   have HRL:Hid (Calls Tryz.prog 248 #[.slice a3 c.rows.length c3,.func (.func 247) #[] #[]] W1 fun e w'=>e=.returned (.string (zBQ (c.rows.map zEO)))∧Below W1.heap.size W1 w'):=by
    refine zOM 247 zEO c.rows _ W1 (HG.out _ (Below.refl _ _)).2.2.2.2.2.2.1 (by have:=HM.out;omega) ?_ zH6 ?_
    ·have h2:=zK7 HC.out hk
     rw[←zA0,zCi] at h2;simp only[List.length_cons,List.length_append] at h2;omega
    ·intro r hr v' w' hb' hv'
     refine zGr N r v' w' (HG.out w' hb').2.1 hv' (by have:=zMK HC.out hk r hr;omega) ?_ (fun x hx=>by have:=HC.out.rows r hr x hx;unfold okI;omega)
     have h2:=zF7 r 4 (zMK HC.out hk r hr) (HC.out.rows r hr);unfold zEO at h2;rw[←zA0,zCi] at h2;simp only[List.length_cons,List.length_append] at h2;omega
   have HPB:Hid (zAz vars c=[zBQ (c.vars.map (zAq vars)),zBQ (c.rows.map zEO)]):=by show _=_;unfold zAz;rw[hk];  simp
   have t1:(c.kind==1)=false:=by rw[hk];rfl
   have t2:(c.kind==2)=false:=by rw[hk];rfl
   have t3:(c.kind==3)=false:=by rw[hk];rfl
   have t4:(c.kind==4)=false:=by rw[hk];rfl
   have t5:(c.kind==5)=false:=by rw[hk];rfl
   have t6:(c.kind==6)=true:=by rw[hk];rfl
   clear hk;go_wp2_with fail
   refine HRL.out.mono ?_;rintro e w3 ⟨rfl,hbq⟩;go_wp2_with fail
   go_meet
   rw[HPB.out];exact⟨SOwn.new _ _ 2 _ _ hbq.size rfl (by decide) rfl,hbq.alloc hbq.size _⟩
  ·
   have hlen:=(zEz c HC.out.form).2.1 hk;obtain⟨x0,hx0⟩:∃x,c.vars[0]? = some x:=⟨c.vars[0]'(by omega),List.getElem?_eq_getElem _⟩
   have HD0:Hid (c.vars.getD 0 0=x0):=by show _=_;rw[List.getD_eq_getElem?_getD,hx0];rfl
   have HR0:Hid (0≤x0∧x0<(vars.length:Int)):=HC.out.vars x0 (List.mem_of_getElem? hx0);obtain⟨x1,hx1⟩:∃x,c.vars[1]? = some x:=⟨c.vars[1]'(by omega),List.getElem?_eq_getElem _⟩
   have HD1:Hid (c.vars.getD 1 0=x1):=by show _=_;rw[List.getD_eq_getElem?_getD,hx1];rfl
   have HR1:Hid (0≤x1∧x1<(vars.length:Int)):=HC.out.vars x1 (List.mem_of_getElem? hx1);obtain⟨x2,hx2⟩:∃x,c.vars[2]? = some x:=⟨c.vars[2]'(by omega),List.getElem?_eq_getElem _⟩
   have HD2:Hid (c.vars.getD 2 0=x2):=by show _=_;rw[List.getD_eq_getElem?_getD,hx2];rfl
   have HR2:Hid (0≤x2∧x2<(vars.length:Int)):=HC.out.vars x2 (List.mem_of_getElem? hx2);obtain⟨b1,o1,rfl,hb1,e0⟩:=IArg.at HKA.out.1 x0 hx0;have e1:=IArg.cell HKA.out.1 1 x1 hx1;have e2:=IArg.cell HKA.out.1 2 x2 hx2;have hb1':b1<W1.heap.size:=Nat.lt_of_lt_of_le hb1 HB1.out.size;have e0:=(HB1.out.cell (p:=⟨b1,o1,none⟩) hb1).trans e0;have e1:=(HB1.out.cell (p:=⟨b1,o1+1,none⟩) hb1).trans e1;have e2:=(HB1.out.cell (p:=⟨b1,o1+2,none⟩) hb1).trans e2;have g0:(0:Int)<(c.vars.length:Int):=by omega
   have g1:(1:Int)<(c.vars.length:Int):=by omega
   have g2:(2:Int)<(c.vars.length:Int):=by omega
   have q0:¬c.vars=[]:=by intro h0;rw[h0] at hlen;simp at hlen
   have q1:0<c.vars.length:=by omega
   have HLEN:Hid (c.vars.length=3):=hlen;clear hlen;clear hx0 hx1 hx2;have HPB:Hid (zAz vars c=[zAq vars x0,zAq vars x1,zAq vars x2]):=by show _=_;unfold zAz;rw[hk];  simp[HD0.out,HD1.out,HD2.out,-List.getD_eq_getElem?_getD]
   have t1:(c.kind==1)=false:=by rw[hk];rfl
   have t2:(c.kind==2)=false:=by rw[hk];rfl
   have t3:(c.kind==3)=false:=by rw[hk];rfl
   have t4:(c.kind==4)=false:=by rw[hk];rfl
   have t5:(c.kind==5)=false:=by rw[hk];rfl
   have t6:(c.kind==6)=false:=by rw[hk];rfl
   have t7:(c.kind==7)=true:=by rw[hk];rfl
   clear hk;go_wp2_with fail
   go_region_held3 (fun Y=>Below W1.heap.size W1 Y∧Y.cell? ⟨w.heap.size,1,none⟩=some (.slice (some ⟨b1,o1,none⟩) c.vars.length c1)∧Y.cell? ⟨b1,o1,none⟩=some (.int .i64 x0)∧Y.cell? ⟨b1,o1+1,none⟩=some (.int .i64 x1)∧Y.cell? ⟨b1,o1+2,none⟩=some (.int .i64 x2))
    ((refine (fun (hB:Below W1.heap.size W1 _)=>⟨hB,(hB.cell (p:=⟨w.heap.size,1,none⟩) hlt).trans k1,(hB.cell (p:=⟨b1,o1,none⟩) hb1').trans e0,(hB.cell (p:=⟨b1,o1+1,none⟩) hb1').trans e1,(hB.cell (p:=⟨b1,o1+2,none⟩) hb1').trans e2⟩:Below W1.heap.size W1 _→_) ?_;first | exact (Below.refl _ _).drew | exact zAW (by assumption) hbq | exact zBp (by assumption) | exact (show Below W1.heap.size W1 _∧_ by assumption).1))
    (first
      | (go_at_call 191;refine (HNA.out _ (by assumption) _ (by first | exact HR0.out | exact HR1.out | exact HR2.out)).mono ?_;rintro e w3 ⟨rfl,hbq⟩;have hz:=(zAW (by assumption) hbq).size))
   all_goals (go_wp2_with fail;go_meet)
   all_goals (rw[HPB.out];exact⟨SOwn.new _ _ 3 _ _ hz rfl (by decide) rfl,(show Below W1.heap.size W1 _∧_ by assumption).1⟩)
  ·
   have hlen:=(zEz c HC.out.form).2.2.1 hk;obtain⟨x0,hx0⟩:∃x,c.vars[0]? = some x:=⟨c.vars[0]'(by omega),List.getElem?_eq_getElem _⟩
   have HD0:Hid (c.vars.getD 0 0=x0):=by show _=_;rw[List.getD_eq_getElem?_getD,hx0];rfl
   have HR0:Hid (0≤x0∧x0<(vars.length:Int)):=HC.out.vars x0 (List.mem_of_getElem? hx0);obtain⟨b1,o1,rfl,hb1,e0⟩:=IArg.at HKA.out.1 x0 hx0;have hb1':b1<W1.heap.size:=Nat.lt_of_lt_of_le hb1 HB1.out.size;have e0:=(HB1.out.cell (p:=⟨b1,o1,none⟩) hb1).trans e0;have g0:(0:Int)<(c.vars.length:Int):=by omega
   have q0:¬c.vars=[]:=by intro h0;rw[h0] at hlen;simp at hlen
   have q1:0<c.vars.length:=by omega
   obtain⟨T8,hT8⟩:∃T8,zBQ ((c.vars.drop 1).map (zAq vars))=T8:=⟨_,rfl⟩;have g9:(1:Int)≤(c.vars.length:Int):=by omega
   have g10:c.vars.length≤c1:=(zNM HKA.out.1).1;have g11:c1≤maxLen:=(zNM HKA.out.1).2;unfold maxLen at g11;have g12:¬c1=1:=by omega
   have HLEN:Hid (2≤c.vars.length):=hlen;have HPB:Hid (zAz vars c=[zAq vars x0,T8]):=by show _=_;unfold zAz;rw[hk];  simp[-List.getD_eq_getElem?_getD,-List.drop_one,-List.map_drop];rw[HD0.out,hT8];exact⟨rfl,rfl⟩
   have t1:(c.kind==1)=false:=by rw[hk];rfl
   have t2:(c.kind==2)=false:=by rw[hk];rfl
   have t3:(c.kind==3)=false:=by rw[hk];rfl
   have t4:(c.kind==4)=false:=by rw[hk];rfl
   have t5:(c.kind==5)=false:=by rw[hk];rfl
   have t6:(c.kind==6)=false:=by rw[hk];rfl
   have t7:(c.kind==7)=false:=by rw[hk];rfl
   have t8:(c.kind==8)=true:=by rw[hk];rfl
   clear hk;have HNLD:Hid (∀(Y:World) {A:Prop},Below W1.heap.size W1 Y∧A→Calls Tryz.prog 246 #[.slice (some ⟨b1,o1+1,none⟩) (c.vars.length - 1) (c1 - 1),.func (.func 191) #[.pointer (some ⟨b,0,none⟩)] #[]] Y fun e w'=>e=.returned (.string T8)∧Below Y.heap.size Y w'):=fun Y A hY=>by
    rw[←hT8];exact HNL.out (c.vars.drop 1) _ Y (HB1.out.trans (hY.1.mono HB1.out.size)) (zQD (HG.out Y hY.1).2.2.2.2.1 (by omega)) (by have:=HM.out;simp;omega) (fun x hx=>HC.out.vars x (List.mem_of_mem_drop hx))
   clear hlen hx0 hT8;go_wp2_with fail
   go_region_held3 (fun Y=>Below W1.heap.size W1 Y∧Y.cell? ⟨w.heap.size,1,none⟩=some (.slice (some ⟨b1,o1,none⟩) c.vars.length c1)∧Y.cell? ⟨b1,o1,none⟩=some (.int .i64 x0))
    ((refine (fun (hB:Below W1.heap.size W1 _)=>⟨hB,(hB.cell (p:=⟨w.heap.size,1,none⟩) hlt).trans k1,(hB.cell (p:=⟨b1,o1,none⟩) hb1').trans e0⟩:Below W1.heap.size W1 _→_) ?_;first | exact (Below.refl _ _).drew | exact zAW (by assumption) hbq | exact zBp (by assumption) | exact (show Below W1.heap.size W1 _∧_ by assumption).1))
    (first
      | (go_at_call 191;refine (HNA.out _ (by assumption) _ (by first | exact HR0.out | exact HR1.out | exact HR2.out)).mono ?_;rintro e w3 ⟨rfl,hbq⟩;have hz:=(zAW (by assumption) hbq).size)
      | (go_at_call 246;refine (HNLD.out _ (by assumption)).mono ?_;rintro e w3 ⟨rfl,hbq⟩;have hz:=(zAW (by assumption) hbq).size))
   all_goals (go_wp2_with fail;go_meet)
   all_goals (rw[HPB.out];exact⟨SOwn.new _ _ 2 _ _ hz rfl (by decide) rfl,(show Below W1.heap.size W1 _∧_ by assumption).1⟩)
  ·
   have HPB:Hid (zAz vars c=[zBQ (c.lits.map (zFS vars))]):=by show _=_;unfold zAz;rw[hk];  simp
   have t1:(c.kind==1)=false:=by rw[hk];rfl
   have t2:(c.kind==2)=false:=by rw[hk];rfl
   have t3:(c.kind==3)=false:=by rw[hk];rfl
   have t4:(c.kind==4)=false:=by rw[hk];rfl
   have t5:(c.kind==5)=false:=by rw[hk];rfl
   have t6:(c.kind==6)=false:=by rw[hk];rfl
   have t7:(c.kind==7)=false:=by rw[hk];rfl
   have t8:(c.kind==8)=false:=by rw[hk];rfl
   have t9:(c.kind==9)=true:=by rw[hk];rfl
   clear hk;go_wp2_with fail
   refine HLL.out.mono ?_;rintro e w3 ⟨rfl,hbq⟩;go_wp2_with fail
   go_meet
   rw[HPB.out];exact⟨SOwn.new _ _ 1 _ _ hbq.size rfl (by decide) rfl,hbq.alloc hbq.size _⟩
  ·
   have hlen:=((zEz c HC.out.form).2.2.2 hk).1;obtain⟨x0,hx0⟩:∃x,c.vars[0]? = some x:=⟨c.vars[0]'(by omega),List.getElem?_eq_getElem _⟩
   have HD0:Hid (c.vars.getD 0 0=x0):=by show _=_;rw[List.getD_eq_getElem?_getD,hx0];rfl
   have HR0:Hid (0≤x0∧x0<(vars.length:Int)):=HC.out.vars x0 (List.mem_of_getElem? hx0);obtain⟨b1,o1,rfl,hb1,e0⟩:=IArg.at HKA.out.1 x0 hx0;have hb1':b1<W1.heap.size:=Nat.lt_of_lt_of_le hb1 HB1.out.size;have e0:=(HB1.out.cell (p:=⟨b1,o1,none⟩) hb1).trans e0;have g0:(0:Int)<(c.vars.length:Int):=by omega
   have q0:¬c.vars=[]:=by intro h0;rw[h0] at hlen;simp at hlen
   have q1:0<c.vars.length:=by omega
   have HLEN:Hid (c.vars.length=1):=hlen;clear hlen;clear hx0;have hlenl:=((zEz c HC.out.form).2.2.2 hk).2;obtain⟨y0,hy0⟩:∃y,c.lits[0]? = some y:=⟨c.lits[0]'(by omega),List.getElem?_eq_getElem _⟩
   have HDY:Hid (c.lits.getD 0 ⟨0,0,0⟩=y0):=by show _=_;rw[List.getD_eq_getElem?_getD,hy0];rfl
   have HLY:Hid (zSs vars y0):=HC.out.lits y0 (List.mem_of_getElem? hy0);obtain⟨b4,o4,rfl,hb4,f0,f1,f2⟩:=LArg.at HKA.out.2.2.2 y0 hy0;have hb4':b4<W1.heap.size:=Nat.lt_of_lt_of_le hb4 HB1.out.size;have f0:=(HB1.out.cell (p:=⟨b4,o4,none⟩) hb4).trans f0;have f1:=(HB1.out.cell (p:=⟨b4,o4+1,none⟩) hb4).trans f1;have f2:=(HB1.out.cell (p:=⟨b4,o4+2,none⟩) hb4).trans f2;have g5:(0:Int)<(c.lits.length:Int):=by omega
   have q2:¬c.lits=[]:=by intro h0;rw[h0] at hlenl;simp at hlenl
   have q3:0<c.lits.length:=by omega
   clear hlenl hy0;have HPB:Hid (zAz vars c=[zAq vars x0,zFS vars y0]):=by show _=_;unfold zAz;rw[hk];  simp[HD0.out,HDY.out,-List.getD_eq_getElem?_getD]
   have t1:(c.kind==1)=false:=by rw[hk];rfl
   have t2:(c.kind==2)=false:=by rw[hk];rfl
   have t3:(c.kind==3)=false:=by rw[hk];rfl
   have t4:(c.kind==4)=false:=by rw[hk];rfl
   have t5:(c.kind==5)=false:=by rw[hk];rfl
   have t6:(c.kind==6)=false:=by rw[hk];rfl
   have t7:(c.kind==7)=false:=by rw[hk];rfl
   have t8:(c.kind==8)=false:=by rw[hk];rfl
   have t9:(c.kind==9)=false:=by rw[hk];rfl
   have t10:(c.kind==10)=true:=by rw[hk];rfl
   clear hk;go_wp2_with fail
   go_region_held3 (fun Y=>Below W1.heap.size W1 Y∧Y.cell? ⟨w.heap.size,1,none⟩=some (.slice (some ⟨b1,o1,none⟩) c.vars.length c1)∧Y.cell? ⟨b1,o1,none⟩=some (.int .i64 x0)∧Y.cell? ⟨w.heap.size,5,none⟩=some (.slice (some ⟨b4,o4,none⟩) c.lits.length c4)∧Y.cell? ⟨b4,o4,none⟩=some (.int .i64 y0.var)∧Y.cell? ⟨b4,o4+1,none⟩=some (.int .i64 y0.op)∧Y.cell? ⟨b4,o4+2,none⟩=some (.int .i64 y0.n))
    ((refine (fun (hB:Below W1.heap.size W1 _)=>⟨hB,(hB.cell (p:=⟨w.heap.size,1,none⟩) hlt).trans k1,(hB.cell (p:=⟨b1,o1,none⟩) hb1').trans e0,(hB.cell (p:=⟨w.heap.size,5,none⟩) hlt).trans k5,(hB.cell (p:=⟨b4,o4,none⟩) hb4').trans f0,(hB.cell (p:=⟨b4,o4+1,none⟩) hb4').trans f1,(hB.cell (p:=⟨b4,o4+2,none⟩) hb4').trans f2⟩:Below W1.heap.size W1 _→_) ?_;first | exact (Below.refl _ _).drew | exact zAW (by assumption) hbq | exact zBp (by assumption) | exact (show Below W1.heap.size W1 _∧_ by assumption).1))
    (first
      | (go_at_call 191;refine (HNA.out _ (by assumption) _ (by first | exact HR0.out | exact HR1.out | exact HR2.out)).mono ?_;rintro e w3 ⟨rfl,hbq⟩;have hz:=(zAW (by assumption) hbq).size)
      | (go_at_call 250;refine (HLI.out _ (by assumption) y0 HLY.out).mono ?_;rintro e w3 ⟨rfl,hbq⟩;have hz:=(zAW (by assumption) hbq).size))
   all_goals (go_wp2_with fail;go_meet)
   all_goals (rw[HPB.out];exact⟨SOwn.new _ _ 2 _ _ hz rfl (by decide) rfl,(show Below W1.heap.size W1 _∧_ by assumption).1⟩)
 case rest =>
  obtain⟨hso,hbc⟩:=hcut;have HSO:Hid (SOwn W1.heap.size wc _ (zAz vars c)):=hso;rcases hso.2 with ⟨_,h0⟩ | ⟨g,cp,cur,hq,_,hh,_⟩
  ·exact absurd (List.length_eq_zero_iff.1 h0) (zRs HC.out.kind)
  subst hq;have hgl:g<wc.heap.size:=(Array.getElem?_eq_some_iff.1 hh).1;clear hso hh;have HBC:Hid (Below w.heap.size w wc):=HB1.out.trans (hbc.mono HB1.out.size);have k0c:wc.cell? ⟨w.heap.size,0,none⟩=some (.int .i64 c.kind):=(hbc.cell (p:=⟨w.heap.size,0,none⟩) hlt).trans k0;have hltc:w.heap.size<wc.heap.size:=Nat.lt_of_lt_of_le hlt hbc.size;obtain⟨k,hk⟩:∃k:Nat,c.kind=(k:Int):=⟨c.kind.toNat,by omega⟩
  obtain⟨z,hz⟩:∃z,zGx[k]? = some z:=by
   have:k<zGx.length:=by show k<11;omega
   exact⟨zGx[k],List.getElem?_eq_getElem this⟩
  have HZ:Hid (zGx[k]? = some z):=hz;have HLN:Hid (zE4 ([conW,z]++zAz vars c)=zA6 vars c∧(zBW ([conW,z]++zAz vars c) [32]).length≤10000):=by
   have e:zJx c.kind=z:=by unfold zJx;rw[hk,List.getD_eq_getElem?_getD];simp[hz]
   have h1:=zFT HS.out HC.out;unfold zA6;unfold zA6 at h1;rw[e] at h1 ⊢;exact⟨rfl,h1.1⟩
  have HPL:Hid ((zAz vars c).length≤3):=(zJF HS.out HC.out).1;obtain⟨ps,hps⟩:∃ps,zAz vars c=ps:=⟨_,rfl⟩;rw[hps] at HSO HLN HPL ⊢;rw[hk] at k0c;have hk0:(0:Int)≤(k:Int):=by omega
  have hk1:(k:Int)<(zGx.length:Int):=by show (k:Int)<11;omega
  clear hz hk hkd hbc k0 k1 k2 k3 k4 k5 hps hlt;go_wp2_with fail
  go_region_law
   (first
     | (rw[if_pos (by rfl)];refine zIU _ _ rfl wc.heap.size _ [conW,z] rfl (SOwn.new [conW,z] wc.heap.size 2 _ w2 hB2.size rfl (by decide) rfl) g cp _ ps rfl W1.heap.size (SOwn.below HSO.out (hB2.alloc hB2.size _)) ?_ (hB2.alloc hB2.size _).size ?_;(have:=HPL.out;simp;omega);intro v4 w4 hown4 hg4;have hb4:=zLA (hB2.alloc hB2.size _) hg4 hB2.size;have HP4:=(HX.out w4 (HBC.out.trans (hb4.mono HBC.out.size))).1;obtain⟨a4,c4,hv4⟩:=zAC hown4;subst hv4)
     | (rw[if_pos (by rfl)];go_simp;go_at_call 251;refine (zIb _).mono ?_;rintro e w2 ⟨sv,rfl,⟨as_,cs_,rfl,hm_,hsv⟩,hb2⟩;obtain⟨bk,off,rfl,hbk,hcell⟩:=hsv k z HZ.out;have kc:=(hb2.cell (p:=⟨w.heap.size,0,none⟩) hltc).trans k0c;have hB2:Below wc.heap.size wc w2:=(Below.refl _ _).drew.trans hb2;dsimp only)
     | (rw[if_pos (by rfl)];go_simp;go_at_call 187;refine (zF2 N B b vsl l ([conW,z]++ps) _ _ HP4 (SOwn.arg hown4) ?_ ?_ ?_).mono ?_;(have:=HPL.out;simp;omega);(have:=HLN.out.2;omega);omega;rintro e w5 ⟨rfl,hp5,hf5⟩;dsimp only))
  all_goals
   have HP5:Hid (PrS N B b vsl (l++zA6 vars c) w5):=by rw[←HLN.out.1];exact hp5
   have HF5:Hid (Fr (XBB b B) w w5):=(Fr.below (HBC.out.trans (hb4.mono HBC.out.size))).trans hf5;clear hp5 hf5 hb4 hB2 hb2 hown4 hg4 HP4 hcell hm_ hsv kc k0c;go_wp2
   go_end0
   exact⟨rfl,HP5.out,HF5.out⟩
end Go.Proofs.YtndcpnlaadikoaaGreatDoor
