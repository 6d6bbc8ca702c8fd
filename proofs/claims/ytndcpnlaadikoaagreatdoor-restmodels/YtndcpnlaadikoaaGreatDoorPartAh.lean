/- What the proof leans on, part 8. -/
import Derived.Test.YtndcpnlaadikoaaGreatDoorPartAg
set_option maxRecDepth 100000
set_option maxHeartbeats 3200000
namespace Go.Proofs.YtndcpnlaadikoaaGreatDoor
open Go.RowKit
def litA (l:MLit):Value:=.agg #[.int .i64 l.var,.int .i64 l.op,.int .i64 l.n]
def litC (l:MLit):List Value:=[.int .i64 l.var,.int .i64 l.op,.int .i64 l.n]
theorem zMk (l:MLit):∀u∈litC l,u.oneCell'=true:=by
 intro u hu;simp only[litC,List.mem_cons,List.not_mem_nil,or_false] at hu;rcases hu with rfl | rfl | rfl <;> rfl
theorem zKA (w:World) (z:MLit):∀(j:Nat) (u:Value),(litC z)[j]? = some u→(w.alloc (.cells #[.int .i64 z.var,.int .i64 z.op,.int .i64 z.n] 76)).cell? ((⟨w.heap.size,0,none⟩:Addr).add j)=some u:=by
 intro j u hj
 match j,hj with
 | 0,hj=>simp[litC] at hj;subst hj;simp[Addr.add]
 | 1,hj=>simp[litC] at hj;subst hj;simp[Addr.add]
 | 2,hj=>simp[litC] at hj;subst hj;simp[Addr.add]
theorem Tryz.infoLit5:(Tryz.prog.info? 76).map (fun i=>(i.zero,i.size,i.bytes))=some (some (.agg #[.int .i64 0,.int .i64 0,.int .i64 0]),3,24):=by kernel_rfl
theorem Tryz.underLits5:Tryz.prog.underlying 27=some (.slice 76):=by kernel_rfl
theorem zKB (N R M:Nat) (en:Int) (F:Nat) (item:List Tok→PR MLit) (I:World→Prop) (hE:Eats item) (B:Nat) (hI:Item B N R M en F item (fun i v _=>v=litA i) I) (w:World) (hBw:B≤w.heap.size) (l:List Tok) (h:Rd N R M en w l) (hi0:I w) (hl:l.length≤4000) :
 Calls Tryz.prog 284 #[.pointer (some ⟨R,0,none⟩),.func (.func F) #[.pointer (some ⟨R,0,none⟩)] #[]] w
  (zB7 (zAr en item l) (fun xs v w'=>w'.ownsRow w.heap.size 76 3 v xs.length (xs.flatMap litC)∧I w') N R M en (fun k=>k=R) w):=by
 have HB:Hid (Rd N R M en w l):=h;have HI0:Hid (I w):=hi0;have HIT:Hid (Item B N R M en F item (fun i v _=>v=litA i) I):=hI
 have HE:Hid (Eats item):=hE;have hRw:R<w.heap.size:=by obtain⟨_,_,hR,_⟩:=h;exact (Array.getElem?_eq_some_iff.1 hR).1
 have HX:Hid (∀k,(fun k=>k=R) k→k<w.heap.size):=fun k hk=>by subst hk;exact hRw
 obtain⟨i0,hi,hz0,hz1,hz2⟩:=info_parts Tryz.infoLit5;obtain⟨P,hP⟩:∃P,zAr en item l=P:=⟨_,rfl⟩;have HP:Hid (zAr en item l=P):=hP;rw[hP];clear hP h hi0 hI hE;go_enter Tryz.func284,Tryz.ntmps284
 go_wp2_with fail
 refine (zAp N R M en ⟨#[91]⟩ zCa w l HB.out).mono ?_;intro e w1 hp;cases hs:zAY en ⟨#[91]⟩ l with
 | bad x er =>
   rw[hs] at hp;obtain⟨rfl,hfr⟩:=hp;have HPB:Hid (P=.bad x er):=by show _=_;rw[←HP.out];unfold zAr;rw[hs];rfl
   clear hs;go_wp2
   exact⟨rfl,by rw[HPB.out];exact⟨rfl,hfr⟩⟩
 | ok t q =>
   rw[hs] at hp;obtain⟨v,rfl,rfl,hrd,hfr⟩:=hp;have HRD:Hid (Rd N R M en w1 q):=hrd;have HFR:Hid (Fr (fun k=>k=R) w w1):=hfr
   have hql:q.length+1=l.length:=zBs zCa hs;have HQL:Hid (q.length+1=l.length):=hql;have HP1:Hid (P=if (zAN en q).text.toList==[93] then (zAY en ⟨#[93]⟩ q).bind fun _ l=>.ok [] l else (item q).bind fun x l=>zCK en item (l.length+1) [x] l):=by
    show _=_;rw[←HP.out];unfold zAr;rw[hs];rfl
   have hf2:=zFD (zAN en q);clear hs hrd hfr HP hql;go_wp2_with fail
   refine (zAS N R M en _ q HRD.out).mono ?_;rintro e w2 ⟨rfl,hb2⟩;have HR2:Hid (Rd N R M en w2 q):=HRD.out.below hb2;have HF2:Hid (Fr (fun k=>k=R) w w2):=HFR.out.trans (Fr.below hb2)
   unfold tokA;clear hb2;cases hq:((zAN en q).text.toList==[93])
   ·have HP2:Hid (P=(item q).bind fun x l=>zCK en item (l.length+1) [x] l):=by show _=_;rw[HP1.out,hq];rfl
    have HI2:Hid (I w2):=HIT.out.2.1 _ _ HI0.out (HF2.out.weak fun k hk=>Or.inl hk)
    clear HP1;go_wp2_with fail
    rw[HIT.out.1,Oper.upon_enter];refine (HIT.out.2.2 w2 q HR2.out HI2.out).mono ?_;intro e w3 hp;cases hit:item q with
    | bad x er =>
      rw[hit] at hp;obtain⟨rfl,hfr⟩:=hp;have hfr2:=HF2.out.trans hfr;have HPB:Hid (P=.bad x er):=by show _=_;rw[HP2.out,hit];rfl
      clear hit hq hfr;go_wp2
      exact⟨rfl,by rw[HPB.out];exact⟨rfl,hfr2⟩⟩
    | ok x r =>
      rw[hit] at hp;obtain⟨v,rfl,rfl,hrd,hfr⟩:=hp;unfold litA;have HR3:Hid (Rd N R M en w3 r):=hrd;have HF3:Hid (Fr (fun k=>k=R) w w3):=HF2.out.trans hfr
      have HI3:Hid (I w3):=HIT.out.2.1 _ _ HI2.out (hfr.weak fun k hk=>Or.inl hk)
      have HRL:Hid (r.length≤q.length):=HE.out q x r hit;have HP3:Hid (P=zCK en item (r.length+1) [x] r):=by show _=_;rw[HP2.out,hit];rfl
      have hsz3:w.heap.size≤w3.heap.size:=HF3.out.size;clear hit hrd hfr hq hf2 HP2;go_wp2_with (at_builtin;refine wpList_append_own _ rfl _ _ 27 rfl w.heap.size 76 i0 (.agg #[.int .i64 0,.int .i64 0,.int .i64 0]) 3 24 Tryz.underLits5 hi hz0 hz1 hz2 rfl (by decide) _ _ _ rfl (World.ownsRow_nil _ _ _ _) ⟨w3.heap.size,0,none⟩ 1 1 (litC x) rfl rfl ?c1 ?c2 ?c3 ?c4 ?c5 ?_)
      case c1=>exact zKA w3 x
      case c2=>exact zMk x
      case c3=>unfold maxLen;omega
      case c4=>omega
      case c5=>simp;omega
      intro v5 w5 hown5 hg5 _;have HR5:Hid (Rd N R M en w5 r):=(HR3.out.below (zAA _ _)).grown hg5 (fun k hk=>by cases hk)
      have HF5:Hid (Fr (fun k=>k=R) w w5):=(HF3.out.alloc _).grown hg5 (fun k hk=>by cases hk)
      have HI5:Hid (I w5):=HIT.out.2.1 _ _ HI3.out (((Fr.refl _ _).alloc _).grown hg5 (fun k hk=>by cases hk))
      have HO5:Hid (w5.ownsRow w.heap.size 76 3 v5 [x].length ([x].flatMap litC)):=by unfold Hid;simpa using hown5
      clear hown5 hg5;go_wp2_with fail
      go_loopw [5] (fun v wr=>∃(f:Nat) (acc:List MLit) (q:List Tok),Hid (P=zCK en item f acc q)∧Hid (Rd N R M en wr q)∧Hid (I wr)∧Hid (wr.ownsRow w.heap.size 76 3 v acc.length (acc.flatMap litC))∧Hid (Fr (fun k=>k=R) w wr)∧q.length+1≤f∧acc.length+q.length≤4000) (fun _ wr=>zD0 R wr)
      case atStart=>exact⟨_,[x],r,HP3,HR5,HI5,HO5,HF5,by omega,by have:=HRL.out;have:=HQL.out;simp;omega⟩
      case round =>
       obtain⟨f,acc,q,HPM,HRM,HIM,HOM,HFM,hf,hlen⟩:=hrel;obtain⟨g,rfl⟩:∃g,f=g+1:=⟨f - 1,by omega⟩
       have hf2:=zFD (zAN en q);obtain⟨av,cv,hv⟩:=zAC HOM.out;subst hv;have HCM:Hid ((⟨#[44]⟩:ByteArray).toList=[44]):=by show _=_;simp[go_sem]
       cases hc:((zAN en q).text.toList==[44])
       ·have HPE:Hid (P=(zAY en ⟨#[93]⟩ q).bind fun _ l=>.ok acc l):=by show _=_;rw[HPM.out];unfold zCK;rw[hc];rfl
        go_wp2_with fail
        refine (zAS N R M en _ q HRM.out).mono ?_;rintro e w6 ⟨rfl,hb6⟩;have HR6:Hid (Rd N R M en w6 q):=HRM.out.below hb6;have HF6:Hid (Fr (fun k=>k=R) w w6):=HFM.out.trans (Fr.below hb6)
        have HI6:Hid (I w6):=HIT.out.2.1 _ _ HIM.out (Fr.below hb6);have HO6:Hid (w6.ownsRow w.heap.size 76 3 (.slice av acc.length cv) acc.length (acc.flatMap litC)):=zAB HOM.out hb6;unfold tokA;clear hb6;go_wp2_with fail
        refine (zAp N R M en ⟨#[93]⟩ zBl w6 q HR6.out).mono ?_;intro e w7 hp;cases hs:zAY en ⟨#[93]⟩ q with
        | bad x er =>
          rw[hs] at hp;obtain⟨rfl,hfr⟩:=hp;have hfr2:=HF6.out.trans hfr;have HPB:Hid (P=.bad x er):=by show _=_;rw[HPE.out,hs];rfl
          clear hs hc hfr;go_wp2
          exact⟨rfl,by rw[HPB.out];exact⟨rfl,hfr2⟩⟩
        | ok t q2 =>
          rw[hs] at hp;obtain⟨v,rfl,rfl,hrd,hfr⟩:=hp;have hfr2:=HF6.out.trans hfr;have HI7:Hid (I w7):=HIT.out.2.1 _ _ HI6.out (hfr.weak fun k hk=>Or.inl hk)
          have HO7:Hid (w7.ownsRow w.heap.size 76 3 (.slice av acc.length cv) acc.length (acc.flatMap litC)):=zDY HO6.out hfr HX.out;have HPB:Hid (P=.ok acc q2):=by show _=_;rw[HPE.out,hs];rfl
          clear hs hc hfr;go_wp2
          go_ret
          rw[HPB.out];exact⟨_,rfl,⟨HO7.out,HI7.out⟩,hrd,hfr2⟩
       ·have hne:=zEU en q ⟨#[44]⟩ zB8 (by rw[HCM.out];exact hc)
        have HSK:Hid (zAY en ⟨#[44]⟩ q=.ok (zAN en q) q.tail):=by show _=_;unfold zAY zBu;rw[HCM.out,hc];rfl
        obtain⟨q2,hq2⟩:∃q2,q.tail=q2:=⟨_,rfl⟩;have HQ2:Hid (q.tail=q2):=hq2;have hql2:q2.length+1=q.length:=by
         rw[←hq2];cases q with
         | nil=>exact absurd rfl hne
         | cons a q=>simp
        have HPE:Hid (P=(item q2).bind fun x l=>zCK en item g (acc++[x]) l):=by show _=_;rw[HPM.out,zCK,hc,if_pos rfl,HSK.out,←hq2];rfl
        clear hne hq2;go_wp2_with fail
        refine (zAS N R M en _ q HRM.out).mono ?_;rintro e w6 ⟨rfl,hb6⟩;have HR6:Hid (Rd N R M en w6 q):=HRM.out.below hb6;have HF6:Hid (Fr (fun k=>k=R) w w6):=HFM.out.trans (Fr.below hb6)
        have HI6:Hid (I w6):=HIT.out.2.1 _ _ HIM.out (Fr.below hb6);have HO6:Hid (w6.ownsRow w.heap.size 76 3 (.slice av acc.length cv) acc.length (acc.flatMap litC)):=zAB HOM.out hb6;unfold tokA;clear hb6;go_wp2_with fail
        refine (zAp N R M en ⟨#[44]⟩ zB8 w6 q HR6.out).mono ?_;intro e w7 hp;rw[HSK.out] at hp;obtain⟨v,rfl,rfl,hrd,hfr⟩:=hp;have HR7:Hid (Rd N R M en w7 q2):=by rw[←HQ2.out];exact hrd
        have HF7:Hid (Fr (fun k=>k=R) w w7):=HF6.out.trans hfr
        have HI7:Hid (I w7):=HIT.out.2.1 _ _ HI6.out (hfr.weak fun k hk=>Or.inl hk)
        have HO7:Hid (w7.ownsRow w.heap.size 76 3 (.slice av acc.length cv) acc.length (acc.flatMap litC)):=zDY HO6.out hfr HX.out;clear hrd hfr hc hf2;go_wp2_with fail
        rw[HIT.out.1,Oper.upon_enter];refine (HIT.out.2.2 w7 q2 HR7.out HI7.out).mono ?_;intro e w8 hp;cases hit:item q2 with
        | bad x er =>
          rw[hit] at hp;obtain⟨rfl,hfr⟩:=hp;have hfr2:=HF7.out.trans hfr;have HPB:Hid (P=.bad x er):=by show _=_;rw[HPE.out,hit];rfl
          clear hit hfr;go_wp2
          exact⟨rfl,by rw[HPB.out];exact⟨rfl,hfr2⟩⟩
        | ok x r =>
          rw[hit] at hp;obtain⟨v,rfl,rfl,hrd,hfr⟩:=hp;unfold litA;have HR8:Hid (Rd N R M en w8 r):=hrd;have HF8:Hid (Fr (fun k=>k=R) w w8):=HF7.out.trans hfr
          have HI8:Hid (I w8):=HIT.out.2.1 _ _ HI7.out (hfr.weak fun k hk=>Or.inl hk)
          have HO8:Hid (w8.ownsRow w.heap.size 76 3 (.slice av acc.length cv) acc.length (acc.flatMap litC)):=zDY HO7.out hfr HX.out;have hrl:r.length≤q2.length:=HE.out q2 x r hit;have HPN:Hid (P=zCK en item g (acc++[x]) r):=by show _=_;rw[HPE.out,hit];rfl
          have hsz8:w.heap.size≤w8.heap.size:=HF8.out.size;have hox:=HO8.out.alloc (.cells #[.int .i64 x.var,.int .i64 x.op,.int .i64 x.n] 76);clear hit hrd hfr;go_wp2_with (at_builtin;refine wpList_append_own _ rfl _ _ 27 rfl w.heap.size 76 i0 (.agg #[.int .i64 0,.int .i64 0,.int .i64 0]) 3 24 Tryz.underLits5 hi hz0 hz1 hz2 rfl (by decide) _ _ _ rfl hox ⟨w8.heap.size,0,none⟩ 1 1 (litC x) rfl rfl ?c1 ?c2 ?c3 ?c4 ?c5 ?_)
          case c1=>exact zKA w8 x
          case c2=>exact zMk x
          case c3=>unfold maxLen;omega
          case c4=>omega
          case c5=>simp;omega
          intro v9 w9 hown9 hg9 _;have hrow:∀k,(Value.slice av acc.length cv).ownBlock=some k→w.heap.size≤k:=fun k hk=>(HO8.out.lt k hk).1
          have HR9:Hid (Rd N R M en w9 r):=(HR8.out.below (zAA _ _)).grown hg9 (fun k hk=>⟨by have:=hrow k hk;omega,by have:=hrow k hk;have:=HB.out.1.2.1;omega⟩)
          have HF9:Hid (Fr (fun k=>k=R) w w9):=(HF8.out.alloc _).grown hg9 (fun k hk=>Or.inr (hrow k hk))
          have HI9:Hid (I w9):=HIT.out.2.1 _ _ HI8.out (((Fr.refl _ _).alloc _).grown hg9 (fun k hk=>Or.inl (Or.inr (by have:=hrow k hk;omega))))
          have HO9:Hid (w9.ownsRow w.heap.size 76 3 v9 (acc++[x]).length ((acc++[x]).flatMap litC)):=by
           unfold Hid;rw[List.length_append,List.flatMap_append];simpa using hown9
          have HM9:Hid (zD0 R w9<zD0 R wr):=by show _<_;rw[zCl HR9.out,zCl HRM.out];omega
          clear hown9 hg9 hrow hox;go_wp2
          go_roundw
          case rel=>exact⟨g,acc++[x],r,HPN,HR9,HI9,HO9,HF9,by omega,by simp;omega⟩
          case measure=>exact HM9.out
   ·have HP2:Hid (P=(zAY en ⟨#[93]⟩ q).bind fun _ l=>.ok [] l):=by show _=_;rw[HP1.out,hq];rfl
    have HI2:Hid (I w2):=HIT.out.2.1 _ _ HI0.out (HF2.out.weak fun k hk=>Or.inl hk)
    clear HP1;go_wp2_with fail
    refine (zAp N R M en ⟨#[93]⟩ zBl w2 q HR2.out).mono ?_;intro e w7 hp;cases hs:zAY en ⟨#[93]⟩ q with
    | bad x er =>
      rw[hs] at hp;obtain⟨rfl,hfr⟩:=hp;have hfr2:=HF2.out.trans hfr;have HPB:Hid (P=.bad x er):=by show _=_;rw[HP2.out,hs];rfl
      clear hs hq hfr;go_wp2
      exact⟨rfl,by rw[HPB.out];exact⟨rfl,hfr2⟩⟩
    | ok t q2 =>
      rw[hs] at hp;obtain⟨v,rfl,rfl,hrd,hfr⟩:=hp;have hfr2:=HF2.out.trans hfr;have HI7:Hid (I w7):=HIT.out.2.1 _ _ HI2.out (hfr.weak fun k hk=>Or.inl hk)
      have HPB:Hid (P=.ok [] q2):=by show _=_;rw[HP2.out,hs];rfl
      clear hs hq hfr;go_wp2
      go_ret
      rw[HPB.out];exact⟨_,rfl,⟨World.ownsRow_nil _ _ _ _,HI7.out⟩,hrd,hfr2⟩
theorem zKC (w:World) (z:Value):∀(j:Nat) (u:Value),[z][j]? = some u→(w.alloc (.cells #[z] 42)).cell? ((⟨w.heap.size,0,none⟩:Addr).add j)=some u:=by
 intro j u hj
 match j,hj with
 | 0,hj=>simp at hj;subst hj;simp[Addr.add]
theorem Tryz.infoRow5:(Tryz.prog.info? 42).map (fun i=>(i.zero,i.size,i.bytes))=some (some (.slice none 0 0),1,24):=by kernel_rfl
theorem Tryz.underRows5:Tryz.prog.underlying 56=some (.slice 42):=by kernel_rfl
theorem zHM {w:World} {b1 b2 n1 n2:Nat} {x v:Value} {xs vs:List Value} (h:w.ownsRow b1 3 1 x n1 xs) (k:w.ownsRow b2 42 1 v n2 vs):x.ownBlock=none∨x.ownBlock≠v.ownBlock:=by
 rcases h.2 with ⟨rfl,_⟩ | ⟨g,cap,cur,rfl,_,hg,_⟩
 ·exact Or.inl rfl
 ·refine Or.inr fun e=>?_
  rcases k.2 with ⟨rfl,_⟩ | ⟨g',cap',cur',rfl,_,hg',_⟩
  ·cases e
  ·have:g=g':=Option.some.inj e
   subst this;rw[hg] at hg';have h1:(3:TypeId)=42:=by injection hg' with h2;injection h2
   exact absurd h1 (by decide)
def LSr (B base:Nat) (w:World) (v:Value) (acc:List (List Int)):Prop :=
 ∃cells,w.ownsRow base 42 1 v acc.length cells∧∀(i:Nat) (r:List Int),acc[i]? = some r→∃x,cells[i]? = some x∧w.ownsRow B 3 1 x r.length (r.map (Value.int .i64))
theorem LSr.none (B base:Nat) (w:World):LSr B base w (.slice Option.none 0 0) []:=⟨[],World.ownsRow_nil _ _ _ _,fun i r h=>by simp at h⟩
theorem LSr.form {B base:Nat} {w:World} {v:Value} {acc:List (List Int)} (h:LSr B base w v acc):∃a c,v=.slice a acc.length c:=by
 obtain⟨cells,h1,_⟩:=h;exact zAC h1
theorem LSr.below {B base:Nat} {w w':World} {v:Value} {acc:List (List Int)} (h:LSr B base w v acc) (hb:Below w.heap.size w w'):LSr B base w' v acc:=by
 obtain⟨cells,h1,h2⟩:=h;refine⟨cells,zAB h1 hb,fun i r hr=>?_⟩
 obtain⟨x,hx,ho⟩:=h2 i r hr;exact⟨x,hx,zAB ho hb⟩
theorem LSr.fr {X:Nat→Prop} {B base:Nat} {w w':World} {v:Value} {acc:List (List Int)} (h:LSr B base w v acc) (hf:Fr X w w') (hX:∀k,X k→k<base) (hXB:∀k,X k→k<B):LSr B base w' v acc:=by
 obtain⟨cells,h1,h2⟩:=h;refine⟨cells,zDY h1 hf hX,fun i r hr=>?_⟩
 obtain⟨x,hx,ho⟩:=h2 i r hr;exact⟨x,hx,zDY ho hf hXB⟩
theorem LSr.first {B base:Nat} {w:World} {v xv:Value} {x:List Int} (h:w.ownsRow base 42 1 v (0+1) ([]++[xv])) (hx:w.ownsRow B 3 1 xv x.length (x.map (Value.int .i64))):LSr B base w v [x]:=by
 refine⟨[xv],h,fun i r hr=>?_⟩
 match i,hr with
 | 0,hr=>cases hr;exact⟨xv,rfl,hx⟩
theorem LSr.push {B base:Nat} {w w':World} {v v' xv:Value} {x:List Int} {acc:List (List Int)} {cells:List Value} {o:Obj} (h:w.ownsRow base 42 1 v acc.length cells)
 (hc:∀(i:Nat) (r:List Int),acc[i]? = some r→∃x,cells[i]? = some x∧w.ownsRow B 3 1 x r.length (r.map (Value.int .i64))) (hx:w.ownsRow B 3 1 xv x.length (x.map (Value.int .i64)))
 (h':w'.ownsRow base 42 1 v' (acc.length+1) (cells++[xv])) (hg:(w.alloc o).grownBy w' v.ownBlock):LSr B base w' v' (acc++[x]):=by
 have hlen:cells.length=acc.length:=by have:=h.1;omega
 refine⟨cells++[xv],by rw[List.length_append];exact h',fun i r hr=>?_⟩
 by_cases hi:i<acc.length
 ·rw[List.getElem?_append_left hi] at hr
  obtain⟨y,hy,ho⟩:=hc i r hr;exact⟨y,by rw[List.getElem?_append_left (by omega)];exact hy,(ho.alloc _).kept hg (zHM ho h)⟩
 ·rw[List.getElem?_append_right (by omega)] at hr
  have hi0:i - acc.length=0:=by
   have:=(List.getElem?_eq_some_iff.1 hr).1;simp at this;omega
  rw[hi0] at hr;cases hr
  refine⟨xv,?_,(hx.alloc _).kept hg (zHM hx h)⟩;rw[List.getElem?_append_right (by omega),show i - cells.length=0 by omega];rfl
theorem zKD (N R M:Nat) (en:Int) (F:Nat) (item:List Tok→PR (List Int)) (I:World→Prop) (hE:Eats item) (B:Nat) (hI:Item B N R M en F item (fun xs v w'=>w'.ownsRow B 3 1 v xs.length (xs.map (Value.int .i64))) I) (w:World) (hBw:B≤w.heap.size) (hRB:R<B) (l:List Tok) (h:Rd N R M en w l) (hi0:I w) (hl:l.length≤4000) :
 Calls Tryz.prog 283 #[.pointer (some ⟨R,0,none⟩),.func (.func F) #[.pointer (some ⟨R,0,none⟩)] #[]] w
  (zB7 (zAr en item l) (fun xs v w'=>LSr B w.heap.size w' v xs∧I w') N R M en (fun k=>k=R) w):=by
 have HB:Hid (Rd N R M en w l):=h;have HI0:Hid (I w):=hi0;have HIT:Hid (Item B N R M en F item (fun xs v w'=>w'.ownsRow B 3 1 v xs.length (xs.map (Value.int .i64))) I):=hI
 have HE:Hid (Eats item):=hE;have hRw:R<w.heap.size:=by obtain⟨_,_,hR,_⟩:=h;exact (Array.getElem?_eq_some_iff.1 hR).1
 have HX:Hid (∀k,(fun k=>k=R) k→k<w.heap.size):=fun k hk=>by subst hk;exact hRw
 have HXB:Hid (∀k,(fun k=>k=R) k→k<B):=fun k hk=>by subst hk;exact hRB
 obtain⟨i0,hi,hz0,hz1,hz2⟩:=info_parts Tryz.infoRow5;obtain⟨P,hP⟩:∃P,zAr en item l=P:=⟨_,rfl⟩;have HP:Hid (zAr en item l=P):=hP;rw[hP];clear hP h hi0 hI hE;go_enter Tryz.func283,Tryz.ntmps283
 go_wp2_with fail
 refine (zAp N R M en ⟨#[91]⟩ zCa w l HB.out).mono ?_;intro e w1 hp;cases hs:zAY en ⟨#[91]⟩ l with
 | bad x er =>
   rw[hs] at hp;obtain⟨rfl,hfr⟩:=hp;have HPB:Hid (P=.bad x er):=by show _=_;rw[←HP.out];unfold zAr;rw[hs];rfl
   clear hs;go_wp2
   exact⟨rfl,by rw[HPB.out];exact⟨rfl,hfr⟩⟩
 | ok t q =>
   rw[hs] at hp;obtain⟨v,rfl,rfl,hrd,hfr⟩:=hp;have HRD:Hid (Rd N R M en w1 q):=hrd;have HFR:Hid (Fr (fun k=>k=R) w w1):=hfr
   have hql:q.length+1=l.length:=zBs zCa hs;have HQL:Hid (q.length+1=l.length):=hql;have HP1:Hid (P=if (zAN en q).text.toList==[93] then (zAY en ⟨#[93]⟩ q).bind fun _ l=>.ok [] l else (item q).bind fun x l=>zCK en item (l.length+1) [x] l):=by
    show _=_;rw[←HP.out];unfold zAr;rw[hs];rfl
   have hf2:=zFD (zAN en q);clear hs hrd hfr HP hql;go_wp2_with fail
   refine (zAS N R M en _ q HRD.out).mono ?_;rintro e w2 ⟨rfl,hb2⟩;have HR2:Hid (Rd N R M en w2 q):=HRD.out.below hb2;have HF2:Hid (Fr (fun k=>k=R) w w2):=HFR.out.trans (Fr.below hb2)
   unfold tokA;clear hb2;cases hq:((zAN en q).text.toList==[93])
   ·have HP2:Hid (P=(item q).bind fun x l=>zCK en item (l.length+1) [x] l):=by show _=_;rw[HP1.out,hq];rfl
    have HI2:Hid (I w2):=HIT.out.2.1 _ _ HI0.out (HF2.out.weak fun k hk=>Or.inl hk)
    clear HP1;go_wp2_with fail
    rw[HIT.out.1,Oper.upon_enter];refine (HIT.out.2.2 w2 q HR2.out HI2.out).mono ?_;intro e w3 hp;cases hit:item q with
    | bad x er =>
      rw[hit] at hp;obtain⟨rfl,hfr⟩:=hp;have hfr2:=HF2.out.trans hfr;have HPB:Hid (P=.bad x er):=by show _=_;rw[HP2.out,hit];rfl
      clear hit hq hfr;go_wp2
      exact⟨rfl,by rw[HPB.out];exact⟨rfl,hfr2⟩⟩
    | ok x r =>
      rw[hit] at hp;obtain⟨v,rfl,hvo,hrd,hfr⟩:=hp;obtain⟨ax,cx,hvf⟩:=zAC hvo;subst hvf;have HVO:Hid (w3.ownsRow B 3 1 (.slice ax x.length cx) x.length (x.map (Value.int .i64))):=hvo;clear hvo;have HR3:Hid (Rd N R M en w3 r):=hrd;have HF3:Hid (Fr (fun k=>k=R) w w3):=HF2.out.trans hfr
      have HI3:Hid (I w3):=HIT.out.2.1 _ _ HI2.out (hfr.weak fun k hk=>Or.inl hk)
      have HRL:Hid (r.length≤q.length):=HE.out q x r hit;have HP3:Hid (P=zCK en item (r.length+1) [x] r):=by show _=_;rw[HP2.out,hit];rfl
      have hsz3:w.heap.size≤w3.heap.size:=HF3.out.size;clear hit hrd hfr hq hf2 HP2;go_wp2_with (at_builtin;refine wpList_append_own _ rfl _ _ 56 rfl w.heap.size 42 i0 (.slice none 0 0) 1 24 Tryz.underRows5 hi hz0 hz1 hz2 rfl (by decide) _ _ _ rfl (World.ownsRow_nil _ _ _ _) ⟨w3.heap.size,0,none⟩ 1 1 [.slice ax x.length cx] rfl rfl ?c1 ?c2 ?c3 ?c4 ?c5 ?_)
      case c1=>exact zKC w3 (.slice ax x.length cx)
      case c2=>intro u hu;rcases List.mem_singleton.1 hu with rfl;rfl
      case c3=>unfold maxLen;omega
      case c4=>omega
      case c5=>simp;omega
      intro v5 w5 hown5 hg5 _;have HR5:Hid (Rd N R M en w5 r):=(HR3.out.below (zAA _ _)).grown hg5 (fun k hk=>by cases hk)
      have HF5:Hid (Fr (fun k=>k=R) w w5):=(HF3.out.alloc _).grown hg5 (fun k hk=>by cases hk)
      have HI5:Hid (I w5):=HIT.out.2.1 _ _ HI3.out (((Fr.refl _ _).alloc _).grown hg5 (fun k hk=>by cases hk))
      have HO5:Hid (LSr B w.heap.size w5 v5 [x]):=LSr.first hown5 ((HVO.out.alloc _).kept hg5 (zHM HVO.out (World.ownsRow_nil w3 w.heap.size 42 1)));clear hown5 hg5;go_wp2_with fail
      go_loopw [5] (fun v wr=>∃(f:Nat) (acc:List (List Int)) (q:List Tok),Hid (P=zCK en item f acc q)∧Hid (Rd N R M en wr q)∧Hid (I wr)∧Hid (LSr B w.heap.size wr v acc)∧Hid (Fr (fun k=>k=R) w wr)∧q.length+1≤f∧acc.length+q.length≤4000) (fun _ wr=>zD0 R wr)
      case atStart=>exact⟨_,[x],r,HP3,HR5,HI5,HO5,HF5,by omega,by have:=HRL.out;have:=HQL.out;simp;omega⟩
      case round =>
       obtain⟨f,acc,q,HPM,HRM,HIM,HOM,HFM,hf,hlen⟩:=hrel;obtain⟨g,rfl⟩:∃g,f=g+1:=⟨f - 1,by omega⟩
       have hf2:=zFD (zAN en q);obtain⟨av,cv,hv⟩:=HOM.out.form;subst hv;have HCM:Hid ((⟨#[44]⟩:ByteArray).toList=[44]):=by show _=_;simp[go_sem]
       cases hc:((zAN en q).text.toList==[44])
       ·have HPE:Hid (P=(zAY en ⟨#[93]⟩ q).bind fun _ l=>.ok acc l):=by show _=_;rw[HPM.out];unfold zCK;rw[hc];rfl
        go_wp2_with fail
        refine (zAS N R M en _ q HRM.out).mono ?_;rintro e w6 ⟨rfl,hb6⟩;have HR6:Hid (Rd N R M en w6 q):=HRM.out.below hb6;have HF6:Hid (Fr (fun k=>k=R) w w6):=HFM.out.trans (Fr.below hb6)
        have HI6:Hid (I w6):=HIT.out.2.1 _ _ HIM.out (Fr.below hb6);have HO6:Hid (LSr B w.heap.size w6 (.slice av acc.length cv) acc):=HOM.out.below hb6;unfold tokA;clear hb6;go_wp2_with fail
        refine (zAp N R M en ⟨#[93]⟩ zBl w6 q HR6.out).mono ?_;intro e w7 hp;cases hs:zAY en ⟨#[93]⟩ q with
        | bad x er =>
          rw[hs] at hp;obtain⟨rfl,hfr⟩:=hp;have hfr2:=HF6.out.trans hfr;have HPB:Hid (P=.bad x er):=by show _=_;rw[HPE.out,hs];rfl
          clear hs hc hfr;go_wp2
          exact⟨rfl,by rw[HPB.out];exact⟨rfl,hfr2⟩⟩
        | ok t q2 =>
          rw[hs] at hp;obtain⟨v,rfl,rfl,hrd,hfr⟩:=hp;have hfr2:=HF6.out.trans hfr;have HI7:Hid (I w7):=HIT.out.2.1 _ _ HI6.out (hfr.weak fun k hk=>Or.inl hk)
          have HO7:Hid (LSr B w.heap.size w7 (.slice av acc.length cv) acc):=HO6.out.fr hfr HX.out HXB.out;have HPB:Hid (P=.ok acc q2):=by show _=_;rw[HPE.out,hs];rfl
          clear hs hc hfr;go_wp2
          go_ret
          rw[HPB.out];exact⟨_,rfl,⟨HO7.out,HI7.out⟩,hrd,hfr2⟩
       ·have hne:=zEU en q ⟨#[44]⟩ zB8 (by rw[HCM.out];exact hc)
        have HSK:Hid (zAY en ⟨#[44]⟩ q=.ok (zAN en q) q.tail):=by show _=_;unfold zAY zBu;rw[HCM.out,hc];rfl
        obtain⟨q2,hq2⟩:∃q2,q.tail=q2:=⟨_,rfl⟩;have HQ2:Hid (q.tail=q2):=hq2;have hql2:q2.length+1=q.length:=by
         rw[←hq2];cases q with
         | nil=>exact absurd rfl hne
         | cons a q=>simp
        have HPE:Hid (P=(item q2).bind fun x l=>zCK en item g (acc++[x]) l):=by show _=_;rw[HPM.out,zCK,hc,if_pos rfl,HSK.out,←hq2];rfl
        clear hne hq2;go_wp2_with fail
        refine (zAS N R M en _ q HRM.out).mono ?_;rintro e w6 ⟨rfl,hb6⟩;have HR6:Hid (Rd N R M en w6 q):=HRM.out.below hb6;have HF6:Hid (Fr (fun k=>k=R) w w6):=HFM.out.trans (Fr.below hb6)
        have HI6:Hid (I w6):=HIT.out.2.1 _ _ HIM.out (Fr.below hb6);have HO6:Hid (LSr B w.heap.size w6 (.slice av acc.length cv) acc):=HOM.out.below hb6;unfold tokA;clear hb6;go_wp2_with fail
        refine (zAp N R M en ⟨#[44]⟩ zB8 w6 q HR6.out).mono ?_;intro e w7 hp;rw[HSK.out] at hp;obtain⟨v,rfl,rfl,hrd,hfr⟩:=hp;have HR7:Hid (Rd N R M en w7 q2):=by rw[←HQ2.out];exact hrd
        have HF7:Hid (Fr (fun k=>k=R) w w7):=HF6.out.trans hfr
        have HI7:Hid (I w7):=HIT.out.2.1 _ _ HI6.out (hfr.weak fun k hk=>Or.inl hk)
        have HO7:Hid (LSr B w.heap.size w7 (.slice av acc.length cv) acc):=HO6.out.fr hfr HX.out HXB.out;clear hrd hfr hc hf2;go_wp2_with fail
        rw[HIT.out.1,Oper.upon_enter];refine (HIT.out.2.2 w7 q2 HR7.out HI7.out).mono ?_;intro e w8 hp;cases hit:item q2 with
        | bad x er =>
          rw[hit] at hp;obtain⟨rfl,hfr⟩:=hp;have hfr2:=HF7.out.trans hfr;have HPB:Hid (P=.bad x er):=by show _=_;rw[HPE.out,hit];rfl
          clear hit hfr;go_wp2
          exact⟨rfl,by rw[HPB.out];exact⟨rfl,hfr2⟩⟩
        | ok x r =>
          rw[hit] at hp;obtain⟨v,rfl,hvo,hrd,hfr⟩:=hp;obtain⟨ax,cx,hvf⟩:=zAC hvo;subst hvf;have HVO:Hid (w8.ownsRow B 3 1 (.slice ax x.length cx) x.length (x.map (Value.int .i64))):=hvo;clear hvo;have HR8:Hid (Rd N R M en w8 r):=hrd;have HF8:Hid (Fr (fun k=>k=R) w w8):=HF7.out.trans hfr
          have HI8:Hid (I w8):=HIT.out.2.1 _ _ HI7.out (hfr.weak fun k hk=>Or.inl hk)
          have HO8:Hid (LSr B w.heap.size w8 (.slice av acc.length cv) acc):=HO7.out.fr hfr HX.out HXB.out;have hrl:r.length≤q2.length:=HE.out q2 x r hit;have HPN:Hid (P=zCK en item g (acc++[x]) r):=by show _=_;rw[HPE.out,hit];rfl
          have hsz8:w.heap.size≤w8.heap.size:=HF8.out.size;obtain⟨cells,hco,hci⟩:=HO8.out;have HCI:Hid (∀(i:Nat) (r:List Int),acc[i]? = some r→∃x,cells[i]? = some x∧w8.ownsRow B 3 1 x r.length (r.map (Value.int .i64))):=hci;have HCO:Hid (w8.ownsRow w.heap.size 42 1 (.slice av acc.length cv) acc.length cells):=hco;have hox:=hco.alloc (.cells #[.slice ax x.length cx] 42);clear hci hco;clear hit hrd hfr;go_wp2_with (at_builtin;refine wpList_append_own _ rfl _ _ 56 rfl w.heap.size 42 i0 (.slice none 0 0) 1 24 Tryz.underRows5 hi hz0 hz1 hz2 rfl (by decide) _ _ _ rfl hox ⟨w8.heap.size,0,none⟩ 1 1 [.slice ax x.length cx] rfl rfl ?c1 ?c2 ?c3 ?c4 ?c5 ?_)
          case c1=>exact zKC w8 (.slice ax x.length cx)
          case c2=>intro u hu;rcases List.mem_singleton.1 hu with rfl;rfl
          case c3=>unfold maxLen;omega
          case c4=>omega
          case c5=>simp;omega
          intro v9 w9 hown9 hg9 _;have hrow:∀k,(Value.slice av acc.length cv).ownBlock=some k→w.heap.size≤k:=fun k hk=>(HCO.out.lt k hk).1
          have HR9:Hid (Rd N R M en w9 r):=(HR8.out.below (zAA _ _)).grown hg9 (fun k hk=>⟨by have:=hrow k hk;omega,by have:=hrow k hk;have:=HB.out.1.2.1;omega⟩)
          have HF9:Hid (Fr (fun k=>k=R) w w9):=(HF8.out.alloc _).grown hg9 (fun k hk=>Or.inr (hrow k hk))
          have HI9:Hid (I w9):=HIT.out.2.1 _ _ HI8.out (((Fr.refl _ _).alloc _).grown hg9 (fun k hk=>Or.inl (Or.inr (by have:=hrow k hk;omega))))
          have HO9:Hid (LSr B w.heap.size w9 v9 (acc++[x])):=LSr.push HCO.out HCI.out HVO.out hown9 hg9;have HM9:Hid (zD0 R w9<zD0 R wr):=by show _<_;rw[zCl HR9.out,zCl HRM.out];omega
          clear hown9 hg9 hrow hox;go_wp2
          go_roundw
          case rel=>exact⟨g,acc++[x],r,HPN,HR9,HI9,HO9,HF9,by omega,by simp;omega⟩
          case measure=>exact HM9.out
   ·have HP2:Hid (P=(zAY en ⟨#[93]⟩ q).bind fun _ l=>.ok [] l):=by show _=_;rw[HP1.out,hq];rfl
    have HI2:Hid (I w2):=HIT.out.2.1 _ _ HI0.out (HF2.out.weak fun k hk=>Or.inl hk)
    clear HP1;go_wp2_with fail
    refine (zAp N R M en ⟨#[93]⟩ zBl w2 q HR2.out).mono ?_;intro e w7 hp;cases hs:zAY en ⟨#[93]⟩ q with
    | bad x er =>
      rw[hs] at hp;obtain⟨rfl,hfr⟩:=hp;have hfr2:=HF2.out.trans hfr;have HPB:Hid (P=.bad x er):=by show _=_;rw[HP2.out,hs];rfl
      clear hs hq hfr;go_wp2
      exact⟨rfl,by rw[HPB.out];exact⟨rfl,hfr2⟩⟩
    | ok t q2 =>
      rw[hs] at hp;obtain⟨v,rfl,rfl,hrd,hfr⟩:=hp;have hfr2:=HF2.out.trans hfr;have HI7:Hid (I w7):=HIT.out.2.1 _ _ HI2.out (hfr.weak fun k hk=>Or.inl hk)
      have HPB:Hid (P=.ok [] q2):=by show _=_;rw[HP2.out,hs];rfl
      clear hs hq hfr;go_wp2
      go_ret
      rw[HPB.out];exact⟨_,rfl,⟨LSr.none _ _ _,HI7.out⟩,hrd,hfr2⟩
theorem zB7.mono {α:Type} {p:PR α} {G G':α→Value→World→Prop} {N R M:Nat} {en:Int} {X:Nat→Prop} {w w':World} {e:Ending} (hG:∀a v w',G a v w'→G' a v w') (h:zB7 p G N R M en X w e w'):zB7 p G' N R M en X w e w':=by
 unfold zB7 at *;cases p with
 | ok a r=>obtain⟨v,h1,h2,h3,h4⟩:=h;exact⟨v,h1,hG _ _ _ h2,h3,h4⟩
 | bad x er=>exact h
theorem zJZ (w:World) (l:List ByteArray) (hl:l.length≤100):SArg (w.alloc (.cells (l.map Value.string).toArray 9)) (.slice (some ⟨w.heap.size,0,none⟩) l.length l.length) l:=by
 refine⟨_,_,rfl,⟨Nat.le_refl _,by unfold maxLen;omega⟩,fun i z hz=>⟨_,0,rfl,by simp,?_⟩⟩
 rw[World.cell?_alloc_at _ _ _ _ rfl];simp[hz]
theorem zKE (w:World):Calls Tryz.prog 276 #[] w fun e w'=>∃v,e=.returned v∧SArg w' v opWL∧Below w.heap.size w w':=by
 go_enter Tryz.func276,Tryz.ntmps276
 go_wp2
 go_ret
 exact⟨_,rfl,zJZ w opWL (by decide),zAA _ _⟩
theorem zHN (w:World):Calls Tryz.prog 190 #[] w fun e w'=>∃v,e=.returned v∧SArg w' v zDX∧Below w.heap.size w w':=by
 go_enter Tryz.func190,Tryz.ntmps190
 go_wp2
 go_ret
 exact⟨_,rfl,zJZ w zDX (by decide),zAA _ _⟩
theorem zIb (w:World):Calls Tryz.prog 251 #[] w fun e w'=>∃v,e=.returned v∧SArg w' v zGx∧Below w.heap.size w w':=by
 go_enter Tryz.func251,Tryz.ntmps251
 go_wp2
 go_ret
 exact⟨_,rfl,zJZ w zGx (by decide),zAA _ _⟩
theorem zBG {w:World} {base base':Nat} {e:TypeId} {size:Nat} {v:Value} {n:Nat} {xs:List Value} (h:w.ownsRow base e size v n xs) (hb:base'≤base):w.ownsRow base' e size v n xs:=by
 refine⟨h.1,?_⟩;rcases h.2 with hn | ⟨g,cap,cur,hv,hg,r⟩
 ·exact .inl hn
 ·exact .inr ⟨g,cap,cur,hv,Nat.le_trans hb hg,r⟩
theorem zJa (args:Array Value) (w':World):Sem.run Tryz.prog (callFunc 261 args) w'=.ok (.enter 261 args) w':=by
 simp[callFunc,go_sem,Tryz.func261,Tryz.f261]
theorem zKF (args:Array Value) (w':World):Sem.run Tryz.prog (callFunc 265 args) w'=.ok (.enter 265 args) w':=by
 simp[callFunc,go_sem,Tryz.func265,Tryz.f265]
theorem zII (args:Array Value) (w':World):Sem.run Tryz.prog (callFunc 263 args) w'=.ok (.enter 263 args) w':=by
 simp[callFunc,go_sem,Tryz.func263,Tryz.f263]
theorem zLS (args:Array Value) (w':World):Sem.run Tryz.prog (callFunc 268 args) w'=.ok (.enter 268 args) w':=by
 simp[callFunc,go_sem,Tryz.func268,Tryz.f268]
theorem zLT (B N R M:Nat) (en:Int):Item B N R M en 261 (zAP en) (fun i v _=>v=.int .i64 i) (fun _=>True) :=
 ⟨zJa,fun _ _ _ _=>trivial,fun w l h _=>(zDp N R M en w l h).mono fun _ _ hp=>hp.mono fun _ _ _ h=>h.1⟩
theorem zIc (B R M:Nat) (names:List ByteArray) (hM:M<B) (hMR:M≠R) (w w':World) (h:NmS w M names) (hf:Fr (fun k=>k=R∨B≤k) w w'):NmS w' M names :=
 h.old (hf.block M h.lt (fun hx=>hx.elim hMR (fun h=>by omega)))
theorem zOq (B N R M:Nat) (en:Int) (names:List ByteArray) (hM:M<B) (hMR:M≠R) (hne:∀n∈names,n.data.toList≠[]):Item B N R M en 265 (zA1 en names) (fun i v _=>v=.int .i64 i) (fun w=>NmS w M names) :=
 ⟨zKF,zIc B R M names hM hMR,fun w l h hn=>zCk N R M en names w l h hn hne⟩
theorem zFF (N R M:Nat) (en:Int) (w:World) (l:List Tok) (h:Rd N R M en w l) :
 Calls Tryz.prog 263 #[.pointer (some ⟨R,0,none⟩)] w (zB7 (zAr en (zAP en) l) (fun xs v w'=>w'.ownsRow w.heap.size 3 1 v xs.length (xs.map (Value.int .i64))) N R M en (fun k=>k=R) w):=by
 have HB:Hid (Rd N R M en w l):=h;obtain⟨P,hP⟩:∃P,zAr en (zAP en) l=P:=⟨_,rfl⟩;have HP:Hid (zAr en (zAP en) l=P):=hP;rw[hP];clear h hP;go_enter Tryz.func263,Tryz.ntmps263
 go_wp2_with fail
 refine (zGc N R M en 261 (zAP en) (fun _=>True) (zB5 en) w.heap.size (zLT _ _ _ _ _) w (Nat.le_refl _) l HB.out trivial HB.out.len).mono ?_
 intro e w1 hp;rw[HP.out] at hp;cases P with
 | bad x er =>
   obtain⟨rfl,hfr⟩:=hp;go_wp2
   exact⟨rfl,rfl,hfr⟩
 | ok xs r =>
   obtain⟨v,rfl,⟨ho,_⟩,hrd,hfr⟩:=hp;have HO:Hid (w1.ownsRow w.heap.size 3 1 v xs.length (xs.map (Value.int .i64))):=ho;obtain⟨av,cv,hv⟩:=zAC ho;subst hv;clear ho;go_wp2
   go_ret
   exact⟨_,rfl,HO.out,hrd,hfr⟩
theorem zKG (B N R M:Nat) (en:Int):Item B N R M en 263 (zAr en (zAP en)) (fun xs v w'=>w'.ownsRow B 3 1 v xs.length (xs.map (Value.int .i64))) (fun w=>B≤w.heap.size) :=
 ⟨zII,fun _ _ h hf=>Nat.le_trans h hf.size,fun w l h hB=>(zFF N R M en w l h).mono fun _ _ hp=>hp.mono fun _ _ _ h=>zBG h hB⟩
theorem zC7 (N R M:Nat) (en:Int) (names:List ByteArray) (w:World) (l:List Tok) (h:Rd N R M en w l) (hn:NmS w M names) (hne:∀n∈names,n.data.toList≠[]) :
 Calls Tryz.prog 264 #[.pointer (some ⟨R,0,none⟩)] w (zB7 (zAr en (zA1 en names) l) (fun xs v w'=>w'.ownsRow w.heap.size 3 1 v xs.length (xs.map (Value.int .i64))∧NmS w' M names) N R M en (fun k=>k=R) w):=by
 have HB:Hid (Rd N R M en w l):=h;have HN:Hid (NmS w M names):=hn;have HNE:Hid (∀n∈names,n.data.toList≠[]):=hne;have hMR:M≠R:=h.1.2.2;obtain⟨P,hP⟩:∃P,zAr en (zA1 en names) l=P:=⟨_,rfl⟩;have HP:Hid (zAr en (zA1 en names) l=P):=hP;rw[hP];clear h hP hn hne;go_enter Tryz.func264,Tryz.ntmps264
 go_wp2_with fail
 refine (zGc N R M en 265 (zA1 en names) (fun w=>NmS w M names) (zER en names) w.heap.size (zOq _ _ _ _ _ names HN.out.lt hMR HNE.out) w (Nat.le_refl _) l HB.out HN.out HB.out.len).mono ?_
 intro e w1 hp;rw[HP.out] at hp;cases P with
 | bad x er =>
   obtain⟨rfl,hfr⟩:=hp;go_wp2
   exact⟨rfl,rfl,hfr⟩
 | ok xs r =>
   obtain⟨v,rfl,⟨ho,hn1⟩,hrd,hfr⟩:=hp;have HO:Hid (w1.ownsRow w.heap.size 3 1 v xs.length (xs.map (Value.int .i64))∧NmS w1 M names):=⟨ho,hn1⟩;obtain⟨av,cv,hv⟩:=zAC ho;subst hv;clear ho hn1;go_wp2
   go_ret
   exact⟨_,rfl,HO.out,hrd,hfr⟩
theorem zQe (B N R M:Nat) (en:Int) (w:World) (l:List Tok) (h:Rd N R M en w l) (hB:B≤w.heap.size) (hRB:R<B) :
 Calls Tryz.prog 266 #[.pointer (some ⟨R,0,none⟩)] w (zB7 (zAr en (zAr en (zAP en)) l) (fun xs v w'=>LSr B w.heap.size w' v xs) N R M en (fun k=>k=R) w):=by
 have HB:Hid (Rd N R M en w l):=h;obtain⟨P,hP⟩:∃P,zAr en (zAr en (zAP en)) l=P:=⟨_,rfl⟩;have HP:Hid (zAr en (zAr en (zAP en)) l=P):=hP;rw[hP];clear h hP;go_enter Tryz.func266,Tryz.ntmps266
 go_wp2_with fail
 refine (zKD N R M en 263 (zAr en (zAP en)) (fun w=>B≤w.heap.size) (zET en _ (zB5 en)) B (zKG B _ _ _ _) w hB hRB l HB.out hB HB.out.len).mono ?_
 intro e w1 hp;rw[HP.out] at hp;cases P with
 | bad x er =>
   obtain⟨rfl,hfr⟩:=hp;go_wp2
   exact⟨rfl,rfl,hfr⟩
 | ok xs r =>
   obtain⟨v,rfl,⟨ho,_⟩,hrd,hfr⟩:=hp;have HO:Hid (LSr B w.heap.size w1 v xs):=ho;obtain⟨av,cv,hv⟩:=ho.form;subst hv;clear ho;go_wp2
   go_ret
   exact⟨_,rfl,HO.out,hrd,hfr⟩
end Go.Proofs.YtndcpnlaadikoaaGreatDoor
