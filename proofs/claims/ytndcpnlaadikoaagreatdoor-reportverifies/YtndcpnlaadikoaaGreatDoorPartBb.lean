/- What the proof leans on, part 28. -/
import Derived.Test.YtndcpnlaadikoaaGreatDoorPartBa
set_option maxRecDepth 100000
set_option maxHeartbeats 3200000
open Go.Proofs.Tryz
namespace Go.Proofs.YtndcpnlaadikoaaGreatDoor
open Go.RowKit
theorem sE (w:World) (z:Value):∀(j:Nat) (u:Value),[z][j]? = some u->(w.alloc (.cells #[z] 42)).cell? ((⟨w.heap.size,0,none⟩:Addr).add j)=some u:=by
 intro j u hj
 match j,hj with
 | 0,hj=>simp at hj;subst hj;simp[Addr.add]
theorem j6:(prog.info? 42).map (λi=>(i.zero,i.size,i.bytes))=some (some (.slice none 0 0),1,24):=by kernel_rfl
theorem sD:prog.underlying 56=some (.slice 42):=by kernel_rfl
theorem sC {w:World} {b1 b2 n1 n2:Nat} {x v:Value} {xs vs:List Value} (h:w.ownsRow b1 3 1 x n1 xs) (k:w.ownsRow b2 42 1 v n2 vs):x.ownBlock=none∨x.ownBlock≠v.ownBlock:=by
 rcases h.2 with ⟨rfl,_⟩ | ⟨g,cap,cur,rfl,_,hg,_⟩
 ·exact Or.inl rfl
 refine Or.inr λe=>?_
 rcases k.2 with ⟨rfl,_⟩ | ⟨g',cap',cur',rfl,_,R8,_⟩
 ·cases e
 have:g=g':=Zl e;subst this;rw[hg] at R8;have h1:(3:TypeId)=42:=by injection R8 with h2;injection h2
 exact absurd h1 (by decide)
def LSr (B base:Nat) (w:World) (v:Value) (acc:List (List Int)):Prop :=
 ∃cells,w.ownsRow base 42 1 v acc.length cells/\∀(i:Nat) (r:List Int),acc[i]? = some r->∃x,cells[i]? = some x/\w.ownsRow B 3 1 x r.length (r.map (Value.int .i64))
theorem LSr.none (B base:Nat) (w:World):LSr B base w (.slice Option.none 0 0) []:=⟨[],ZH _ _ _ _,λi r h=>by simp at h⟩
theorem LSr.form {B base:Nat} {w:World} {v:Value} {acc:List (List Int)} (h:LSr B base w v acc):∃a c,v=.slice a acc.length c:=by
 obtain⟨cells,h1,_⟩:=h;exact ZJ h1
theorem LSr.below {B base:Nat} {w w':World} {v:Value} {acc:List (List Int)} (h:LSr B base w v acc) (hb:Bw w w'):LSr B base w' v acc:=by
 obtain⟨cells,h1,h2⟩:=h;refine⟨cells,YZ h1 hb,λi r hr=>?_⟩
 obtain⟨x,hx,ho⟩:=h2 i r hr;exact⟨x,hx,YZ ho hb⟩
theorem LSr.fr {X:Nat->Prop} {B base:Nat} {w w':World} {v:Value} {acc:List (List Int)} (h:LSr B base w v acc) (hf:Fr X w w') (hX:∀k,X k->k<base) (hXB:∀k,X k->k<B):LSr B base w' v acc:=by
 obtain⟨cells,h1,h2⟩:=h;refine⟨cells,TE h1 hf hX,λi r hr=>?_⟩
 obtain⟨x,hx,ho⟩:=h2 i r hr;exact⟨x,hx,TE ho hf hXB⟩
theorem LSr.first {B base:Nat} {w:World} {v xv:Value} {x:List Int} (h:w.ownsRow base 42 1 v (0+1) ([]++[xv])) (hx:w.ownsRow B 3 1 xv x.length (x.map (Value.int .i64))):LSr B base w v [x]:=by
 refine⟨[xv],h,λi r hr=>?_⟩
 match i,hr with
 | 0,hr=>cases hr;exact⟨xv,rfl,hx⟩
theorem LSr.push {B base:Nat} {w w':World} {v v' xv:Value} {x:List Int} {acc:List (List Int)} {cells:List Value} {o:Obj} (h:w.ownsRow base 42 1 v acc.length cells)
 (hc:∀(i:Nat) (r:List Int),acc[i]? = some r->∃x,cells[i]? = some x/\w.ownsRow B 3 1 x r.length (r.map (Value.int .i64))) (hx:w.ownsRow B 3 1 xv x.length (x.map (Value.int .i64)))
 (h':w'.ownsRow base 42 1 v' (acc.length+1) (cells++[xv])) (hg:(w.alloc o).grownBy w' v.ownBlock):LSr B base w' v' (acc++[x]):=by
 have Zr:cells.length=acc.length:=by have:=h.1;omega
 refine⟨cells++[xv],by rw[ZC];exact h',λi r hr=>?_⟩
 by_cases hi:i<acc.length
 ·rw[V8 hi] at hr
  obtain⟨y,hy,ho⟩:=hc i r hr;exact⟨y,by rw[V8 (by omega)];exact hy,(ho.alloc _).kept hg (sC ho h)⟩
 rw[V9 (by omega)] at hr
 have WJ:i - acc.length=0:=by
  have:=(ZN.1 hr).1;simp at this;omega
 rw[WJ] at hr;cases hr
 refine⟨xv,?_,(hx.alloc _).kept hg (sC hx h)⟩;rw[V9 (by omega),show i - cells.length=0 by omega];rfl
theorem zNA (N R M:Nat) (en:Int) (F:Nat) (item:List Tok->PR (List Int)) (I:World->Prop) (hE:Eats item) (B:Nat) (hII:Item B N R M en F item (λxs v w'=>w'.ownsRow B 3 1 v xs.length (xs.map (Value.int .i64))) I) (w:World) (Jv:B<=w.heap.size) (sB:R<B) (l:List Tok) (h:Rd N R M en w l) (WJ:I w) (hl:l.length<=4000) :
 Calls prog 283 #[.pointer (some ⟨R,0,none⟩),.func (.func F) #[.pointer (some ⟨R,0,none⟩)] #[]] w
  (Vy (Yf en item l) (λxs v w'=>LSr B w.heap.size w' v xs/\I w') N R M en (λk=>k=R) w):=by
 have HB:=hI h;have IQ:=hI WJ;have XQ:=hI hII
 have HE:=hI hE;have Ow:R<w.heap.size:=by obtain⟨_,_,hR,_⟩:=h;exact (Z8.1 hR).1
 have HX:Hid (∀k,(λk=>k=R) k->k<w.heap.size):=λk hk=>by subst hk;exact Ow
 have BP:Hid (∀k,(λk=>k=R) k->k<B):=λk hk=>by subst hk;exact sB
 obtain⟨i0,hi,Ze,Y_,Zb⟩:=info_parts j6;obtain⟨P,hP⟩:∃P,Yf en item l=P:=⟨_,rfl⟩;have HP:=hI hP;rw[hP];clear hP h WJ hII hE;go_enter func283,ntmps283
 go_wp2_with fail
 refine (TF N R M en ⟨#[91]⟩ Ge w l HB.o).mono ?_;intro e w1 hp;cases hs:Zv en ⟨#[91]⟩ l with
 | bad x er =>
   rw[hs] at hp;obtain⟨rfl,Z'⟩:=hp;have Y6:Hid (P=.bad x er):=by show _=_;rw[<-HP.o];unfold Yf;rw[hs];rfl
   clear hs;go_wp2
   exact⟨rfl,by rw[Y6.o];exact⟨rfl,Z'⟩⟩
 | ok t q =>
   rw[hs] at hp;obtain⟨v,rfl,rfl,ZV,Z'⟩:=hp;have Tl:=hI ZV;have VK:=hI Z'
   have J8:q.length+1=l.length:=Ox Ge hs;have BV:=hI J8;have Xt:Hid (P=if (ZL en q).text.toList==[93] then (Zv en ⟨#[93]⟩ q).bind λ_ l=>.ok [] l else (item q).bind λx l=>VV en item (l.length+1) [x] l):=by
    show _=_;rw[<-HP.o];unfold Yf;rw[hs];rfl
   have Ye:=PW (ZL en q);clear hs ZV Z' HP J8;go_wp2_with fail
   refine (Vz N R M en _ q Tl.o).mono ?_;rintro e w2 ⟨rfl,ZY⟩;have Zy:=hI (Tl.o.below ZY);have Zo:Hid (Fr (λk=>k=R) w w2):=VK.o.trans (Fr.below ZY)
   unfold tokA;clear ZY;cases hq:((ZL en q).text.toList==[93])
   ·have YB:Hid (P=(item q).bind λx l=>VV en item (l.length+1) [x] l):=by show _=_;rw[Xt.o,hq];rfl
    have Pe:Hid (I w2):=XQ.o.2.1 _ _ IQ.o (Zo.o.weak λk hk=>Or.inl hk)
    clear Xt;go_wp2_with fail
    rw[XQ.o.1,Oper.upon_enter];refine (XQ.o.2.2 w2 q Zy.o Pe.o).mono ?_;intro e w3 hp;cases Xq:item q with
    | bad x er =>
      rw[Xq] at hp;obtain⟨rfl,Z'⟩:=hp;have ZR:=Zo.o.trans Z';have Y6:Hid (P=.bad x er):=by show _=_;rw[YB.o,Xq];rfl
      clear Xq hq Z';go_wp2
      exact⟨rfl,by rw[Y6.o];exact⟨rfl,ZR⟩⟩
    | ok x r =>
      rw[Xq] at hp;obtain⟨v,rfl,Rr,ZV,Z'⟩:=hp;obtain⟨ax,cx,sA⟩:=ZJ Rr;subst sA;have YQ:=hI Rr;clear Rr;have Ys:=hI ZV;have Yw:=hI (Zo.o.trans Z')
      have Hp:Hid (I w3):=XQ.o.2.1 _ _ Pe.o (Z'.weak λk hk=>Or.inl hk)
      have I_:Hid (r.length<=q.length):=HE.o q x r Xq;have WG:Hid (P=VV en item (r.length+1) [x] r):=by show _=_;rw[YB.o,Xq];rfl
      have J7:w.heap.size<=w3.heap.size:=Yw.o.size;clear Xq ZV Z' hq Ye YB;go_wp2_with (at_builtin;refine wpList_append_own _ rfl _ _ 56 rfl w.heap.size 42 i0 (.slice none 0 0) 1 24 sD hi Ze Y_ Zb rfl (by decide) _ _ _ rfl (ZH _ _ _ _) ⟨w3.heap.size,0,none⟩ 1 1 [.slice ax x.length cx] rfl rfl ?c1 ?c2 ?c3 ?c4 ?c5 ?_)
      case c1=>exact sE w3 (.slice ax x.length cx)
      case c2=>intro u hu;rcases Zh.1 hu with rfl;rfl
      case c3=>unfold maxLen;omega
      case c4=>omega
      case c5=>simp;omega
      intro v5 w5 XK Uq _;have QT:Hid (Rd N R M en w5 r):=(Ys.o.below (Z4 _ _)).grown Uq (λk hk=>by cases hk)
      have QJ:Hid (Fr (λk=>k=R) w w5):=(Yw.o.alloc _).grown Uq (λk hk=>by cases hk)
      have BU:Hid (I w5):=XQ.o.2.1 _ _ Hp.o (((Fr.refl _ _).alloc _).grown Uq (λk hk=>by cases hk))
      have GJ:Hid (LSr B w.heap.size w5 v5 [x]):=LSr.first XK ((YQ.o.alloc _).kept Uq (sC YQ.o (ZH w3 w.heap.size 42 1)));clear XK Uq;go_wp2_with fail
      go_loopw [5] (λv wr=>∃(f:Nat) (acc:List (List Int)) (q:List Tok),Hid (P=VV en item f acc q)/\Hid (Rd N R M en wr q)/\Hid (I wr)/\Hid (LSr B w.heap.size wr v acc)/\Hid (Fr (λk=>k=R) w wr)/\q.length+1<=f/\acc.length+q.length<=4000) (λ_ wr=>Ss R wr)
      case atStart=>exact⟨_,[x],r,WG,QT,BU,GJ,QJ,by omega,by have:=I_.o;have:=BV.o;simp;omega⟩
      obtain⟨f,acc,q,NQ,UA,IP,ME,LL,hf,Zr⟩:=hrel;obtain⟨g,rfl⟩:∃g,f=g+1:=⟨f - 1,by omega⟩
      have Ye:=PW (ZL en q);obtain⟨av,cv,hv⟩:=ME.o.form;subst hv;have Pd:Hid ((⟨#[44]⟩:ByteArray).toList=[44]):=by show _=_;simp[go_sem]
      cases hc:((ZL en q).text.toList==[44])
      ·have VU:Hid (P=(Zv en ⟨#[93]⟩ q).bind λ_ l=>.ok acc l):=by show _=_;rw[NQ.o];unfold VV;rw[hc];rfl
       go_wp2_with fail
       refine (Vz N R M en _ q UA.o).mono ?_;rintro e w6 ⟨rfl,Yz⟩;have U4:=hI (UA.o.below Yz);have VA:Hid (Fr (λk=>k=R) w w6):=LL.o.trans (Fr.below Yz)
       have MD:Hid (I w6):=XQ.o.2.1 _ _ IP.o (Fr.below Yz);have Rh:=hI (ME.o.below Yz);unfold tokA;clear Yz;go_wp2_with fail
       refine (TF N R M en ⟨#[93]⟩ IR w6 q U4.o).mono ?_;intro e w7 hp;cases hs:Zv en ⟨#[93]⟩ q with
       | bad x er =>
         rw[hs] at hp;obtain⟨rfl,Z'⟩:=hp;have ZR:=VA.o.trans Z';have Y6:Hid (P=.bad x er):=by show _=_;rw[VU.o,hs];rfl
         clear hs hc Z';go_wp2
         exact⟨rfl,by rw[Y6.o];exact⟨rfl,ZR⟩⟩
       | ok t q2 =>
         rw[hs] at hp;obtain⟨v,rfl,rfl,ZV,Z'⟩:=hp;have ZR:=VA.o.trans Z';have SX:Hid (I w7):=XQ.o.2.1 _ _ MD.o (Z'.weak λk hk=>Or.inl hk)
         have MC:Hid (LSr B w.heap.size w7 (.slice av acc.length cv) acc):=Rh.o.fr Z' HX.o BP.o;have Y6:Hid (P=.ok acc q2):=by show _=_;rw[VU.o,hs];rfl
         clear hs hc Z';go_wp2
         go_ret
         rw[Y6.o];exact⟨_,rfl,⟨MC.o,SX.o⟩,ZV,ZR⟩
      have ZP:=BZ en q ⟨#[44]⟩ Gd (by rw[Pd.o];exact hc)
      have St:Hid (Zv en ⟨#[44]⟩ q=.ok (ZL en q) q.tail):=by show _=_;unfold Zv WU;rw[Pd.o,hc];rfl
      obtain⟨q2,YA⟩:∃q2,q.tail=q2:=⟨_,rfl⟩;have YW:=hI YA;have BT:q2.length+1=q.length:=by
       rw[<-YA];cases q with
       | nil=>exact absurd rfl ZP
       | cons a q=>simp
      have VU:Hid (P=(item q2).bind λx l=>VV en item g (acc++[x]) l):=by show _=_;rw[NQ.o,VV,hc,if_pos rfl,St.o,<-YA];rfl
      clear ZP YA;go_wp2_with fail
      refine (Vz N R M en _ q UA.o).mono ?_;rintro e w6 ⟨rfl,Yz⟩;have U4:=hI (UA.o.below Yz);have VA:Hid (Fr (λk=>k=R) w w6):=LL.o.trans (Fr.below Yz)
      have MD:Hid (I w6):=XQ.o.2.1 _ _ IP.o (Fr.below Yz);have Rh:=hI (ME.o.below Yz);unfold tokA;clear Yz;go_wp2_with fail
      refine (TF N R M en ⟨#[44]⟩ Gd w6 q U4.o).mono ?_;intro e w7 hp;rw[St.o] at hp;obtain⟨v,rfl,rfl,ZV,Z'⟩:=hp;have Lu:Hid (Rd N R M en w7 q2):=by rw[<-YW.o];exact ZV
      have Pc:=hI (VA.o.trans Z')
      have SX:Hid (I w7):=XQ.o.2.1 _ _ MD.o (Z'.weak λk hk=>Or.inl hk)
      have MC:Hid (LSr B w.heap.size w7 (.slice av acc.length cv) acc):=Rh.o.fr Z' HX.o BP.o;clear ZV Z' hc Ye;go_wp2_with fail
      rw[XQ.o.1,Oper.upon_enter];refine (XQ.o.2.2 w7 q2 Lu.o SX.o).mono ?_;intro e w8 hp;cases Xq:item q2 with
      | bad x er =>
        rw[Xq] at hp;obtain⟨rfl,Z'⟩:=hp;have ZR:=Pc.o.trans Z';have Y6:Hid (P=.bad x er):=by show _=_;rw[VU.o,Xq];rfl
        clear Xq Z';go_wp2
        exact⟨rfl,by rw[Y6.o];exact⟨rfl,ZR⟩⟩
      | ok x r =>
        rw[Xq] at hp;obtain⟨v,rfl,Rr,ZV,Z'⟩:=hp;obtain⟨ax,cx,sA⟩:=ZJ Rr;subst sA;have YQ:=hI Rr;clear Rr;have Gb:=hI ZV;have TD:=hI (Pc.o.trans Z')
        have BS:Hid (I w8):=XQ.o.2.1 _ _ SX.o (Z'.weak λk hk=>Or.inl hk)
        have Ga:Hid (LSr B w.heap.size w8 (.slice av acc.length cv) acc):=MC.o.fr Z' HX.o BP.o;have uj:r.length<=q2.length:=HE.o q2 x r Xq;have Rl:Hid (P=VV en item g (acc++[x]) r):=by show _=_;rw[VU.o,Xq];rfl
        have BR:w.heap.size<=w8.heap.size:=TD.o.size;obtain⟨cells,LR,j5⟩:=Ga.o;have Jy:=hI j5;have Hq:=hI LR;have Xc:=LR.alloc (.cells #[.slice ax x.length cx] 42);clear j5 LR;clear Xq ZV Z';go_wp2_with (at_builtin;refine wpList_append_own _ rfl _ _ 56 rfl w.heap.size 42 i0 (.slice none 0 0) 1 24 sD hi Ze Y_ Zb rfl (by decide) _ _ _ rfl Xc ⟨w8.heap.size,0,none⟩ 1 1 [.slice ax x.length cx] rfl rfl ?c1 ?c2 ?c3 ?c4 ?c5 ?_)
        case c1=>exact sE w8 (.slice ax x.length cx)
        case c2=>intro u hu;rcases Zh.1 hu with rfl;rfl
        case c3=>unfold maxLen;omega
        case c4=>omega
        case c5=>simp;omega
        intro v9 w9 Zp Xg _;have ZS:∀k,(Value.slice av acc.length cv).ownBlock=some k->w.heap.size<=k:=λk hk=>(Hq.o.lt k hk).1
        have NP:Hid (Rd N R M en w9 r):=(Gb.o.below (Z4 _ _)).grown Xg (λk hk=>⟨by have:=ZS k hk;omega,by have:=ZS k hk;have:=HB.o.1.2.1;omega⟩)
        have Sr:Hid (Fr (λk=>k=R) w w9):=(TD.o.alloc _).grown Xg (λk hk=>Or.inr (ZS k hk))
        have BQ:Hid (I w9):=XQ.o.2.1 _ _ BS.o (((Fr.refl _ _).alloc _).grown Xg (λk hk=>Or.inl (Or.inr (by have:=ZS k hk;omega))))
        have Q6:Hid (LSr B w.heap.size w9 v9 (acc++[x])):=LSr.push Hq.o Jy.o YQ.o Zp Xg;have MB:Hid (Ss R w9<Ss R wr):=by show _<_;rw[Lv NP.o,Lv UA.o];omega
        clear Zp Xg ZS Xc;go_wp2
        go_roundw
        case rel=>exact⟨g,acc++[x],r,Rl,NP,BQ,Q6,Sr,by omega,by simp;omega⟩
        case measure=>exact MB.o
   have YB:Hid (P=(Zv en ⟨#[93]⟩ q).bind λ_ l=>.ok [] l):=by show _=_;rw[Xt.o,hq];rfl
   have Pe:Hid (I w2):=XQ.o.2.1 _ _ IQ.o (Zo.o.weak λk hk=>Or.inl hk)
   clear Xt;go_wp2_with fail
   refine (TF N R M en ⟨#[93]⟩ IR w2 q Zy.o).mono ?_;intro e w7 hp;cases hs:Zv en ⟨#[93]⟩ q with
   | bad x er =>
     rw[hs] at hp;obtain⟨rfl,Z'⟩:=hp;have ZR:=Zo.o.trans Z';have Y6:Hid (P=.bad x er):=by show _=_;rw[YB.o,hs];rfl
     clear hs hq Z';go_wp2
     exact⟨rfl,by rw[Y6.o];exact⟨rfl,ZR⟩⟩
   | ok t q2 =>
     rw[hs] at hp;obtain⟨v,rfl,rfl,ZV,Z'⟩:=hp;have ZR:=Zo.o.trans Z';have SX:Hid (I w7):=XQ.o.2.1 _ _ Pe.o (Z'.weak λk hk=>Or.inl hk)
     have Y6:Hid (P=.ok [] q2):=by show _=_;rw[YB.o,hs];rfl
     clear hs hq Z';go_wp2
     go_ret
     rw[Y6.o];exact⟨_,rfl,⟨LSr.none _ _ _,SX.o⟩,ZV,ZR⟩
theorem Vy.mono {α:Type} {p:PR α} {G G':α->Value->World->Prop} {N R M:Nat} {en:Int} {X:Nat->Prop} {w w':World} {e:Ending} (hG:∀a v w',G a v w'->G' a v w') (h:Vy p G N R M en X w e w'):Vy p G' N R M en X w e w':=by
 unfold Vy at *;cases p with
 | ok a r=>obtain⟨v,h1,h2,h3,h4⟩:=h;exact⟨v,h1,hG _ _ _ h2,h3,h4⟩
 | bad x er=>exact h
theorem sy (w:World) (l:List ByteArray) (hl:l.length<=100):SArg (w.alloc (.cells (l.map Value.string).toArray 9)) (.slice (some ⟨w.heap.size,0,none⟩) l.length l.length) l:=by
 refine⟨_,_,rfl,⟨Z2 _,by unfold maxLen;omega⟩,λi z hz=>⟨_,0,rfl,by simp,?_⟩⟩
 rw[Zu _ _ _ _ rfl];simp[hz]
theorem zSu (w:World):Calls prog 276 #[] w λe w'=>∃v,e=.returned v/\SArg w' v opWL/\Bw w w':=by
 go_enter func276,ntmps276
 go_wp2
 go_ret
 exact⟨_,rfl,sy w opWL (by decide),Z4 _ _⟩
theorem zOf (w:World):Calls prog 190 #[] w λe w'=>∃v,e=.returned v/\SArg w' v SY/\Bw w w':=by
 go_enter func190,ntmps190
 go_wp2
 go_ret
 exact⟨_,rfl,sy w SY (by decide),Z4 _ _⟩
theorem zQy (w:World):Calls prog 251 #[] w λe w'=>∃v,e=.returned v/\SArg w' v WF/\Bw w w':=by
 go_enter func251,ntmps251
 go_wp2
 go_ret
 exact⟨_,rfl,sy w WF (by decide),Z4 _ _⟩
theorem Ux {w:World} {base base':Nat} {e:TypeId} {size:Nat} {v:Value} {n:Nat} {xs:List Value} (h:w.ownsRow base e size v n xs) (hb:base'<=base):w.ownsRow base' e size v n xs:=by
 refine⟨h.1,?_⟩;rcases h.2 with hn | ⟨g,cap,cur,hv,hg,r⟩
 ·exact .inl hn
 exact .inr ⟨g,cap,cur,hv,ZT hb hg,r⟩
theorem zLk (args:Array Value) (w':World):Sem.run prog (callFunc 261 args) w'=.ok (.enter 261 args) w':=by
 simp[callFunc,go_sem,func261,Tryz.f261]
theorem zNB (args:Array Value) (w':World):Sem.run prog (callFunc 265 args) w'=.ok (.enter 265 args) w':=by
 simp[callFunc,go_sem,func265,Tryz.f265]
theorem zKF (args:Array Value) (w':World):Sem.run prog (callFunc 263 args) w'=.ok (.enter 263 args) w':=by
 simp[callFunc,go_sem,func263,Tryz.f263]
theorem zOg (args:Array Value) (w':World):Sem.run prog (callFunc 268 args) w'=.ok (.enter 268 args) w':=by
 simp[callFunc,go_sem,func268,Tryz.f268]
theorem zOh (B N R M:Nat) (en:Int):Item B N R M en 261 (Yi en) (λi v _=>v=.int .i64 i) (λ_=>True) :=
 ⟨zLk,λ_ _ _ _=>trivial,λw l h _=>(BX N R M en w l h).mono λ_ _ hp=>hp.mono λ_ _ _ h=>h.1⟩
theorem jZ (B R M:Nat) (names:List ByteArray) (hM:M<B) (TQ:M≠R) (w w':World) (h:NmS w M names) (hf:Fr (λk=>k=R∨B<=k) w w'):NmS w' M names :=
 h.old (hf.block M h.lt (λhx=>hx.elim TQ (λh=>by omega)))
theorem zSv (B N R M:Nat) (en:Int) (names:List ByteArray) (hM:M<B) (TQ:M≠R) (ZP:∀n∈names,n.data.toList≠[]):Item B N R M en 265 (X7 en names) (λi v _=>v=.int .i64 i) (λw=>NmS w M names) :=
 ⟨zNB,jZ B R M names hM TQ,λw l h hn=>Lw N R M en names w l h hn ZP⟩
theorem sx (N R M:Nat) (en:Int) (w:World) (l:List Tok) (h:Rd N R M en w l) :
 Calls prog 263 #[.pointer (some ⟨R,0,none⟩)] w (Vy (Yf en (Yi en) l) (λxs v w'=>w'.ownsRow w.heap.size 3 1 v xs.length (xs.map (Value.int .i64))) N R M en (λk=>k=R) w):=by
 have HB:=hI h;obtain⟨P,hP⟩:∃P,Yf en (Yi en) l=P:=⟨_,rfl⟩;have HP:=hI hP;rw[hP];clear h hP;go_enter func263,ntmps263
 go_wp2_with fail
 refine (j8 N R M en 261 (Yi en) (λ_=>True) (NR en) w.heap.size (zOh _ _ _ _ _) w (Z2 _) l HB.o trivial HB.o.len).mono ?_
 intro e w1 hp;rw[HP.o] at hp;cases P with
 | bad x er =>
   obtain⟨rfl,Z'⟩:=hp;go_wp2
   exact⟨rfl,rfl,Z'⟩
 | ok xs r =>
   obtain⟨v,rfl,⟨ho,_⟩,ZV,Z'⟩:=hp;have HO:=hI ho;obtain⟨av,cv,hv⟩:=ZJ ho;subst hv;clear ho;go_wp2
   go_ret
   exact⟨_,rfl,HO.o,ZV,Z'⟩
theorem zNC (B N R M:Nat) (en:Int):Item B N R M en 263 (Yf en (Yi en)) (λxs v w'=>w'.ownsRow B 3 1 v xs.length (xs.map (Value.int .i64))) (λw=>B<=w.heap.size) :=
 ⟨zKF,λ_ _ h hf=>ZT h hf.size,λw l h hB=>(sx N R M en w l h).mono λ_ _ hp=>hp.mono λ_ _ _ h=>Ux h hB⟩
theorem yF (N R M:Nat) (en:Int) (names:List ByteArray) (w:World) (l:List Tok) (h:Rd N R M en w l) (hn:NmS w M names) (ZP:∀n∈names,n.data.toList≠[]) :
 Calls prog 264 #[.pointer (some ⟨R,0,none⟩)] w (Vy (Yf en (X7 en names) l) (λxs v w'=>w'.ownsRow w.heap.size 3 1 v xs.length (xs.map (Value.int .i64))/\NmS w' M names) N R M en (λk=>k=R) w):=by
 have HB:=hI h;have HN:=hI hn;have Vx:=hI ZP;have TQ:M≠R:=h.1.2.2;obtain⟨P,hP⟩:∃P,Yf en (X7 en names) l=P:=⟨_,rfl⟩;have HP:=hI hP;rw[hP];clear h hP hn ZP;go_enter func264,ntmps264
 go_wp2_with fail
 refine (j8 N R M en 265 (X7 en names) (λw=>NmS w M names) (Gj en names) w.heap.size (zSv _ _ _ _ _ names HN.o.lt TQ Vx.o) w (Z2 _) l HB.o HN.o HB.o.len).mono ?_
 intro e w1 hp;rw[HP.o] at hp;cases P with
 | bad x er =>
   obtain⟨rfl,Z'⟩:=hp;go_wp2
   exact⟨rfl,rfl,Z'⟩
 | ok xs r =>
   obtain⟨v,rfl,⟨ho,XH⟩,ZV,Z'⟩:=hp;have HO:Hid (w1.ownsRow w.heap.size 3 1 v xs.length (xs.map (Value.int .i64))/\NmS w1 M names):=⟨ho,XH⟩;obtain⟨av,cv,hv⟩:=ZJ ho;subst hv;clear ho XH;go_wp2
   go_ret
   exact⟨_,rfl,HO.o,ZV,Z'⟩
theorem zUo (B N R M:Nat) (en:Int) (w:World) (l:List Tok) (h:Rd N R M en w l) (hB:B<=w.heap.size) (sB:R<B) :
 Calls prog 266 #[.pointer (some ⟨R,0,none⟩)] w (Vy (Yf en (Yf en (Yi en)) l) (λxs v w'=>LSr B w.heap.size w' v xs) N R M en (λk=>k=R) w):=by
 have HB:=hI h;obtain⟨P,hP⟩:∃P,Yf en (Yf en (Yi en)) l=P:=⟨_,rfl⟩;have HP:=hI hP;rw[hP];clear h hP;go_enter func266,ntmps266
 go_wp2_with fail
 refine (zNA N R M en 263 (Yf en (Yi en)) (λw=>B<=w.heap.size) (Lx en _ (NR en)) B (zNC B _ _ _ _) w hB sB l HB.o hB HB.o.len).mono ?_
 intro e w1 hp;rw[HP.o] at hp;cases P with
 | bad x er =>
   obtain⟨rfl,Z'⟩:=hp;go_wp2
   exact⟨rfl,rfl,Z'⟩
 | ok xs r =>
   obtain⟨v,rfl,⟨ho,_⟩,ZV,Z'⟩:=hp;have HO:=hI ho;obtain⟨av,cv,hv⟩:=ho.form;subst hv;clear ho;go_wp2
   go_ret
   exact⟨_,rfl,HO.o,ZV,Z'⟩
theorem jY (N R M:Nat) (en:Int) (names:List ByteArray) (w:World) (l:List Tok) (h:Rd N R M en w l) (hn:NmS w M names) (ZP:∀n∈names,n.data.toList≠[]) :
 Calls prog 268 #[.pointer (some ⟨R,0,none⟩)] w (Vy (litP en names l) (λi v _=>v=litA i) N R M en (λk=>k=R) w):=by
 have HB:=hI h;have HN:=hI hn;have Vx:=hI ZP;have Ow:R<w.heap.size:=by obtain⟨_,_,hR,_⟩:=h;exact (Z8.1 hR).1
 obtain⟨P,hP⟩:∃P,litP en names l=P:=⟨_,rfl⟩;have HP:Hid (P=(X7 en names l).bind λv l=>(VJ en opWL l).bind λop l=>(Yi en l).bind λn l=>.ok ⟨v,op,n⟩ l):=by show _=_;rw[<-hP];rfl
 rw[hP];clear h hP hn ZP;go_enter func268,ntmps268
 go_wp2_with fail
 have Qc:=HB.o.below (Z4 w (.cells #[.int .i64 0,.int .i64 0,.int .i64 0] 76));have XL:=HN.o.old ((Z4 w (.cells #[.int .i64 0,.int .i64 0,.int .i64 0] 76)).block M HN.o.lt);have Pb:Fr (λk=>k=R) w (w.alloc (.cells #[.int .i64 0,.int .i64 0,.int .i64 0] 76)):=Fr.below (Z4 _ _)
 have S0:(w.alloc (.cells #[.int .i64 0,.int .i64 0,.int .i64 0] 76)).heap[w.heap.size]? = some (.cells #[.int .i64 0,.int .i64 0,.int .i64 0] 76):=by show (w.heap.push _)[w.heap.size]? = _;simp
 refine (Lw N R M en names _ l Qc XL Vx.o).mono ?_;intro e w1 hp;cases h1:X7 en names l with
 | bad x er =>
   rw[h1] at hp;obtain⟨rfl,Z'⟩:=hp;have ZR:=Pb.trans Z';have Y6:Hid (P=.bad x er):=by show _=_;rw[HP.o,h1];rfl
   clear h1 Z' Qc XL Pb S0;go_wp2
   exact⟨rfl,by rw[Y6.o];exact⟨rfl,ZR⟩⟩
 | ok a q =>
   rw[h1] at hp;obtain⟨v,rfl,rfl,ZV,Z'⟩:=hp;have Yl:=hI ZV;have Xh:Hid (Fr (λk=>k=R) w w1):=Pb.trans Z'
   have Xw:Hid (w1.heap[w.heap.size]? = some (.cells #[.int .i64 0,.int .i64 0,.int .i64 0] 76)):=(Z'.block _ (by simp) (by omega)).trans S0
   have Xt:Hid (P=(VJ en opWL q).bind λop l=>(Yi en l).bind λn l=>.ok ⟨a,op,n⟩ l):=by show _=_;rw[HP.o,h1];rfl
   clear h1 ZV Z' Qc XL Pb S0 HP;go_wp2_with fail
   refine (zSu w1).mono ?_;rintro e w2 ⟨sv,rfl,R',ZY⟩;have WW:=hI R';obtain⟨as_,cs_,rfl,_,_⟩:=R';have Zy:=hI (Yl.o.below ZY);have Zo:Hid (Fr (λk=>k=R) w w2):=Xh.o.trans (Fr.below ZY)
   have YW:Hid (w2.heap[w.heap.size]? = some (.cells #[.int .i64 0,.int .i64 0,.int .i64 0] 76)):=(ZY.block _ (Z8.1 Xw.o).1).trans Xw.o;clear ZY;go_wp2_with fail
   refine (sI N R M en opWL _ w2 q Zy.o WW.o).mono ?_;intro e w3 hp;cases h2:VJ en opWL q with
   | bad x er =>
     rw[h2] at hp;obtain⟨rfl,Z'⟩:=hp;have ZR:=Zo.o.trans Z';have Y6:Hid (P=.bad x er):=by show _=_;rw[Xt.o,h2];rfl
     clear h2 Z';go_wp2
     exact⟨rfl,by rw[Y6.o];exact⟨rfl,ZR⟩⟩
   | ok op q2 =>
     rw[h2] at hp;obtain⟨v,rfl,rfl,ZV,Z'⟩:=hp;have Ys:=hI ZV;have Yw:=hI (Zo.o.trans Z')
     have Yk:Hid (w3.heap[w.heap.size]? = some (.cells #[.int .i64 0,.int .i64 0,.int .i64 0] 76)):=(Z'.block _ (Z8.1 YW.o).1 (by omega)).trans YW.o
     have YB:Hid (P=(Yi en q2).bind λn l=>.ok ⟨a,op,n⟩ l):=by show _=_;rw[Xt.o,h2];rfl
     clear h2 ZV Z' Xt;go_wp2_with fail
     refine (BX N R M en w3 q2 Ys.o).mono ?_;intro e w4 hp;cases h3:Yi en q2 with
     | bad x er =>
       rw[h3] at hp;obtain⟨rfl,Z'⟩:=hp;have ZR:=Yw.o.trans Z';have Y6:Hid (P=.bad x er):=by show _=_;rw[YB.o,h3];rfl
       clear h3 Z';go_wp2
       exact⟨rfl,by rw[Y6.o];exact⟨rfl,ZR⟩⟩
     | ok n q3 =>
       rw[h3] at hp;obtain⟨v,rfl,⟨rfl,_,_⟩,ZV,Z'⟩:=hp;have Wq:=hI ZV;have UX:=hI (Yw.o.trans Z')
       have Vc:w4.heap[w.heap.size]? = some (.cells #[.int .i64 0,.int .i64 0,.int .i64 0] 76):=(Z'.block _ (Z8.1 Yk.o).1 (by omega)).trans Yk.o
       have WG:Hid (P=.ok ⟨a,op,n⟩ q3):=by show _=_;rw[YB.o,h3];rfl
       have r0:=Z_ Vc 0 _ rfl;have r1:=Z_ Vc 1 _ rfl;have r2:=Z_ Vc 2 _ rfl;have z0:=Z0 Vc 0;have z1:=Z0 Vc 1;have z2:=Z0 Vc 2;have KD:N<=w.heap.size:=HB.o.1.2.1;have hne2:w.heap.size≠R:=by omega
       clear h3 ZV Z' YB Vc;go_wp2
       refine bodyPost_ret (by simp[results,results268,go_sem, *];try rfl) rfl ?_
       rw[WG.o];refine⟨_,rfl,rfl,?_,?_⟩
       ·exact ((Wq.o.set (p:=⟨w.heap.size,0,none⟩) hne2 KD _).set (p:=⟨w.heap.size,1,none⟩) hne2 KD _).set (p:=⟨w.heap.size,2,none⟩) hne2 KD _
       exact ((UX.o.setNew (p:=⟨w.heap.size,0,none⟩) (Z2 _) _).setNew (p:=⟨w.heap.size,1,none⟩) (Z2 _) _).setNew (p:=⟨w.heap.size,2,none⟩) (Z2 _) _
theorem zUp (B N R M:Nat) (en:Int) (names:List ByteArray) (hM:M<B) (TQ:M≠R) (ZP:∀n∈names,n.data.toList≠[]):Item B N R M en 268 (litP en names) (λi v _=>v=litA i) (λw=>NmS w M names) :=
 ⟨zOg,jZ B R M names hM TQ,λw l h hn=>jY N R M en names w l h hn ZP⟩
theorem zSw (N R M:Nat) (en:Int) (names:List ByteArray) (w:World) (l:List Tok) (h:Rd N R M en w l) (hn:NmS w M names) (ZP:∀n∈names,n.data.toList≠[]) :
 Calls prog 267 #[.pointer (some ⟨R,0,none⟩)] w (Vy (Yf en (litP en names) l) (λxs v w'=>w'.ownsRow w.heap.size 76 3 v xs.length (xs.flatMap litC)) N R M en (λk=>k=R) w):=by
 have HB:=hI h;have HN:=hI hn;have Vx:=hI ZP;have TQ:M≠R:=h.1.2.2;obtain⟨P,hP⟩:∃P,Yf en (litP en names) l=P:=⟨_,rfl⟩;have HP:=hI hP;rw[hP];clear h hP hn ZP;go_enter func267,ntmps267
 go_wp2_with fail
 refine (zM9 N R M en 268 (litP en names) (λw=>NmS w M names) (B0 en names) w.heap.size (zUp _ _ _ _ _ names HN.o.lt TQ Vx.o) w (Z2 _) l HB.o HN.o HB.o.len).mono ?_
 intro e w1 hp;rw[HP.o] at hp;cases P with
 | bad x er =>
   obtain⟨rfl,Z'⟩:=hp;go_wp2
   exact⟨rfl,rfl,Z'⟩
 | ok xs r =>
   obtain⟨v,rfl,⟨ho,_⟩,ZV,Z'⟩:=hp;have HO:=hI ho;obtain⟨av,cv,hv⟩:=ZJ ho;subst hv;clear ho;go_wp2
   go_ret
   exact⟨_,rfl,HO.o,ZV,Z'⟩
structure RP where
 k:Nat
 er:Int
def txR (en:Int) (T:List Tok) (p:RP):ByteArray:=if p.er=0 then (ZL en (T.drop p.k)).text else ByteArray.empty
def XY (e:Int) (p:RP):RP:=if p.er=0 then ⟨p.k,e⟩ else p
def U7 (p:RP):RP:=⟨p.k+1,p.er⟩
def Y5 (en:Int) (T:List Tok) (s:ByteArray) (p:RP):RP:=if p.er=0 then (if ((txR en T p).toList==s.toList)=true then U7 p else XY 1 p) else p
def YP (en:Int) (T:List Tok) (p:RP):List ByteArray->Nat->Int×RP
 | [],_=>(0,XY 1 p)
 | s :: r,i=>if p.er=0/\((txR en T p).toList==s.toList)=true then ((i:Int),U7 p) else YP en T p r (i+1)
def vAtR (s:ByteArray) (p:RP):List ByteArray->Nat->Int×RP
 | [],_=>(0,XY 5 p)
 | n :: r,i=>if (n.toList==s.toList)=true then ((i:Int),U7 p) else vAtR s p r (i+1)
def vR (en:Int) (T:List Tok) (nm:List ByteArray) (p:RP):Int×RP:=if WZ (txR en T p) then vAtR (txR en T p) p nm 0 else (0,XY 1 p)
def dig0 (s:ByteArray):Bool:=match s.data.toList with | []=>false | c :: _=>isD c
def Lt (neg:Bool) (s:ByteArray):Bool:=!dig0 s || (neg&&(s.toList==[48]))
def Ov (en:Int) (T:List Tok) (neg:Bool) (p:RP):Int×RP :=
 if Lt neg (txR en T p)=true then (0,XY 1 p) else ((if neg then -1 else 1) * digV (txR en T p).data.toList,U7 p)
def kR (en:Int) (T:List Tok) (p:RP):Int×RP :=
 if ((txR en T p).toList==[45])=true then Ov en T true (Y5 en T ⟨#[45]⟩ p) else Ov en T false p
def PV (en:Int) (T:List Tok) (p:RP):Bool×RP :=
 if ((txR en T (Y5 en T ⟨#[91]⟩ p)).toList==[93])=true then (false,Y5 en T ⟨#[93]⟩ (Y5 en T ⟨#[91]⟩ p)) else (decide ((Y5 en T ⟨#[91]⟩ p).er=0),Y5 en T ⟨#[91]⟩ p)
def VT (en:Int) (T:List Tok) (p:RP):Bool×RP :=
 if ((txR en T p).toList==[44])=true then (true,Y5 en T ⟨#[44]⟩ p) else (false,Y5 en T ⟨#[93]⟩ p)
def Vw {α:Type} (en:Int) (T:List Tok) (item:RP->α×RP):Nat->List α->Bool×RP->List α×RP
 | 0,acc,q=>(acc,q.2)
 | f+1,acc,q=>if q.1=true then Vw en T item f (acc++[(item q.2).1]) (VT en T (item q.2).2) else (acc,q.2)
def Zc {α:Type} (en:Int) (T:List Tok) (item:RP->α×RP) (p:RP):List α×RP:=Vw en T item (T.length+2) [] (PV en T p)
def litR (en:Int) (T:List Tok) (nm:List ByteArray) (p:RP):MLit×RP :=
 (⟨(vR en T nm p).1,1+(YP en T (vR en T nm p).2 opWL.tail 0).1,(kR en T (YP en T (vR en T nm p).2 opWL.tail 0).2).1⟩,(kR en T (YP en T (vR en T nm p).2 opWL.tail 0).2).2)
def zKG {α:Type} (f:RP->α×RP):Prop:=∀p,p.er≠0->(f p).2=p
theorem J6 (e:Int) (p:RP) (h:p.er≠0):XY e p=p:=by unfold XY;rw[if_neg h]
theorem MA (en:Int) (T:List Tok) (s:ByteArray) (p:RP) (h:p.er≠0):Y5 en T s p=p:=by unfold Y5;rw[if_neg h]
theorem Mz (en:Int) (T:List Tok) (p:RP) (h:p.er≠0):txR en T p=ByteArray.empty:=by unfold txR;rw[if_neg h]
theorem Eg (en:Int) (T:List Tok) (p:RP) (h:p.er≠0):∀(ws:List ByteArray) (i:Nat),(YP en T p ws i).2=p
 | [],i=>by unfold YP;exact J6 1 p h
 | s :: r,i=>by unfold YP;rw[if_neg (λhq=>h hq.1)];exact Eg en T p h r (i+1)
theorem F_:WZ ByteArray.empty=false:=by decide +kernel
theorem zWH (en:Int) (T:List Tok) (nm:List ByteArray):zKG (vR en T nm):=λp h=>by
 unfold vR;rw[Mz en T p h,F_];exact J6 1 p h
theorem jX (en:Int) (T:List Tok) (neg:Bool):zKG (Ov en T neg):=λp h=>by
 unfold Ov;rw[Mz en T p h,if_pos (by unfold Lt;rfl)]
 exact J6 1 p h
theorem sw (en:Int) (T:List Tok):zKG (kR en T):=λp h=>by
 unfold kR;rw[Mz en T p h,if_neg (by decide +kernel)]
 exact jX en T false p h
theorem zOj (en:Int) (T:List Tok) (p:RP) (h:p.er≠0):PV en T p=(false,p):=by
 unfold PV;rw[MA en T _ p h,Mz en T p h,if_neg (by decide +kernel)]
 simp[h]
theorem jW (en:Int) (T:List Tok) (p:RP) (h:p.er≠0):VT en T p=(false,p):=by
 unfold VT;rw[Mz en T p h,if_neg (by decide +kernel),MA en T _ p h]
theorem zQz {α:Type} (en:Int) (T:List Tok) (item:RP->α×RP):zKG (Zc en T item):=λp h=>by
 unfold Zc;rw[zOj en T p h];unfold Vw;rfl
end Go.Proofs.YtndcpnlaadikoaaGreatDoor
