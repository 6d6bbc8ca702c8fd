/- What the proof leans on, part 27. -/
import Derived.Test.YtndcpnlaadikoaaGreatDoorPartAz
set_option maxRecDepth 100000
set_option maxHeartbeats 3200000
open Go.Proofs.Tryz
namespace Go.Proofs.YtndcpnlaadikoaaGreatDoor
open Go.RowKit
theorem TE {X:Nat->Prop} {w w':World} {base:Nat} {e:TypeId} {size n:Nat} {v:Value} {xs:List Value} (h:w.ownsRow base e size v n xs) (hf:Fr X w w') (hX:∀k,X k->k<base):w'.ownsRow base e size v n xs:=by
 refine⟨h.1,?_⟩;rcases h.2 with hn | ⟨g,cap,cur,hv,hg,hh,r⟩
 ·exact .inl hn
 exact .inr ⟨g,cap,cur,hv,hg,by rw[hf.block g (Z8.1 hh).1 (λhx=>by have:=hX g hx;omega)];exact hh,r⟩
theorem Rd.grown {N R M:Nat} {en:Int} {w w':World} {l:List Tok} {row:Option Nat} (h:Rd N R M en w l) (hg:w.grownBy w' row) (hr:∀k,row=some k->k≠R/\N<=k):Rd N R M en w' l:=by
 obtain⟨⟨h1,h2,h3⟩,v,hR,ht⟩:=h;have Gh:R<w.heap.size:=(Z8.1 hR).1;refine⟨⟨h1,ZT h2 hg.size,h3⟩,v,(hg.block R Gh (λe=>(hr R e.symm).1 rfl)).trans hR,ht.old λq hq=>WD (hg.block _ (by omega) (λe=>by have:=(hr _ e.symm).2;omega))⟩
theorem Ge:We ⟨#[91]⟩:=by unfold We;simp[go_sem]
theorem IR:We ⟨#[93]⟩:=by unfold We;simp[go_sem]
theorem Gd:We ⟨#[44]⟩:=by unfold We;simp[go_sem]
def Ss (R:Nat) (w:World):Nat:=match w.cell? ⟨R,0,none⟩ with
 | some (.slice _ n _)=>n
 | _=>0
theorem Lv {N R M:Nat} {en:Int} {w:World} {l:List Tok} (h:Rd N R M en w l):Ss R w=l.length:=by
 obtain⟨_,v,hR,a,c,rfl,_⟩:=h;unfold Ss;rw[Lib.cell_of_heap hR];rfl
def Item {α:Type} (B N R M:Nat) (en:Int) (F:Nat) (item:List Tok->PR α) (G:α->Value->World->Prop) (I:World->Prop):Prop :=
 (∀(args:Array Value) (w':World),Sem.run prog (callFunc F args) w'=.ok (.enter F args) w')/\(∀w w',I w->Fr (λk=>k=R∨B<=k) w w'->I w') /\
 ∀(w:World) (l:List Tok),Rd N R M en w l->I w->Calls prog F #[.pointer (some ⟨R,0,none⟩)] w (Vy (item l) G N R M en (λk=>k=R) w)
theorem Eh:(prog.info? 3).map (λi=>(i.zero,i.size,i.bytes))=some (some (.int .i64 0),1,8):=by kernel_rfl
theorem Gc:prog.underlying 42=some (.slice 3):=by kernel_rfl
theorem Ox {en:Int} {s:ByteArray} (hs:We s) {l r:List Tok} {t:Tok} (h:Zv en s l=.ok t r):r.length+1=l.length:=by
 have h1:=IW en l _ t r h;unfold Zv WU at h
 split at h
 ·rename_i hb
  have:=BZ en l s hs hb;rw[h1];cases l with
  | nil=>exact absurd rfl this
  | cons a l=>simp
 cases h
theorem yJ (w:World) (z:Int):∀(j:Nat) (u:Value),[Value.int .i64 z][j]? = some u->(w.alloc (.cells #[.int .i64 z] 3)).cell? ((⟨w.heap.size,0,none⟩:Addr).add j)=some u:=by
 intro j u hj
 match j,hj with
 | 0,hj=>simp at hj;subst hj;simp[Addr.add]
theorem j8 (N R M:Nat) (en:Int) (F:Nat) (item:List Tok->PR Int) (I:World->Prop) (hE:Eats item) (B:Nat) (hII:Item B N R M en F item (λi v _=>v=.int .i64 i) I) (w:World) (Jv:B<=w.heap.size) (l:List Tok) (h:Rd N R M en w l) (WJ:I w) (hl:l.length<=4000) :
 Calls prog 282 #[.pointer (some ⟨R,0,none⟩),.func (.func F) #[.pointer (some ⟨R,0,none⟩)] #[]] w
  (Vy (Yf en item l) (λxs v w'=>w'.ownsRow w.heap.size 3 1 v xs.length (xs.map (Value.int .i64))/\I w') N R M en (λk=>k=R) w):=by
 have HB:=hI h;have IQ:=hI WJ;have XQ:=hI hII
 have HE:=hI hE;have Ow:R<w.heap.size:=by obtain⟨_,_,hR,_⟩:=h;exact (Z8.1 hR).1
 have HX:Hid (∀k,(λk=>k=R) k->k<w.heap.size):=λk hk=>by subst hk;exact Ow
 obtain⟨i0,hi,Ze,Y_,Zb⟩:=info_parts Eh;obtain⟨P,hP⟩:∃P,Yf en item l=P:=⟨_,rfl⟩;have HP:=hI hP;rw[hP];clear hP h WJ hII hE;go_enter func282,ntmps282
 go_wp2_with fail
 refine (TF N R M en ⟨#[91]⟩ Ge w l HB.o).mono ?_;intro e w1 hp;cases hs:Zv en ⟨#[91]⟩ l with
 | bad x er =>
   rw[hs] at hp;obtain⟨rfl,Z'⟩:=hp;have Y6:Hid (P=.bad x er):=by show _=_;rw[<-HP.o];unfold Yf;rw[hs];rfl
   clear hs;go_wp2
   exact⟨rfl,by rw[Y6.o];exact⟨rfl,Z'⟩⟩
 | ok t q =>
   rw[hs] at hp;obtain⟨v,rfl,rfl,ZV,Z'⟩:=hp;have Tl:=hI ZV;have VK:=hI Z'
   have J8:q.length+1=l.length:=Ox Ge hs;have BV:=hI J8;have Xt:Hid (P=if (ZL en q).text.toList==[93] then (Zv en ⟨#[93]⟩ q).bind λ_ l=>.ok [] l else (item q).bind λx l=>VV en item (l.length+1) [x] l):=by
    show _=_;rw[<-HP.o];unfold Yf;rw[hs];rfl
   have Ye:=PW (ZL en q);clear hs ZV Z' HP J8;go_wp2_with fail
   refine (Vz N R M en _ q Tl.o).mono ?_;rintro e w2 ⟨rfl,ZY⟩;have Zy:=hI (Tl.o.below ZY);have Zo:Hid (Fr (λk=>k=R) w w2):=VK.o.trans (Fr.below ZY)
   unfold tokA;clear ZY;cases hq:((ZL en q).text.toList==[93])
   ·have YB:Hid (P=(item q).bind λx l=>VV en item (l.length+1) [x] l):=by show _=_;rw[Xt.o,hq];rfl
    have Pe:Hid (I w2):=XQ.o.2.1 _ _ IQ.o (Zo.o.weak λk hk=>Or.inl hk)
    clear Xt;go_wp2_with fail
    rw[XQ.o.1,Oper.upon_enter];refine (XQ.o.2.2 w2 q Zy.o Pe.o).mono ?_;intro e w3 hp;cases Xq:item q with
    | bad x er =>
      rw[Xq] at hp;obtain⟨rfl,Z'⟩:=hp;have ZR:=Zo.o.trans Z';have Y6:Hid (P=.bad x er):=by show _=_;rw[YB.o,Xq];rfl
      clear Xq hq Z';go_wp2
      exact⟨rfl,by rw[Y6.o];exact⟨rfl,ZR⟩⟩
    | ok x r =>
      rw[Xq] at hp;obtain⟨v,rfl,rfl,ZV,Z'⟩:=hp;have Ys:=hI ZV;have Yw:=hI (Zo.o.trans Z')
      have Hp:Hid (I w3):=XQ.o.2.1 _ _ Pe.o (Z'.weak λk hk=>Or.inl hk)
      have I_:Hid (r.length<=q.length):=HE.o q x r Xq;have WG:Hid (P=VV en item (r.length+1) [x] r):=by show _=_;rw[YB.o,Xq];rfl
      have J7:w.heap.size<=w3.heap.size:=Yw.o.size;clear Xq ZV Z' hq Ye YB;go_wp2_with (at_builtin;refine wpList_append_own _ rfl _ _ 42 rfl w.heap.size 3 i0 (.int .i64 0) 1 8 Gc hi Ze Y_ Zb rfl (by decide) _ _ _ rfl (ZH _ _ _ _) ⟨w3.heap.size,0,none⟩ 1 1 [.int .i64 x] rfl rfl ?c1 ?c2 ?c3 ?c4 ?c5 ?_)
      case c1=>exact yJ w3 x
      case c2=>intro u hu;rcases Zh.1 hu with rfl;rfl
      case c3=>unfold maxLen;omega
      case c4=>omega
      case c5=>simp;omega
      intro v5 w5 XK Uq _;have QT:Hid (Rd N R M en w5 r):=(Ys.o.below (Z4 _ _)).grown Uq (λk hk=>by cases hk)
      have QJ:Hid (Fr (λk=>k=R) w w5):=(Yw.o.alloc _).grown Uq (λk hk=>by cases hk)
      have BU:Hid (I w5):=XQ.o.2.1 _ _ Hp.o (((Fr.refl _ _).alloc _).grown Uq (λk hk=>by cases hk))
      have GJ:=hI XK;clear XK Uq;go_wp2_with fail
      go_loopw [5] (λv wr=>∃(f:Nat) (acc:List Int) (q:List Tok),Hid (P=VV en item f acc q)/\Hid (Rd N R M en wr q)/\Hid (I wr)/\Hid (wr.ownsRow w.heap.size 3 1 v acc.length (acc.map (Value.int .i64)))/\Hid (Fr (λk=>k=R) w wr)/\q.length+1<=f/\acc.length+q.length<=4000) (λ_ wr=>Ss R wr)
      case atStart=>exact⟨_,[x],r,WG,QT,BU,GJ,QJ,by omega,by have:=I_.o;have:=BV.o;simp;omega⟩
      obtain⟨f,acc,q,NQ,UA,IP,ME,LL,hf,Zr⟩:=hrel;obtain⟨g,rfl⟩:∃g,f=g+1:=⟨f - 1,by omega⟩
      have Ye:=PW (ZL en q);obtain⟨av,cv,hv⟩:=ZJ ME.o;subst hv;have Pd:Hid ((⟨#[44]⟩:ByteArray).toList=[44]):=by show _=_;simp[go_sem]
      cases hc:((ZL en q).text.toList==[44])
      ·have VU:Hid (P=(Zv en ⟨#[93]⟩ q).bind λ_ l=>.ok acc l):=by show _=_;rw[NQ.o];unfold VV;rw[hc];rfl
       go_wp2_with fail
       refine (Vz N R M en _ q UA.o).mono ?_;rintro e w6 ⟨rfl,Yz⟩;have U4:=hI (UA.o.below Yz);have VA:Hid (Fr (λk=>k=R) w w6):=LL.o.trans (Fr.below Yz)
       have MD:Hid (I w6):=XQ.o.2.1 _ _ IP.o (Fr.below Yz);have Rh:Hid (w6.ownsRow w.heap.size 3 1 (.slice av acc.length cv) acc.length (acc.map (Value.int .i64))):=YZ ME.o Yz;unfold tokA;clear Yz;go_wp2_with fail
       refine (TF N R M en ⟨#[93]⟩ IR w6 q U4.o).mono ?_;intro e w7 hp;cases hs:Zv en ⟨#[93]⟩ q with
       | bad x er =>
         rw[hs] at hp;obtain⟨rfl,Z'⟩:=hp;have ZR:=VA.o.trans Z';have Y6:Hid (P=.bad x er):=by show _=_;rw[VU.o,hs];rfl
         clear hs hc Z';go_wp2
         exact⟨rfl,by rw[Y6.o];exact⟨rfl,ZR⟩⟩
       | ok t q2 =>
         rw[hs] at hp;obtain⟨v,rfl,rfl,ZV,Z'⟩:=hp;have ZR:=VA.o.trans Z';have SX:Hid (I w7):=XQ.o.2.1 _ _ MD.o (Z'.weak λk hk=>Or.inl hk)
         have MC:Hid (w7.ownsRow w.heap.size 3 1 (.slice av acc.length cv) acc.length (acc.map (Value.int .i64))):=TE Rh.o Z' HX.o;have Y6:Hid (P=.ok acc q2):=by show _=_;rw[VU.o,hs];rfl
         clear hs hc Z';go_wp2
         go_ret
         rw[Y6.o];exact⟨_,rfl,⟨MC.o,SX.o⟩,ZV,ZR⟩
      have ZP:=BZ en q ⟨#[44]⟩ Gd (by rw[Pd.o];exact hc)
      have St:Hid (Zv en ⟨#[44]⟩ q=.ok (ZL en q) q.tail):=by show _=_;unfold Zv WU;rw[Pd.o,hc];rfl
      obtain⟨q2,YA⟩:∃q2,q.tail=q2:=⟨_,rfl⟩;have YW:=hI YA;have BT:q2.length+1=q.length:=by
       rw[<-YA];cases q with
       | nil=>exact absurd rfl ZP
       | cons a q=>simp
      have VU:Hid (P=(item q2).bind λx l=>VV en item g (acc++[x]) l):=by show _=_;rw[NQ.o,VV,hc,if_pos rfl,St.o,<-YA];rfl
      clear ZP YA;go_wp2_with fail
      refine (Vz N R M en _ q UA.o).mono ?_;rintro e w6 ⟨rfl,Yz⟩;have U4:=hI (UA.o.below Yz);have VA:Hid (Fr (λk=>k=R) w w6):=LL.o.trans (Fr.below Yz)
      have MD:Hid (I w6):=XQ.o.2.1 _ _ IP.o (Fr.below Yz);have Rh:Hid (w6.ownsRow w.heap.size 3 1 (.slice av acc.length cv) acc.length (acc.map (Value.int .i64))):=YZ ME.o Yz;unfold tokA;clear Yz;go_wp2_with fail
      refine (TF N R M en ⟨#[44]⟩ Gd w6 q U4.o).mono ?_;intro e w7 hp;rw[St.o] at hp;obtain⟨v,rfl,rfl,ZV,Z'⟩:=hp;have Lu:Hid (Rd N R M en w7 q2):=by rw[<-YW.o];exact ZV
      have Pc:=hI (VA.o.trans Z')
      have SX:Hid (I w7):=XQ.o.2.1 _ _ MD.o (Z'.weak λk hk=>Or.inl hk)
      have MC:Hid (w7.ownsRow w.heap.size 3 1 (.slice av acc.length cv) acc.length (acc.map (Value.int .i64))):=TE Rh.o Z' HX.o;clear ZV Z' hc Ye;go_wp2_with fail
      rw[XQ.o.1,Oper.upon_enter];refine (XQ.o.2.2 w7 q2 Lu.o SX.o).mono ?_;intro e w8 hp;cases Xq:item q2 with
      | bad x er =>
        rw[Xq] at hp;obtain⟨rfl,Z'⟩:=hp;have ZR:=Pc.o.trans Z';have Y6:Hid (P=.bad x er):=by show _=_;rw[VU.o,Xq];rfl
        clear Xq Z';go_wp2
        exact⟨rfl,by rw[Y6.o];exact⟨rfl,ZR⟩⟩
      | ok x r =>
        rw[Xq] at hp;obtain⟨v,rfl,rfl,ZV,Z'⟩:=hp;have Gb:=hI ZV;have TD:=hI (Pc.o.trans Z')
        have BS:Hid (I w8):=XQ.o.2.1 _ _ SX.o (Z'.weak λk hk=>Or.inl hk)
        have Ga:Hid (w8.ownsRow w.heap.size 3 1 (.slice av acc.length cv) acc.length (acc.map (Value.int .i64))):=TE MC.o Z' HX.o;have uj:r.length<=q2.length:=HE.o q2 x r Xq;have Rl:Hid (P=VV en item g (acc++[x]) r):=by show _=_;rw[VU.o,Xq];rfl
        have BR:w.heap.size<=w8.heap.size:=TD.o.size;have Xc:=Ga.o.alloc (.cells #[.int .i64 x] 3);clear Xq ZV Z';go_wp2_with (at_builtin;refine wpList_append_own _ rfl _ _ 42 rfl w.heap.size 3 i0 (.int .i64 0) 1 8 Gc hi Ze Y_ Zb rfl (by decide) _ _ _ rfl Xc ⟨w8.heap.size,0,none⟩ 1 1 [.int .i64 x] rfl rfl ?c1 ?c2 ?c3 ?c4 ?c5 ?_)
        case c1=>exact yJ w8 x
        case c2=>intro u hu;rcases Zh.1 hu with rfl;rfl
        case c3=>unfold maxLen;omega
        case c4=>omega
        case c5=>simp;omega
        intro v9 w9 Zp Xg _;have ZS:∀k,(Value.slice av acc.length cv).ownBlock=some k->w.heap.size<=k:=λk hk=>(Ga.o.lt k hk).1
        have NP:Hid (Rd N R M en w9 r):=(Gb.o.below (Z4 _ _)).grown Xg (λk hk=>⟨by have:=ZS k hk;omega,by have:=ZS k hk;have:=HB.o.1.2.1;omega⟩)
        have Sr:Hid (Fr (λk=>k=R) w w9):=(TD.o.alloc _).grown Xg (λk hk=>Or.inr (ZS k hk))
        have BQ:Hid (I w9):=XQ.o.2.1 _ _ BS.o (((Fr.refl _ _).alloc _).grown Xg (λk hk=>Or.inl (Or.inr (by have:=ZS k hk;omega))))
        have Q6:Hid (w9.ownsRow w.heap.size 3 1 v9 (acc++[x]).length ((acc++[x]).map (Value.int .i64))):=by
         rw[ZC,YY];exact Zp
        have MB:Hid (Ss R w9<Ss R wr):=by show _<_;rw[Lv NP.o,Lv UA.o];omega
        clear Zp Xg ZS Xc;go_wp2
        go_roundw
        case rel=>exact⟨g,acc++[x],r,Rl,NP,BQ,Q6,Sr,by omega,by simp;omega⟩
        case measure=>exact MB.o
   have YB:Hid (P=(Zv en ⟨#[93]⟩ q).bind λ_ l=>.ok [] l):=by show _=_;rw[Xt.o,hq];rfl
   have Pe:Hid (I w2):=XQ.o.2.1 _ _ IQ.o (Zo.o.weak λk hk=>Or.inl hk)
   clear Xt;go_wp2_with fail
   refine (TF N R M en ⟨#[93]⟩ IR w2 q Zy.o).mono ?_;intro e w7 hp;cases hs:Zv en ⟨#[93]⟩ q with
   | bad x er =>
     rw[hs] at hp;obtain⟨rfl,Z'⟩:=hp;have ZR:=Zo.o.trans Z';have Y6:Hid (P=.bad x er):=by show _=_;rw[YB.o,hs];rfl
     clear hs hq Z';go_wp2
     exact⟨rfl,by rw[Y6.o];exact⟨rfl,ZR⟩⟩
   | ok t q2 =>
     rw[hs] at hp;obtain⟨v,rfl,rfl,ZV,Z'⟩:=hp;have ZR:=Zo.o.trans Z';have SX:Hid (I w7):=XQ.o.2.1 _ _ Pe.o (Z'.weak λk hk=>Or.inl hk)
     have Y6:Hid (P=.ok [] q2):=by show _=_;rw[YB.o,hs];rfl
     clear hs hq Z';go_wp2
     go_ret
     rw[Y6.o];exact⟨_,rfl,⟨ZH _ _ _ _,SX.o⟩,ZV,ZR⟩
def litA (l:MLit):Value:=.agg #[.int .i64 l.var,.int .i64 l.op,.int .i64 l.n]
def litC (l:MLit):List Value:=[.int .i64 l.var,.int .i64 l.op,.int .i64 l.n]
theorem yI (l:MLit):∀u∈litC l,u.oneCell'=true:=by
 intro u hu;simp only[litC,YJ,Tx,or_false] at hu;rcases hu with rfl | rfl | rfl <;> rfl
theorem yH (w:World) (z:MLit):∀(j:Nat) (u:Value),(litC z)[j]? = some u->(w.alloc (.cells #[.int .i64 z.var,.int .i64 z.op,.int .i64 z.n] 76)).cell? ((⟨w.heap.size,0,none⟩:Addr).add j)=some u:=by
 intro j u hj
 match j,hj with
 | 0,hj=>simp[litC] at hj;subst hj;simp[Addr.add]
 | 1,hj=>simp[litC] at hj;subst hj;simp[Addr.add]
 | 2,hj=>simp[litC] at hj;subst hj;simp[Addr.add]
theorem j7:(prog.info? 76).map (λi=>(i.zero,i.size,i.bytes))=some (some (.agg #[.int .i64 0,.int .i64 0,.int .i64 0]),3,24):=by kernel_rfl
theorem yG:prog.underlying 27=some (.slice 76):=by kernel_rfl
theorem zM9 (N R M:Nat) (en:Int) (F:Nat) (item:List Tok->PR MLit) (I:World->Prop) (hE:Eats item) (B:Nat) (hII:Item B N R M en F item (λi v _=>v=litA i) I) (w:World) (Jv:B<=w.heap.size) (l:List Tok) (h:Rd N R M en w l) (WJ:I w) (hl:l.length<=4000) :
 Calls prog 284 #[.pointer (some ⟨R,0,none⟩),.func (.func F) #[.pointer (some ⟨R,0,none⟩)] #[]] w
  (Vy (Yf en item l) (λxs v w'=>w'.ownsRow w.heap.size 76 3 v xs.length (xs.flatMap litC)/\I w') N R M en (λk=>k=R) w):=by
 have HB:=hI h;have IQ:=hI WJ;have XQ:=hI hII
 have HE:=hI hE;have Ow:R<w.heap.size:=by obtain⟨_,_,hR,_⟩:=h;exact (Z8.1 hR).1
 have HX:Hid (∀k,(λk=>k=R) k->k<w.heap.size):=λk hk=>by subst hk;exact Ow
 obtain⟨i0,hi,Ze,Y_,Zb⟩:=info_parts j7;obtain⟨P,hP⟩:∃P,Yf en item l=P:=⟨_,rfl⟩;have HP:=hI hP;rw[hP];clear hP h WJ hII hE;go_enter func284,ntmps284
 go_wp2_with fail
 refine (TF N R M en ⟨#[91]⟩ Ge w l HB.o).mono ?_;intro e w1 hp;cases hs:Zv en ⟨#[91]⟩ l with
 | bad x er =>
   rw[hs] at hp;obtain⟨rfl,Z'⟩:=hp;have Y6:Hid (P=.bad x er):=by show _=_;rw[<-HP.o];unfold Yf;rw[hs];rfl
   clear hs;go_wp2
   exact⟨rfl,by rw[Y6.o];exact⟨rfl,Z'⟩⟩
 | ok t q =>
   rw[hs] at hp;obtain⟨v,rfl,rfl,ZV,Z'⟩:=hp;have Tl:=hI ZV;have VK:=hI Z'
   have J8:q.length+1=l.length:=Ox Ge hs;have BV:=hI J8;have Xt:Hid (P=if (ZL en q).text.toList==[93] then (Zv en ⟨#[93]⟩ q).bind λ_ l=>.ok [] l else (item q).bind λx l=>VV en item (l.length+1) [x] l):=by
    show _=_;rw[<-HP.o];unfold Yf;rw[hs];rfl
   have Ye:=PW (ZL en q);clear hs ZV Z' HP J8;go_wp2_with fail
   refine (Vz N R M en _ q Tl.o).mono ?_;rintro e w2 ⟨rfl,ZY⟩;have Zy:=hI (Tl.o.below ZY);have Zo:Hid (Fr (λk=>k=R) w w2):=VK.o.trans (Fr.below ZY)
   unfold tokA;clear ZY;cases hq:((ZL en q).text.toList==[93])
   ·have YB:Hid (P=(item q).bind λx l=>VV en item (l.length+1) [x] l):=by show _=_;rw[Xt.o,hq];rfl
    have Pe:Hid (I w2):=XQ.o.2.1 _ _ IQ.o (Zo.o.weak λk hk=>Or.inl hk)
    clear Xt;go_wp2_with fail
    rw[XQ.o.1,Oper.upon_enter];refine (XQ.o.2.2 w2 q Zy.o Pe.o).mono ?_;intro e w3 hp;cases Xq:item q with
    | bad x er =>
      rw[Xq] at hp;obtain⟨rfl,Z'⟩:=hp;have ZR:=Zo.o.trans Z';have Y6:Hid (P=.bad x er):=by show _=_;rw[YB.o,Xq];rfl
      clear Xq hq Z';go_wp2
      exact⟨rfl,by rw[Y6.o];exact⟨rfl,ZR⟩⟩
    | ok x r =>
      rw[Xq] at hp;obtain⟨v,rfl,rfl,ZV,Z'⟩:=hp;unfold litA;have Ys:=hI ZV;have Yw:=hI (Zo.o.trans Z')
      have Hp:Hid (I w3):=XQ.o.2.1 _ _ Pe.o (Z'.weak λk hk=>Or.inl hk)
      have I_:Hid (r.length<=q.length):=HE.o q x r Xq;have WG:Hid (P=VV en item (r.length+1) [x] r):=by show _=_;rw[YB.o,Xq];rfl
      have J7:w.heap.size<=w3.heap.size:=Yw.o.size;clear Xq ZV Z' hq Ye YB;go_wp2_with (at_builtin;refine wpList_append_own _ rfl _ _ 27 rfl w.heap.size 76 i0 (.agg #[.int .i64 0,.int .i64 0,.int .i64 0]) 3 24 yG hi Ze Y_ Zb rfl (by decide) _ _ _ rfl (ZH _ _ _ _) ⟨w3.heap.size,0,none⟩ 1 1 (litC x) rfl rfl ?c1 ?c2 ?c3 ?c4 ?c5 ?_)
      case c1=>exact yH w3 x
      case c2=>exact yI x
      case c3=>unfold maxLen;omega
      case c4=>omega
      case c5=>simp;omega
      intro v5 w5 XK Uq _;have QT:Hid (Rd N R M en w5 r):=(Ys.o.below (Z4 _ _)).grown Uq (λk hk=>by cases hk)
      have QJ:Hid (Fr (λk=>k=R) w w5):=(Yw.o.alloc _).grown Uq (λk hk=>by cases hk)
      have BU:Hid (I w5):=XQ.o.2.1 _ _ Hp.o (((Fr.refl _ _).alloc _).grown Uq (λk hk=>by cases hk))
      have GJ:Hid (w5.ownsRow w.heap.size 76 3 v5 [x].length ([x].flatMap litC)):=by unfold Hid;simpa using XK
      clear XK Uq;go_wp2_with fail
      go_loopw [5] (λv wr=>∃(f:Nat) (acc:List MLit) (q:List Tok),Hid (P=VV en item f acc q)/\Hid (Rd N R M en wr q)/\Hid (I wr)/\Hid (wr.ownsRow w.heap.size 76 3 v acc.length (acc.flatMap litC))/\Hid (Fr (λk=>k=R) w wr)/\q.length+1<=f/\acc.length+q.length<=4000) (λ_ wr=>Ss R wr)
      case atStart=>exact⟨_,[x],r,WG,QT,BU,GJ,QJ,by omega,by have:=I_.o;have:=BV.o;simp;omega⟩
      obtain⟨f,acc,q,NQ,UA,IP,ME,LL,hf,Zr⟩:=hrel;obtain⟨g,rfl⟩:∃g,f=g+1:=⟨f - 1,by omega⟩
      have Ye:=PW (ZL en q);obtain⟨av,cv,hv⟩:=ZJ ME.o;subst hv;have Pd:Hid ((⟨#[44]⟩:ByteArray).toList=[44]):=by show _=_;simp[go_sem]
      cases hc:((ZL en q).text.toList==[44])
      ·have VU:Hid (P=(Zv en ⟨#[93]⟩ q).bind λ_ l=>.ok acc l):=by show _=_;rw[NQ.o];unfold VV;rw[hc];rfl
       go_wp2_with fail
       refine (Vz N R M en _ q UA.o).mono ?_;rintro e w6 ⟨rfl,Yz⟩;have U4:=hI (UA.o.below Yz);have VA:Hid (Fr (λk=>k=R) w w6):=LL.o.trans (Fr.below Yz)
       have MD:Hid (I w6):=XQ.o.2.1 _ _ IP.o (Fr.below Yz);have Rh:Hid (w6.ownsRow w.heap.size 76 3 (.slice av acc.length cv) acc.length (acc.flatMap litC)):=YZ ME.o Yz;unfold tokA;clear Yz;go_wp2_with fail
       refine (TF N R M en ⟨#[93]⟩ IR w6 q U4.o).mono ?_;intro e w7 hp;cases hs:Zv en ⟨#[93]⟩ q with
       | bad x er =>
         rw[hs] at hp;obtain⟨rfl,Z'⟩:=hp;have ZR:=VA.o.trans Z';have Y6:Hid (P=.bad x er):=by show _=_;rw[VU.o,hs];rfl
         clear hs hc Z';go_wp2
         exact⟨rfl,by rw[Y6.o];exact⟨rfl,ZR⟩⟩
       | ok t q2 =>
         rw[hs] at hp;obtain⟨v,rfl,rfl,ZV,Z'⟩:=hp;have ZR:=VA.o.trans Z';have SX:Hid (I w7):=XQ.o.2.1 _ _ MD.o (Z'.weak λk hk=>Or.inl hk)
         have MC:Hid (w7.ownsRow w.heap.size 76 3 (.slice av acc.length cv) acc.length (acc.flatMap litC)):=TE Rh.o Z' HX.o;have Y6:Hid (P=.ok acc q2):=by show _=_;rw[VU.o,hs];rfl
         clear hs hc Z';go_wp2
         go_ret
         rw[Y6.o];exact⟨_,rfl,⟨MC.o,SX.o⟩,ZV,ZR⟩
      have ZP:=BZ en q ⟨#[44]⟩ Gd (by rw[Pd.o];exact hc)
      have St:Hid (Zv en ⟨#[44]⟩ q=.ok (ZL en q) q.tail):=by show _=_;unfold Zv WU;rw[Pd.o,hc];rfl
      obtain⟨q2,YA⟩:∃q2,q.tail=q2:=⟨_,rfl⟩;have YW:=hI YA;have BT:q2.length+1=q.length:=by
       rw[<-YA];cases q with
       | nil=>exact absurd rfl ZP
       | cons a q=>simp
      have VU:Hid (P=(item q2).bind λx l=>VV en item g (acc++[x]) l):=by show _=_;rw[NQ.o,VV,hc,if_pos rfl,St.o,<-YA];rfl
      clear ZP YA;go_wp2_with fail
      refine (Vz N R M en _ q UA.o).mono ?_;rintro e w6 ⟨rfl,Yz⟩;have U4:=hI (UA.o.below Yz);have VA:Hid (Fr (λk=>k=R) w w6):=LL.o.trans (Fr.below Yz)
      have MD:Hid (I w6):=XQ.o.2.1 _ _ IP.o (Fr.below Yz);have Rh:Hid (w6.ownsRow w.heap.size 76 3 (.slice av acc.length cv) acc.length (acc.flatMap litC)):=YZ ME.o Yz;unfold tokA;clear Yz;go_wp2_with fail
      refine (TF N R M en ⟨#[44]⟩ Gd w6 q U4.o).mono ?_;intro e w7 hp;rw[St.o] at hp;obtain⟨v,rfl,rfl,ZV,Z'⟩:=hp;have Lu:Hid (Rd N R M en w7 q2):=by rw[<-YW.o];exact ZV
      have Pc:=hI (VA.o.trans Z')
      have SX:Hid (I w7):=XQ.o.2.1 _ _ MD.o (Z'.weak λk hk=>Or.inl hk)
      have MC:Hid (w7.ownsRow w.heap.size 76 3 (.slice av acc.length cv) acc.length (acc.flatMap litC)):=TE Rh.o Z' HX.o;clear ZV Z' hc Ye;go_wp2_with fail
      rw[XQ.o.1,Oper.upon_enter];refine (XQ.o.2.2 w7 q2 Lu.o SX.o).mono ?_;intro e w8 hp;cases Xq:item q2 with
      | bad x er =>
        rw[Xq] at hp;obtain⟨rfl,Z'⟩:=hp;have ZR:=Pc.o.trans Z';have Y6:Hid (P=.bad x er):=by show _=_;rw[VU.o,Xq];rfl
        clear Xq Z';go_wp2
        exact⟨rfl,by rw[Y6.o];exact⟨rfl,ZR⟩⟩
      | ok x r =>
        rw[Xq] at hp;obtain⟨v,rfl,rfl,ZV,Z'⟩:=hp;unfold litA;have Gb:=hI ZV;have TD:=hI (Pc.o.trans Z')
        have BS:Hid (I w8):=XQ.o.2.1 _ _ SX.o (Z'.weak λk hk=>Or.inl hk)
        have Ga:Hid (w8.ownsRow w.heap.size 76 3 (.slice av acc.length cv) acc.length (acc.flatMap litC)):=TE MC.o Z' HX.o;have uj:r.length<=q2.length:=HE.o q2 x r Xq;have Rl:Hid (P=VV en item g (acc++[x]) r):=by show _=_;rw[VU.o,Xq];rfl
        have BR:w.heap.size<=w8.heap.size:=TD.o.size;have Xc:=Ga.o.alloc (.cells #[.int .i64 x.var,.int .i64 x.op,.int .i64 x.n] 76);clear Xq ZV Z';go_wp2_with (at_builtin;refine wpList_append_own _ rfl _ _ 27 rfl w.heap.size 76 i0 (.agg #[.int .i64 0,.int .i64 0,.int .i64 0]) 3 24 yG hi Ze Y_ Zb rfl (by decide) _ _ _ rfl Xc ⟨w8.heap.size,0,none⟩ 1 1 (litC x) rfl rfl ?c1 ?c2 ?c3 ?c4 ?c5 ?_)
        case c1=>exact yH w8 x
        case c2=>exact yI x
        case c3=>unfold maxLen;omega
        case c4=>omega
        case c5=>simp;omega
        intro v9 w9 Zp Xg _;have ZS:∀k,(Value.slice av acc.length cv).ownBlock=some k->w.heap.size<=k:=λk hk=>(Ga.o.lt k hk).1
        have NP:Hid (Rd N R M en w9 r):=(Gb.o.below (Z4 _ _)).grown Xg (λk hk=>⟨by have:=ZS k hk;omega,by have:=ZS k hk;have:=HB.o.1.2.1;omega⟩)
        have Sr:Hid (Fr (λk=>k=R) w w9):=(TD.o.alloc _).grown Xg (λk hk=>Or.inr (ZS k hk))
        have BQ:Hid (I w9):=XQ.o.2.1 _ _ BS.o (((Fr.refl _ _).alloc _).grown Xg (λk hk=>Or.inl (Or.inr (by have:=ZS k hk;omega))))
        have Q6:Hid (w9.ownsRow w.heap.size 76 3 v9 (acc++[x]).length ((acc++[x]).flatMap litC)):=by
         unfold Hid;rw[ZC,RW];simpa using Zp
        have MB:Hid (Ss R w9<Ss R wr):=by show _<_;rw[Lv NP.o,Lv UA.o];omega
        clear Zp Xg ZS Xc;go_wp2
        go_roundw
        case rel=>exact⟨g,acc++[x],r,Rl,NP,BQ,Q6,Sr,by omega,by simp;omega⟩
        case measure=>exact MB.o
   have YB:Hid (P=(Zv en ⟨#[93]⟩ q).bind λ_ l=>.ok [] l):=by show _=_;rw[Xt.o,hq];rfl
   have Pe:Hid (I w2):=XQ.o.2.1 _ _ IQ.o (Zo.o.weak λk hk=>Or.inl hk)
   clear Xt;go_wp2_with fail
   refine (TF N R M en ⟨#[93]⟩ IR w2 q Zy.o).mono ?_;intro e w7 hp;cases hs:Zv en ⟨#[93]⟩ q with
   | bad x er =>
     rw[hs] at hp;obtain⟨rfl,Z'⟩:=hp;have ZR:=Zo.o.trans Z';have Y6:Hid (P=.bad x er):=by show _=_;rw[YB.o,hs];rfl
     clear hs hq Z';go_wp2
     exact⟨rfl,by rw[Y6.o];exact⟨rfl,ZR⟩⟩
   | ok t q2 =>
     rw[hs] at hp;obtain⟨v,rfl,rfl,ZV,Z'⟩:=hp;have ZR:=Zo.o.trans Z';have SX:Hid (I w7):=XQ.o.2.1 _ _ Pe.o (Z'.weak λk hk=>Or.inl hk)
     have Y6:Hid (P=.ok [] q2):=by show _=_;rw[YB.o,hs];rfl
     clear hs hq Z';go_wp2
     go_ret
     rw[Y6.o];exact⟨_,rfl,⟨ZH _ _ _ _,SX.o⟩,ZV,ZR⟩
end Go.Proofs.YtndcpnlaadikoaaGreatDoor
