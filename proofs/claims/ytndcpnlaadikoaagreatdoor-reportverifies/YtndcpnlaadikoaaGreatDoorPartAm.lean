/- What the proof leans on, part 13. -/
import Derived.Test.YtndcpnlaadikoaaGreatDoorPartAl
set_option maxRecDepth 100000
set_option maxHeartbeats 1600000
open Go.Proofs.Tryz
namespace Go.Proofs.YtndcpnlaadikoaaGreatDoor
open Go.RowKit
def KI (xs:List Value):Nat->List Value->List Value
 | _,[]=>xs
 | o,v :: r=>KI (xs.set o v) (o+1) r
theorem uX (j:Nat):∀(vs xs:List Value) (o:Nat),(KI xs o vs)[j]? = if o<=j/\j<o+vs.length/\j<xs.length then vs[j - o]? else xs[j]?
 | [],xs,o=>by
   unfold KI;rw[if_neg (by simp;omega)]
 | v :: r,xs,o=>by
   unfold KI;rw[uX j r];by_cases h:o=j
   ·subst h
    rw[if_neg (by omega),List.getElem?_set]
    by_cases hl:o<xs.length
    ·rw[if_pos rfl,if_pos hl,if_pos ⟨Z2 _,by simp,hl⟩];simp
    rw[if_pos rfl,if_neg hl,if_neg (by omega)]
    rw[V7 (by omega)]
   rw[WE h];simp only[Nu,Xe];by_cases hc:o+1<=j/\j<o+1+r.length/\j<xs.length
   ·rw[if_pos hc,if_pos (by omega),show j - o=(j - (o+1))+1 by omega,List.getElem?_cons_succ]
   rw[if_neg hc,if_neg (by omega)]
theorem C5 {base:Nat} {e:TypeId} {size g n cap:Nat}:∀(vs xs:List Value) (o:Nat) (w:World),w.ownsRow base e size (.slice (some ⟨g,0,none⟩) n cap) n xs->base<=g ->
 (w.setCells g o vs).ownsRow base e size (.slice (some ⟨g,0,none⟩) n cap) n (KI xs o vs)/\Below base w (w.setCells g o vs)
 | [],xs,o,w,h,_=>⟨h,Z6 _ _⟩
 | v :: r,xs,o,w,h,hg=>by
   obtain⟨h1,h2⟩:=h.stored o v;obtain⟨h3,h4⟩:=C5 r _ (o+1) _ h1 hg;refine⟨h3,Below.trans ?_ h4⟩;exact (Z6 base w).setCell hg v
theorem uW {base:Nat} {e:TypeId} {size g n cap:Nat} {xs:List Value} {w:World} (k:Nat) (hk:k<=n) (h:w.ownsRow base e size (.slice (some ⟨g,0,none⟩) n cap) n xs):w.ownsRow base e size (.slice (some ⟨g,0,none⟩) k cap) k (xs.take (k * size)):=by
 have hx:=h.1;have hm:k * size<=n * size:=O4 _ hk;rcases h.2 with ⟨h',_⟩ | ⟨g',cap',cur,h',hb,hg,L8,QU,Wx,C4⟩
 ·simp at h'
 simp only[Value.slice.injEq,Option.some.injEq,Addr.mk.injEq,and_true,true_and] at h';obtain⟨rfl,rfl⟩:=h';refine⟨by rw[X_,hx];omega,.inr ⟨g,cap,cur,rfl,hb,hg,by omega,QU,Wx,?_⟩⟩
 rw[<-C4,List.take_take]
 congr 1
 omega
theorem LN (s:Nat):∀(ch:List (List Value)),(∀c∈ch,c.length=s)->ch.flatten.length=ch.length * s
 | [],_=>by simp
 | c :: r,h=>by
   rw[RR,ZC,LN s r (λx hx=>h x (Y2 _ hx)),h c (Zk ..),Xe,W5]
   omega
theorem uV (s:Nat):∀(k:Nat) (ch:List (List Value)),(∀c∈ch,c.length=s)->ch.flatten.take (k * s)=(ch.take k).flatten
 | 0,ch,_=>by simp
 | k+1,[],_=>by simp
 | k+1,c :: r,h=>by
   rw[RR,Ld,RR,<-uV s k r (λx hx=>h x (Y2 _ hx)),List.take_append,h c (Zk ..),show (k+1) * s - s=k * s by rw[W5];omega,Zi]
   rw[h c (Zk ..),W5];omega
theorem C3 (s:Nat):∀(k:Nat) (ch:List (List Value)),(∀c∈ch,c.length=s)->ch.flatten.drop (k * s)=(ch.drop k).flatten
 | 0,ch,_=>by simp
 | k+1,[],_=>by simp
 | k+1,c :: r,h=>by
   rw[RR,List.drop_succ_cons,<-C3 s k r (λx hx=>h x (Y2 _ hx)),List.drop_append,h c (Zk ..),show (k+1) * s - s=k * s by rw[W5];omega,SU]
   ·rfl
   rw[h c (Zk ..),W5];omega
theorem ni (s:Nat) (ch:List (List Value)) (hs:∀c∈ch,c.length=s) (k:Nat) (hk:k<ch.length) (z:List Value) :
 (KI (KI ch.flatten (k * s) (ch.drop (k+1)).flatten) ((ch.length - 1) * s) z).take ((ch.length - 1) * s)=(ch.eraseIdx k).flatten:=by
 have hl:=LN s ch hs;have hd:(ch.drop (k+1)).flatten.length=(ch.length - (k+1)) * s:=by
  rw[LN s _ (λc hc=>hs c (NA hc)),RN]
 have ht:(ch.take k).flatten.length=k * s:=by
  rw[LN s _ (λc hc=>hs c (SR hc)),X_,Nat.min_eq_left (by omega)]
 have e1:(ch.length - 1) * s=k * s+(ch.length - (k+1)) * s:=by rw[<-W5];congr 1;omega
 have e2:(ch.length - 1) * s<=ch.length * s:=O4 _ (by omega)
 apply RS;intro j;rw[Iw,La];by_cases hj:j<(ch.length - 1) * s
 ·rw[Qx,if_pos hj,uX,if_neg (by omega),uX]
  by_cases T1:j<k * s
  ·rw[if_neg (by omega),V8 (by rw[ht];exact T1),<-uV s k ch hs,Qx,if_pos T1]
  rw[if_pos ⟨by omega,by rw[hd];omega,by rw[hl];omega⟩,V9 (by rw[ht];omega),ht]
 rw[V7 (by rw[X_];omega),V7 (by rw[ZC,ht,hd];omega)]
theorem nh {P:Program} (w:World) (t e ty:TypeId) (z:Value) (zs:List Value) (ht:P.underlying t=some (.slice e)) (hv:∀w,(zeroValue e).run P w=.ok z w) (hz:(Builtin.zeroCells z.cells 1).toList=zs) (h1:∀u∈zs,u.oneCell'=true) (b o c:Nat)
 (hc:∀j,j<zs.length->(w.cell? ⟨b,o+j,none⟩).isSome=true) (hf:∀j,j<zs.length->w.frozen? ⟨b,o+j,none⟩=false) :
 (Builtin.clear_ #[t] ty #[.slice (some ⟨b,o,none⟩) 1 c]).run P w=.ok (.tuple #[]) (w.setCells b o zs):=by
 have ZZ:=run_storeCells_cells (P:=P) b o zs 0 w (by simpa using hc) (by simpa using hf) h1
 simp only[Wl] at ZZ;simp[Builtin.clear_,run_underlying ht,hv,hz,ZZ]
def EArg (w:World) (v:Value) (ch:List (List Value)):Prop :=
 ∃a c,v=.slice a ch.length c/\(ch.length<=c/\c<=maxLen)/\∀(j:Nat) (u:Value),ch.flatten[j]? = some u->∃b off,a=some ⟨b,off,none⟩/\b<w.heap.size/\w.cell? ⟨b,off+j,none⟩=some u
theorem EArg.below {w w':World} {v:Value} {ch:List (List Value)} (hb:Bw w w') (h:EArg w v ch):EArg w' v ch:=by
 obtain⟨a,c,hv,hm,hr⟩:=h;refine⟨a,c,hv,hm,λj u hu=>?_⟩
 obtain⟨b,off,ha,Z7,hc⟩:=hr j u hu;exact⟨b,off,ha,ZQ Z7 hb.size,(hb.cell (p:=⟨b,off+j,none⟩) Z7).trans hc⟩
theorem zUV {w:World} {base s:Nat} {e:TypeId} {v:Value} {ch:List (List Value)} (hs:∀c∈ch,c.length=s) (h:w.ownsRow base e s v ch.length ch.flatten):EArg w v ch:=by
 have hl:=LN s ch hs;rcases h.2 with ⟨rfl,hn⟩ | ⟨g,cap,cur,rfl,hg,hh,X',Yb,_,_⟩
 ·have:ch=[]:=Xf hn
  subst this;exact⟨none,0,rfl,⟨Z2 _,YI _⟩,λj u hu=>by simp at hu⟩
 refine⟨_,cap,rfl,⟨X',Yb⟩,λj u hu=>?_⟩
 have hj:=(ZN.1 hu).1;exact⟨g,0,rfl,(Z8.1 hh).1,by rw[Zn,h.cellAt j (by omega)];exact hu⟩
theorem zI:(prog.info? 145).map (λi=>(i.zero,i.size,i.bytes))=some (some (.agg #[.int .i64 0,.int .i64 0,.slice none 0 0,.int .u64 0]),4,48):=by kernel_rfl
theorem zUW (w:World):(zeroValue 76).run prog w=.ok (.agg #[.int .i64 0,.int .i64 0,.int .i64 0]) w:=by
 obtain⟨i0,hi,Ze,Y_,Zb⟩:=info_parts Hb;simp[zeroValue,typeInfo,hi,Ze]
theorem zOJ (w:World):(zeroValue 145).run prog w=.ok (.agg #[.int .i64 0,.int .i64 0,.slice none 0 0,.int .u64 0]) w:=by
 obtain⟨i0,hi,Ze,Y_,Zb⟩:=info_parts zI;simp[zeroValue,typeInfo,hi,Ze]
theorem C2:prog.underlying 142=some (.slice 145):=by kernel_rfl
theorem zUX (ch:List (List Value)) (hs:∀c∈ch,c.length=3) (h1:∀c∈ch,∀u∈c,u.oneCell'=true) (k:Nat) (hk:k<ch.length) (base:Nat) (v:Value) (w:World) (h:w.ownsRow base 76 3 v ch.length ch.flatten) :
 Calls prog 228 #[v,.int .i64 k,.int .i64 ((k:Int)+1)] w λe w'=>∃x,e=.returned x/\w'.ownsRow base 76 3 x (ch.eraseIdx k).length (ch.eraseIdx k).flatten/\Below base w w':=by
 obtain⟨i0,WJ,Ze,Y_,Zb⟩:=info_parts Hb;have hl:=LN 3 ch hs;have KH:(ch.eraseIdx k).length=ch.length - 1:=Li hk;rcases h.2 with ⟨rfl,hn⟩ | ⟨g,cap,cur,rfl,hg,hh,X',Yb,_,_⟩
 ·omega
 obtain⟨n,hn⟩:∃n,ch.length=n+1:=⟨ch.length - 1,by omega⟩
 have KG:=ni 3 ch hs k hk [.int .i64 0,.int .i64 0,.int .i64 0];obtain⟨news,WX⟩:∃news,(ch.drop (k+1)).flatten=news:=⟨_,rfl⟩;have TV:news.length=(n - k) * 3:=by
  rw[<-WX,LN 3 _ (λc hc=>hs c (NA hc)),RN,hn];congr 1;omega
 have XH:∀u∈news,u.oneCell'=true:=by
  intro u hu;rw[<-WX] at hu;obtain⟨c,hc,hu⟩:=List.mem_flatten.1 hu;exact h1 c (NA hc) u hu
 rw[hn] at h KH KG;rw[WX,show n+1 - 1=n by omega] at KG
 rw[show n+1 - 1=n by omega] at KH
 have HD:=hI (show w.drew.ownsRow _ _ _ _ _ _ from h);obtain⟨Vt,Z5⟩:=C5 (base:=base) news ch.flatten (k * 3) w.drew HD.o hg;obtain⟨W1,Pt⟩:∃W1,W1=w.drew.setCells g (k * 3) news:=⟨_,rfl⟩;rw[<-Pt] at Vt Z5;have HW:=hI Pt;have Za:=hI Vt;obtain⟨WT,ZY⟩:=C5 (base:=base) [.int .i64 0,.int .i64 0,.int .i64 0] _ (n * 3) W1 Vt hg;have Ur:Hid ((W1.setCells g (n * 3) [.int .i64 0,.int .i64 0,.int .i64 0]).ownsRow base 76 3 (.slice (some ⟨g,0,none⟩) n cap) (ch.eraseIdx k).length (ch.eraseIdx k).flatten):=by
  show World.ownsRow _ _ _ _ _ _ _;rw[KH,<-KG];exact uW n (by omega) WT
 have N6:Hid (Below base w (W1.setCells g (n * 3) [.int .i64 0,.int .i64 0,.int .i64 0])):=((Z6 base w).drew).trans (Z5.trans ZY);have Jh:k * 3<=n * 3:=O4 _ (by omega)
 have XD:∀ty,(Builtin.clear_ #[27] ty #[.slice (some ⟨g,n * 3,none⟩) 1 (cap - n)]).run prog W1=.ok (.tuple #[]) (W1.setCells g (n * 3) [.int .i64 0,.int .i64 0,.int .i64 0]) :=
  λty=>nh W1 _ _ ty _ [.int .i64 0,.int .i64 0,.int .i64 0] zJ zUW (by kernel_rfl) (by intro u hu;simp at hu;rcases hu with rfl | rfl | rfl | rfl <;> rfl) g (n * 3) _ (λj hj=>by
   have Jj:n * 3+j<(n+1) * 3:=by simp at hj;omega
   rw[Za.o.cellAt _ Jj];have:n * 3+j<(KI ch.flatten (k * 3) news).length:=by rw[Za.o.1];exact Jj
   rw[ZA this];rfl) (λj hj=>Za.o.frozenAt _)
 have s1:=hI TV;have s2:=hI XH;have s3:Hid (∀t,t<news.length->(w.drew.cell? ⟨g,0+k * 3+t,none⟩).isSome=true/\w.drew.frozen? ⟨g,0+k * 3+t,none⟩=false):=by
  intro t ht;rw[TV] at ht;have e0:(n - k) * 3+k * 3=n * 3:=by rw[<-W5];congr 1;omega
  have N5:k * 3+t<(n+1) * 3:=by rw[W5];omega
  rw[Zn,HD.o.cellAt _ N5,HD.o.frozenAt];have:k * 3+t<ch.flatten.length:=by rw[HD.o.1];exact N5
  rw[ZA this];exact⟨rfl,rfl⟩
 obtain⟨A,hA,Ha⟩:∃A:Addr,(if cap=k+1 then some (⟨g,0,none⟩:Addr) else some ⟨g,(k+1) * 3,none⟩)=some A/\Hid (∀t u,news[t]? = some u->w.drew.cell? (A.add t)=some u):=by
  by_cases C1:cap=k+1
  ·refine⟨⟨g,0,none⟩,by simp[C1],λt u hu=>?_⟩
   have h0:news.length=0:=by rw[TV,show n - k=0 by omega,SM]
   rw[Xo.1 h0] at hu;simp at hu
  refine⟨⟨g,(k+1) * 3,none⟩,by simp[C1],λt u hu=>?_⟩
  have ht:=(ZN.1 hu).1;rw[TV] at ht;have e0:(n - k) * 3+k * 3=n * 3:=by rw[<-W5];congr 1;omega
  have N5:(k+1) * 3+t<(n+1) * 3:=by rw[W5,W5];omega
  rw[L7,HD.o.cellAt _ N5];rw[<-WX,<-C3 3 _ ch hs,K'] at hu;exact hu
 have zH:k+1<=cap:=by omega
 unfold maxLen at Yb;rw[hn];have KF:k<=n:=by omega
 have C0:n+1<=cap:=by omega
 clear X' Pt Vt Z5 WT ZY KG WX TV XH h1 hs hl h KH hh Ze Zb hn hk Jh;go_enter func228,ntmps228
 have YD:k+(n - k)=n:=by omega
 have Zr:n+1 - (k+1)=n - k:=by omega
 have M4:k+(n - k)<=cap:=by omega
 have nc:k<=cap:=by omega
 have P9:(0:Int)<=(k:Int)+1:=by omega
 go_wp2_with fail
 go_region_law (refine step_append_room rfl (.tmp 22) (.tmp 25) 27 rfl 76 i0 3 zJ WJ Y_ g 0 k cap (by simp[Act.eval,Act.put]) A (n - k) (cap - (k+1)) news (by simp[Act.eval,Act.put]) s1.o Ha.o s2.o M4 s3.o ?_;rw[Zn,<-HW.o,YD])
 have ZP:¬cap=n:=by omega
 have US:(0:Int)<=(n:Int)+1:=by omega
 have L8:n<=cap:=by omega
 go_wp2
 go_ret
 exact⟨_,rfl,Ur.o,N6.o⟩
theorem zOK (ch:List (List Value)) (hs:∀c∈ch,c.length=4) (h1:∀c∈ch,∀u∈c,u.oneCell'=true) (k:Nat) (hk:k<ch.length) (base:Nat) (v:Value) (w:World) (h:w.ownsRow base 145 4 v ch.length ch.flatten) :
 Calls prog 149 #[v,.int .i64 k,.int .i64 ((k:Int)+1)] w λe w'=>∃x,e=.returned x/\w'.ownsRow base 145 4 x (ch.eraseIdx k).length (ch.eraseIdx k).flatten/\Below base w w':=by
 obtain⟨i0,WJ,Ze,Y_,Zb⟩:=info_parts zI;have hl:=LN 4 ch hs;have KH:(ch.eraseIdx k).length=ch.length - 1:=Li hk;rcases h.2 with ⟨rfl,hn⟩ | ⟨g,cap,cur,rfl,hg,hh,X',Yb,_,_⟩
 ·omega
 obtain⟨n,hn⟩:∃n,ch.length=n+1:=⟨ch.length - 1,by omega⟩
 have KG:=ni 4 ch hs k hk [.int .i64 0,.int .i64 0,.slice none 0 0,.int .u64 0];obtain⟨news,WX⟩:∃news,(ch.drop (k+1)).flatten=news:=⟨_,rfl⟩;have TV:news.length=(n - k) * 4:=by
  rw[<-WX,LN 4 _ (λc hc=>hs c (NA hc)),RN,hn];congr 1;omega
 have XH:∀u∈news,u.oneCell'=true:=by
  intro u hu;rw[<-WX] at hu;obtain⟨c,hc,hu⟩:=List.mem_flatten.1 hu;exact h1 c (NA hc) u hu
 rw[hn] at h KH KG;rw[WX,show n+1 - 1=n by omega] at KG
 rw[show n+1 - 1=n by omega] at KH
 have HD:=hI (show w.drew.ownsRow _ _ _ _ _ _ from h);obtain⟨Vt,Z5⟩:=C5 (base:=base) news ch.flatten (k * 4) w.drew HD.o hg;obtain⟨W1,Pt⟩:∃W1,W1=w.drew.setCells g (k * 4) news:=⟨_,rfl⟩;rw[<-Pt] at Vt Z5;have HW:=hI Pt;have Za:=hI Vt;obtain⟨WT,ZY⟩:=C5 (base:=base) [.int .i64 0,.int .i64 0,.slice none 0 0,.int .u64 0] _ (n * 4) W1 Vt hg;have Ur:Hid ((W1.setCells g (n * 4) [.int .i64 0,.int .i64 0,.slice none 0 0,.int .u64 0]).ownsRow base 145 4 (.slice (some ⟨g,0,none⟩) n cap) (ch.eraseIdx k).length (ch.eraseIdx k).flatten):=by
  show World.ownsRow _ _ _ _ _ _ _;rw[KH,<-KG];exact uW n (by omega) WT
 have N6:Hid (Below base w (W1.setCells g (n * 4) [.int .i64 0,.int .i64 0,.slice none 0 0,.int .u64 0])):=((Z6 base w).drew).trans (Z5.trans ZY);have Jh:k * 4<=n * 4:=O4 _ (by omega)
 have XD:∀ty,(Builtin.clear_ #[142] ty #[.slice (some ⟨g,n * 4,none⟩) 1 (cap - n)]).run prog W1=.ok (.tuple #[]) (W1.setCells g (n * 4) [.int .i64 0,.int .i64 0,.slice none 0 0,.int .u64 0]) :=
  λty=>nh W1 _ _ ty _ [.int .i64 0,.int .i64 0,.slice none 0 0,.int .u64 0] C2 zOJ (by kernel_rfl) (by intro u hu;simp at hu;rcases hu with rfl | rfl | rfl | rfl <;> rfl) g (n * 4) _ (λj hj=>by
   have Jj:n * 4+j<(n+1) * 4:=by simp at hj;omega
   rw[Za.o.cellAt _ Jj];have:n * 4+j<(KI ch.flatten (k * 4) news).length:=by rw[Za.o.1];exact Jj
   rw[ZA this];rfl) (λj hj=>Za.o.frozenAt _)
 have s1:=hI TV;have s2:=hI XH;have s3:Hid (∀t,t<news.length->(w.drew.cell? ⟨g,0+k * 4+t,none⟩).isSome=true/\w.drew.frozen? ⟨g,0+k * 4+t,none⟩=false):=by
  intro t ht;rw[TV] at ht;have e0:(n - k) * 4+k * 4=n * 4:=by rw[<-W5];congr 1;omega
  have N5:k * 4+t<(n+1) * 4:=by rw[W5];omega
  rw[Zn,HD.o.cellAt _ N5,HD.o.frozenAt];have:k * 4+t<ch.flatten.length:=by rw[HD.o.1];exact N5
  rw[ZA this];exact⟨rfl,rfl⟩
 obtain⟨A,hA,Ha⟩:∃A:Addr,(if cap=k+1 then some (⟨g,0,none⟩:Addr) else some ⟨g,(k+1) * 4,none⟩)=some A/\Hid (∀t u,news[t]? = some u->w.drew.cell? (A.add t)=some u):=by
  by_cases C1:cap=k+1
  ·refine⟨⟨g,0,none⟩,by simp[C1],λt u hu=>?_⟩
   have h0:news.length=0:=by rw[TV,show n - k=0 by omega,SM]
   rw[Xo.1 h0] at hu;simp at hu
  refine⟨⟨g,(k+1) * 4,none⟩,by simp[C1],λt u hu=>?_⟩
  have ht:=(ZN.1 hu).1;rw[TV] at ht;have e0:(n - k) * 4+k * 4=n * 4:=by rw[<-W5];congr 1;omega
  have N5:(k+1) * 4+t<(n+1) * 4:=by rw[W5,W5];omega
  rw[L7,HD.o.cellAt _ N5];rw[<-WX,<-C3 4 _ ch hs,K'] at hu;exact hu
 have zH:k+1<=cap:=by omega
 unfold maxLen at Yb;rw[hn];have KF:k<=n:=by omega
 have C0:n+1<=cap:=by omega
 clear X' Pt Vt Z5 WT ZY KG WX TV XH h1 hs hl h KH hh Ze Zb hn hk Jh;go_enter func149,ntmps149
 have YD:k+(n - k)=n:=by omega
 have Zr:n+1 - (k+1)=n - k:=by omega
 have M4:k+(n - k)<=cap:=by omega
 have nc:k<=cap:=by omega
 have P9:(0:Int)<=(k:Int)+1:=by omega
 go_wp2_with fail
 go_region_law (refine step_append_room rfl (.tmp 22) (.tmp 25) 142 rfl 145 i0 4 C2 WJ Y_ g 0 k cap (by simp[Act.eval,Act.put]) A (n - k) (cap - (k+1)) news (by simp[Act.eval,Act.put]) s1.o Ha.o s2.o M4 s3.o ?_;rw[Zn,<-HW.o,YD])
 have ZP:¬cap=n:=by omega
 have US:(0:Int)<=(n:Int)+1:=by omega
 have L8:n<=cap:=by omega
 go_wp2
 go_ret
 exact⟨_,rfl,Ur.o,N6.o⟩
theorem zUY {w:World} {ch:List (List Value)} {s n c:Nat} (hs:∀x∈ch,x.length=s) (h0:0<s) (h:EArg w (.slice none n c) ch):ch=[]:=by
 obtain⟨a,c2,he,_,hr⟩:=h;cases ch with
 | nil=>rfl
 | cons z r =>
   have hz:=hs z (Zk ..);cases z with
   | nil=>simp at hz;omega
   | cons y t =>
     obtain⟨b,off,hq,_⟩:=hr 0 y rfl;rw[hq] at he;cases he
theorem zLU (ch:List (List Value)) (hs:∀c∈ch,c.length=4) (h1:∀c∈ch,∀u∈c,u.oneCell'=true) (hl:ch.length<=9000) (u:Value) (w:World) (hu:EArg w u ch) :
 Calls prog 148 #[u] w λe w'=>∃x,e=.returned x/\w'.ownsRow w.heap.size 145 4 x ch.length ch.flatten/\Bw w w':=by
 obtain⟨i0,WJ,Ze,Y_,Zb⟩:=info_parts zI;have P8:=LN 4 ch hs;have HU:Hid (∀w',Bw w w'->EArg w' u ch):=λw' h=>EArg.below h hu
 have q22:∀(w:World) (a:Option Addr) (n c n' c':Nat),(binOp .eql 142 (.slice a n c) (.slice none n' c')).run prog w=.ok (.bool a.isNone) w:=λw a n c n' c'=>Lib.run_eql_slice_nil w _ _ a n c n' c' C2
 obtain⟨a,c,he,hm,hr⟩:=id hu;subst he;cases a with
 | none =>
   have:=zUY hs (by omega) hu
   subst this;clear hu HU;go_enter func148,ntmps148
   go_wp2
   go_ret
   exact⟨_,rfl,ZH _ _ _ _,Z6 _ _⟩
 | some ad =>
   have HL:=hI hl;have HC:Hid (∀(j:Nat) (u:Value),ch.flatten[j]? = some u->(w.alloc (.cells #[] 145)).cell? (ad.add j)=some u):=λj y hy=>by
    obtain⟨b,off,hq,Z7,hc⟩:=hr j y hy;cases hq
    rw[L7];exact ((Z4 w _).cell (p:=⟨b,off+j,none⟩) Z7).trans hc
   have H1:Hid (∀u∈ch.flatten,u.oneCell'=true):=λu hu=>by
    obtain⟨c,hc,hu⟩:=List.mem_flatten.1 hu;exact h1 c hc u hu
   have EM:=hI P8;have To:Hid ((w.alloc (.cells #[] 145)).ownsRow w.heap.size 145 4 (.slice (some ⟨w.heap.size,0,none⟩) 0 0) 0 []):=World.ownsRow_made w #[] 0 (Z2 _) (YI _) (by simp)
   clear hu hl hs h1 hr hm P8;go_enter func148,ntmps148
   go_wp2_with (at_builtin;refine wpList_append_own _ rfl _ _ 142 rfl w.heap.size 145 i0 (.agg #[.int .i64 0,.int .i64 0,.slice none 0 0,.int .u64 0]) 4 48 C2 WJ Ze Y_ Zb rfl (by decide) _ _ _ rfl To.o ad ch.length c ch.flatten rfl EM.o HC.o H1.o ?c1 ?c2 ?c3 ?_)
   case c1=>have:=HL.o;unfold maxLen;omega
   case c2=>have:=HL.o;omega
   case c3=>simp
   intro v3 w3 ZX Z1 _;have ZM:Hid (Bw w w3):=(Z4 _ _).grown Z1 (by simp) (by intro k hk;simp[Value.ownBlock] at hk;omega)
   have WL:Hid (w3.ownsRow w.heap.size 145 4 v3 ch.length ch.flatten):=by show World.ownsRow _ _ _ _ _ _ _;simpa using ZX
   obtain⟨av,cv,rfl⟩:=ZJ ZX;clear ZX Z1;go_wp2
   go_ret
   exact⟨_,by simp,WL.o,ZM.o⟩
theorem uU {α β:Type} (f:α->β) (l:List α) (k:Nat):(l.map f).eraseIdx k=(l.eraseIdx k).map f:=by
 rw[Iw,Iw,YY,List.map_take,List.map_drop]
theorem na (l:Cla):(l.map TH).flatten=U_ l:=by unfold U_;rw[List.flatMap]
theorem m_ (l:Cla):∀c∈l.map TH,c.length=3:=by
 intro c hc;obtain⟨t,_,rfl⟩:=Zj.1 hc;rfl
theorem zOL (l:Cla):∀c∈l.map TH,∀u∈c,u.oneCell'=true:=by
 intro c hc u hu;obtain⟨t,_,rfl⟩:=Zj.1 hc;simp[TH] at hu;rcases hu with rfl | rfl | rfl <;> rfl
theorem m9 {base:Nat} {w:World} {v:Value} {l:Cla} (h:LOwn base w v l):w.ownsRow base 76 3 v (l.map TH).length (l.map TH).flatten:=by
 rw[YU,na];exact h
theorem m8 {base:Nat} {w:World} {v:Value} {l:Cla} (h:w.ownsRow base 76 3 v (l.map TH).length (l.map TH).flatten):LOwn base w v l:=by
 rw[YU,na] at h;exact h
def zVf (F:Nat) (caps:Array Value) (enough:Cla->Bool) (n:Nat) (w:World):Prop :=
 (∀(args:Array Value) (w':World),Sem.run prog (callFunc F args) w'=.ok (.enter F args) w') /\
 ∀(c:Cla) (v:Value) (w':World),c.length<=n->Bw w w'->LArg w' v c->Calls prog F (#[v]++caps) w' λe w''=>e=.returned (.bool (enough c))/\Bw w' w''
theorem zWA (l:Cla) (k:Nat) (hk:k<l.length) (base:Nat) (v:Value) (w:World) (h:LOwn base w v l) :
 Calls prog 228 #[v,.int .i64 k,.int .i64 ((k:Int)+1)] w λe w'=>∃x,e=.returned x/\LOwn base w' x (l.eraseIdx k)/\Below base w w':=by
 refine (zUX (l.map TH) (m_ l) (zOL l) k (by rw[YU];exact hk) base v w (m9 h)).mono ?_
 rintro e w' ⟨x,rfl,hx,hb⟩;rw[uU] at hx;exact⟨x,rfl,m8 hx,hb⟩
theorem m7 {α:Type} (enough:List α->Bool) (k:Nat) (out:List α):Uh enough (k+1) out=Uh enough k (if enough (out.eraseIdx k) then out.eraseIdx k else out):=rfl
theorem zQe (F:Nat) (caps:Array Value) (enough:Cla->Bool) (l:Cla) (hl:l.length<=900) (v:Value) (w:World) (hv:LArg w v l) (hF:zVf F caps enough l.length w) :
 Calls prog 142 #[v,.func (.func F) #[] caps] w λe w'=>∃x,e=.returned x/\LOwn w.heap.size w' x (Uh enough l.length l)/\Bw w w':=by
 have HV:=hI hv;have HL:=hI hl;have HF:=hI hF;obtain⟨R,hR⟩:∃R,Uh enough l.length l=R:=⟨_,rfl⟩;have HR:Hid (R=Uh enough l.length l):=hR.symm;rw[hR];obtain⟨a,c,rfl,_,_⟩:=hv;clear hF hR;go_enter func142,ntmps142
 go_wp2_with fail
 refine (nj l HL.o _ _ HV.o).mono ?_;rintro e w1 ⟨x,rfl,hx,Z5⟩;have HX:=hI hx;have ZU:=hI Z5;obtain⟨ax,cx,rfl⟩:=ZJ (show w1.ownsRow _ _ _ _ _ _ from hx)
 clear hx Z5;go_wp2_with fail
 go_loopw [5,6] (λo i wr=>∃(out:Cla) (k:Nat),i=.int .i64 ((k:Int) - 1)/\k<=out.length/\Hid (out.length<=l.length)/\LOwn w.heap.size wr o out/\Hid (R=Uh enough k out)/\Bw w wr) (λ_ i _=>(intOf i+1).toNat)
 case atStart=>exact⟨l,l.length,rfl,Z2 _,Z2 _,HX.o,HR,ZU.o⟩
 obtain⟨out,k,rfl,hk,YM,ho,ZV,Z3⟩:=hrel;have HO:=hI ho;have ZW:=hI Z3;obtain⟨ao,co,rfl⟩:=ZJ (show wr.ownsRow _ _ _ _ _ _ from ho)
 clear ho Z3;cases k with
 | zero =>
   have HE:Hid (R=out):=ZV.o;clear ZV;go_wp2
   go_ret
   exact⟨_,rfl,by rw[HE.o];exact HO.o,ZW.o⟩
 | succ k =>
   have Xa:((k+1:Nat):Int) - 1=(k:Int):=by omega
   rw[Xa];have Yx:Hid (R=Uh enough k (if enough (out.eraseIdx k) then out.eraseIdx k else out)):=ZV.o
   have WP:Hid (out.length<=900):=ZT YM.o HL.o;have OI:Hid ((out.eraseIdx k).length=out.length - 1):=Li (by omega)
   have hk9:k+1<=900:=ZT hk WP.o;clear ZV Xa;go_wp2_with fail
   refine (nj out WP.o _ _ HO.o.arg).mono ?_;rintro e w2 ⟨y,rfl,hy,ZY⟩;have HY:Hid (LOwn w.heap.size w2 y out):=Ri ZW.o.size hy;have EL:=hI hy;have KE:Hid (LOwn w.heap.size w2 (.slice ao (List.length out) co) out):=YZ HO.o ZY;have Xu:=hI ZY;have ZI:=hI (ZW.o.trans (ZY.mono ZW.o.size));obtain⟨ay,cy,rfl⟩:=ZJ (show w2.ownsRow _ _ _ _ _ _ from hy)
   clear hy ZY;go_wp2_with fail
   refine (zWA out k (by omega) wr.heap.size _ _ EL.o).mono ?_
   rintro e w3 ⟨z,rfl,hz,ZG⟩;have HZ:Hid (LOwn w.heap.size w3 z (out.eraseIdx k)):=Ri ZW.o.size hz;have M3:=hI (Xu.o.trans ZG);have WL:Hid (LOwn w.heap.size w3 (.slice ao (List.length out) co) out):=YZ HO.o M3.o;have ZM:Hid (Bw w w3):=ZW.o.trans (M3.o.mono ZW.o.size);obtain⟨az,cz,rfl⟩:=ZJ (show w3.ownsRow _ _ _ _ _ _ from hz)
   have XR:Hid (Calls prog F (#[.slice az (out.eraseIdx k).length cz]++caps) w3 λe w''=>e=.returned (.bool (enough (out.eraseIdx k)))/\Bw w3 w''):=HF.o.2 _ _ _ (by have:=YM.o;have:=OI.o;omega) ZM.o HZ.o.arg
   obtain⟨B,hB⟩:∃B,enough (out.eraseIdx k)=B:=⟨_,rfl⟩;rw[hB] at XR Yx;obtain⟨E,hE⟩:∃E,out.eraseIdx k=E:=⟨_,rfl⟩;rw[hE] at XR Yx OI HZ ⊢;have N4:Hid (E.length<=l.length):=by have:=YM.o;have:=OI.o;show _<=_;omega
   have uT:k<=E.length:=by have:=OI.o;omega
   clear hz ZG hB hE;go_wp2_with fail
   rw[HF.o.1,Oper.upon_enter];refine XR.o.mono ?_;rintro e w4 ⟨rfl,Zd⟩;have S_:Hid (LOwn w.heap.size w4 (.slice ao (List.length out) co) out):=YZ WL.o Zd;have uS:Hid (LOwn w.heap.size w4 (.slice az (List.length E) cz) E):=YZ HZ.o Zd;have Yp:=hI (ZM.o.trans (Zd.mono ZM.o.size));clear Zd;cases B
   ·have HN:Hid (R=Uh enough k out):=Yx.o
    clear Yx;go_wp2
    go_roundw
    case rel=>exact⟨out,k,rfl,by omega,YM,S_.o,HN,Yp.o⟩
    case measure=>simp[intOf]
   have HN:Hid (R=Uh enough k E):=Yx.o;clear Yx;go_wp2
   go_roundw
   case rel=>exact⟨E,k,rfl,uT,N4,uS.o,HN,Yp.o⟩
   case measure=>simp[intOf]
abbrev RV:=(MStep×Nat)×Value
def S4 (x:RV):List Value:=[.int .i64 x.1.1.kind,.int .i64 x.1.1.con,x.2,.int .u64 (x.1.2:Int)]
def IsSl (x:RV):Prop:=∃a n c,x.2=.slice a n c
theorem zG (l:List RV):∀c∈l.map S4,c.length=4:=by
 intro c hc;obtain⟨t,_,rfl⟩:=Zj.1 hc;rfl
theorem m6 (l:List RV) (h:∀x∈l,IsSl x):∀c∈l.map S4,∀u∈c,u.oneCell'=true:=by
 intro c hc u hu;obtain⟨t,ht,rfl⟩:=Zj.1 hc;obtain⟨a,n,c,he⟩:=h t ht;simp[S4,he] at hu;rcases hu with rfl | rfl | rfl | rfl <;> rfl
def ROwn (base:Nat) (w:World) (v:Value) (l:List RV):Prop:=w.ownsRow base 145 4 v l.length (l.map S4).flatten
def N3 (w:World) (v:Value) (l:List RV):Prop:=EArg w v (l.map S4)
theorem N3.below {w w':World} {v:Value} {l:List RV} (hb:Bw w w') (h:N3 w v l):N3 w' v l:=EArg.below hb h
theorem m5 {w:World} {v:Value} {l:List RV} (h:N3 w v l):∃a c,v=.slice a l.length c:=by
 obtain⟨a,c,rfl,_,_⟩:=h;exact⟨a,c,by rw[YU]⟩
theorem ROwn.arg {base:Nat} {w:World} {v:Value} {l:List RV} (h:ROwn base w v l):N3 w v l:=zUV (zG l) (by rw[YU];exact h)
theorem CZ {base base':Nat} {w:World} {v:Value} {l:List RV} (hb:base'<=base) (h:ROwn base w v l):ROwn base' w v l:=World.ownsRow.mono h hb
def zVg (F:Nat) (caps:Array Value) (enough:List RV->Bool) (l:List RV) (w:World):Prop :=
 (∀(args:Array Value) (w':World),Sem.run prog (callFunc F args) w'=.ok (.enter F args) w') /\
 ∀(c:List RV) (v:Value) (w':World),c.length<=l.length->(∀x∈c,x∈l)->Bw w w'->N3 w' v c->Calls prog F (#[v]++caps) w' λe w''=>e=.returned (.bool (enough c))/\Bw w' w''
theorem zQf (l:List RV) (h1:∀x∈l,IsSl x) (k:Nat) (hk:k<l.length) (base:Nat) (v:Value) (w:World) (h:ROwn base w v l) :
 Calls prog 149 #[v,.int .i64 k,.int .i64 ((k:Int)+1)] w λe w'=>∃x,e=.returned x/\ROwn base w' x (l.eraseIdx k)/\Below base w w':=by
 refine (zOK (l.map S4) (zG l) (m6 l h1) k (by rw[YU];exact hk) base v w (by rw[YU];exact h)).mono ?_
 rintro e w' ⟨x,rfl,hx,hb⟩;rw[uU,YU] at hx;exact⟨x,rfl,hx,hb⟩
theorem m4 (l:List RV) (h1:∀x∈l,IsSl x) (hl:l.length<=9000) (v:Value) (w:World) (h:N3 w v l) :
 Calls prog 148 #[v] w λe w'=>∃x,e=.returned x/\ROwn w.heap.size w' x l/\Bw w w':=by
 refine (zLU (l.map S4) (zG l) (m6 l h1) (by rw[YU];exact hl) v w h).mono ?_
 rintro e w' ⟨x,rfl,hx,hb⟩;rw[YU] at hx;exact⟨x,rfl,hx,hb⟩
theorem zLV (F:Nat) (caps:Array Value) (enough:List RV->Bool) (l:List RV) (Pu:∀x∈l,IsSl x) (hl:l.length<=9000) (v:Value) (w:World) (hv:N3 w v l) (hF:zVg F caps enough l w) :
 Calls prog 89 #[v,.func (.func F) #[] caps] w λe w'=>∃x,e=.returned x/\ROwn w.heap.size w' x (Uh enough l.length l)/\Bw w w':=by
 have HV:=hI hv;have N2:=hI Pu;have HL:=hI hl;have HF:=hI hF;obtain⟨R,hR⟩:∃R,Uh enough l.length l=R:=⟨_,rfl⟩;have HR:Hid (R=Uh enough l.length l):=hR.symm;rw[hR];obtain⟨a,c,rfl⟩:=m5 hv;clear hF hR Pu;go_enter func89,ntmps89
 go_wp2_with fail
 refine (m4 l N2.o HL.o _ _ HV.o).mono ?_;rintro e w1 ⟨x,rfl,hx,Z5⟩;have HX:=hI hx;have ZU:=hI Z5;obtain⟨ax,cx,rfl⟩:=ZJ (show w1.ownsRow _ _ _ _ _ _ from hx)
 clear hx Z5;go_wp2_with fail
 go_loopw [5,6] (λo i wr=>∃(out:List RV) (k:Nat),i=.int .i64 ((k:Int) - 1)/\k<=out.length/\Hid (out.length<=l.length)/\Hid (∀x∈out,x∈l)/\ROwn w.heap.size wr o out/\Hid (R=Uh enough k out)/\Bw w wr) (λ_ i _=>(intOf i+1).toNat)
 case atStart=>exact⟨l,l.length,rfl,Z2 _,Z2 _,λ_ h=>h,HX.o,HR,ZU.o⟩
 obtain⟨out,k,rfl,hk,YM,Jg,ho,ZV,Z3⟩:=hrel;have M2:Hid (∀x∈out,IsSl x):=λx hx=>N2.o x (Jg.o x hx)
 have HO:=hI ho;have ZW:=hI Z3;obtain⟨ao,co,rfl⟩:=ZJ (show wr.ownsRow _ _ _ _ _ _ from ho)
 clear ho Z3;cases k with
 | zero =>
   have HE:Hid (R=out):=ZV.o;clear ZV;go_wp2
   go_ret
   exact⟨_,rfl,by rw[HE.o];exact HO.o,ZW.o⟩
 | succ k =>
   have Xa:((k+1:Nat):Int) - 1=(k:Int):=by omega
   rw[Xa];have Yx:Hid (R=Uh enough k (if enough (out.eraseIdx k) then out.eraseIdx k else out)):=ZV.o
   have WP:Hid (out.length<=9000):=ZT YM.o HL.o;have OI:Hid ((out.eraseIdx k).length=out.length - 1):=Li (by omega)
   have hk9:k+1<=9000:=ZT hk WP.o;clear ZV Xa;go_wp2_with fail
   refine (m4 out M2.o WP.o _ _ HO.o.arg).mono ?_;rintro e w2 ⟨y,rfl,hy,ZY⟩;have HY:Hid (ROwn w.heap.size w2 y out):=CZ ZW.o.size hy;have EL:=hI hy;have KE:Hid (ROwn w.heap.size w2 (.slice ao (List.length out) co) out):=YZ HO.o ZY;have Xu:=hI ZY;have ZI:=hI (ZW.o.trans (ZY.mono ZW.o.size));obtain⟨ay,cy,rfl⟩:=ZJ (show w2.ownsRow _ _ _ _ _ _ from hy)
   clear hy ZY;go_wp2_with fail
   refine (zQf out M2.o k (by omega) wr.heap.size _ _ EL.o).mono ?_
   rintro e w3 ⟨z,rfl,hz,ZG⟩;have HZ:Hid (ROwn w.heap.size w3 z (out.eraseIdx k)):=CZ ZW.o.size hz;have M3:=hI (Xu.o.trans ZG);have WL:Hid (ROwn w.heap.size w3 (.slice ao (List.length out) co) out):=YZ HO.o M3.o;have ZM:Hid (Bw w w3):=ZW.o.trans (M3.o.mono ZW.o.size);obtain⟨az,cz,rfl⟩:=ZJ (show w3.ownsRow _ _ _ _ _ _ from hz)
   have XR:Hid (Calls prog F (#[.slice az (out.eraseIdx k).length cz]++caps) w3 λe w''=>e=.returned (.bool (enough (out.eraseIdx k)))/\Bw w3 w''):=HF.o.2 _ _ _ (by have:=YM.o;have:=OI.o;omega) (λx hx=>Jg.o x (Iu hx)) ZM.o HZ.o.arg
   obtain⟨B,hB⟩:∃B,enough (out.eraseIdx k)=B:=⟨_,rfl⟩;rw[hB] at XR Yx;have Jf:Hid (∀x∈out.eraseIdx k,x∈l):=λx hx=>Jg.o x (Iu hx)
   obtain⟨E,hE⟩:∃E,out.eraseIdx k=E:=⟨_,rfl⟩;rw[hE] at XR Yx OI HZ Jf ⊢;have N4:Hid (E.length<=l.length):=by have:=YM.o;have:=OI.o;show _<=_;omega
   have uT:k<=E.length:=by have:=OI.o;omega
   clear hz ZG hB hE;go_wp2_with fail
   rw[HF.o.1,Oper.upon_enter];refine XR.o.mono ?_;rintro e w4 ⟨rfl,Zd⟩;have S_:Hid (ROwn w.heap.size w4 (.slice ao (List.length out) co) out):=YZ WL.o Zd;have uS:Hid (ROwn w.heap.size w4 (.slice az (List.length E) cz) E):=YZ HZ.o Zd;have Yp:=hI (ZM.o.trans (Zd.mono ZM.o.size));clear Zd;cases B
   ·have HN:Hid (R=Uh enough k out):=Yx.o
    clear Yx;go_wp2
    go_roundw
    case rel=>exact⟨out,k,rfl,by omega,YM,Jg,S_.o,HN,Yp.o⟩
    case measure=>simp[intOf]
   have HN:Hid (R=Uh enough k E):=Yx.o;clear Yx;go_wp2
   go_roundw
   case rel=>exact⟨E,k,rfl,uT,N4,Jf,uS.o,HN,Yp.o⟩
   case measure=>simp[intOf]
end Go.Proofs.YtndcpnlaadikoaaGreatDoor
