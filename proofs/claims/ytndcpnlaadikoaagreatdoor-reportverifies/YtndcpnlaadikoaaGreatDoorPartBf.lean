/- What the proof leans on, part 32. -/
import Derived.Test.YtndcpnlaadikoaaGreatDoorPartBe
set_option maxRecDepth 100000
set_option maxHeartbeats 3200000
open Go.Proofs.Tryz
namespace Go.Proofs.YtndcpnlaadikoaaGreatDoor
open Go.RowKit
def rngI (n:Nat):List Int:=(List.range n).map λ(k:Nat)=>(k:Int)
theorem sm (n:Nat):(rngI n).length=n:=by simp[rngI]
theorem zUy (n k:Nat) (h:k<n):(rngI n)[k]? = some (k:Int):=by simp[rngI,h]
def Ot (c:MCon) (v:Int):Bool:=(c.vars.any λz=>z==v) || (c.lits.any λl=>l.var==v)
def TC (n:Nat) (c:MCon):List Int:=(rngI n).filter (Ot c)
theorem jF {α:Type} (p:α->Bool) (l:List α) (i:Nat) (z:α) (h:l[i]? = some z):(l.take (i+1)).any p=((l.take i).any p || p z):=by
 rw[Y1,h];simp
theorem zQ3 (m:Mod) (c:MCon) (vs cs vv vc vr vl:Value) (w:World) (h6:m.vars.length<=6) (Y8:MArg w vs cs m) (hk:KArg w vv vc vr vl c) :
 Calls prog 156 #[modV vs cs m,conV vv vc vr vl c] w λe w'=>∃x,e=.returned x/\IArg w' x (TC m.vars.length c)/\Bw w w':=by
 have UD:Hid (∀w':World,Bw w w'->KArg w' vv vc vr vl c):=λw' h=>KArg.below h hk
 obtain⟨⟨a1,c1,rfl,Y0,_⟩,⟨a0,c0,rfl,_,_⟩⟩:=Y8;obtain⟨⟨a2,c2,rfl,Wk,_⟩,⟨a3,c3,rfl,Vk,_⟩,⟨a4,c4,rfl,hm4,_⟩,⟨a5,c5,rfl,hm5,_⟩⟩:=hk;unfold maxLen at Y0 Wk Vk hm4 hm5;obtain⟨Ql,Y0⟩:=Y0;obtain⟨Qi,Wk⟩:=Wk;obtain⟨Ns,Vk⟩:=Vk;obtain⟨OY,hm4⟩:=hm4;obtain⟨BN,hm5⟩:=hm5;obtain⟨i0,hi,Ze,Y_,Zb⟩:=info_parts Hl;unfold modV conV;go_enter func156,ntmps156
 go_wp2_with fail
 have Zt:Hid (Bw w ((w.alloc (.cells #[.slice a1 m.vars.length c1,.slice a0 m.cons.length c0,.int .i64 m.goal,.int .i64 m.var] 25)).alloc (.cells #[.int .i64 c.kind,.slice a2 c.vars.length c2,.slice a3 c.consts.length c3,.int .i64 c.n,.slice a4 c.rows.length c4,.slice a5 c.lits.length c5] 69))):=(Z4 _ _).trans ((Z4 _ _).mono (by simp))
 have XL:Hid (((w.alloc (.cells #[.slice a1 m.vars.length c1,.slice a0 m.cons.length c0,.int .i64 m.goal,.int .i64 m.var] 25)).alloc (.cells #[.int .i64 c.kind,.slice a2 c.vars.length c2,.slice a3 c.consts.length c3,.int .i64 c.n,.slice a4 c.rows.length c4,.slice a5 c.lits.length c5] 69)).heap[w.heap.size]? = some (.cells #[.slice a1 m.vars.length c1,.slice a0 m.cons.length c0,.int .i64 m.goal,.int .i64 m.var] 25)):=((Z4 _ _).block _ (by simp)).trans (heap_alloc_new _ _)
 have TG:Hid (((w.alloc (.cells #[.slice a1 m.vars.length c1,.slice a0 m.cons.length c0,.int .i64 m.goal,.int .i64 m.var] 25)).alloc (.cells #[.int .i64 c.kind,.slice a2 c.vars.length c2,.slice a3 c.consts.length c3,.int .i64 c.n,.slice a4 c.rows.length c4,.slice a5 c.lits.length c5] 69)).heap[w.heap.size+1]? = some (.cells #[.int .i64 c.kind,.slice a2 c.vars.length c2,.slice a3 c.consts.length c3,.int .i64 c.n,.slice a4 c.rows.length c4,.slice a5 c.lits.length c5] 69)):=by
  have h:=heap_alloc_new (w.alloc (.cells #[.slice a1 m.vars.length c1,.slice a0 m.cons.length c0,.int .i64 m.goal,.int .i64 m.var] 25)) (.cells #[.int .i64 c.kind,.slice a2 c.vars.length c2,.slice a3 c.consts.length c3,.int .i64 c.n,.slice a4 c.rows.length c4,.slice a5 c.lits.length c5] 69);rw[show (w.alloc (.cells #[.slice a1 m.vars.length c1,.slice a0 m.cons.length c0,.int .i64 m.goal,.int .i64 m.var] 25)).heap.size=w.heap.size+1 by simp] at h
  exact h
 obtain⟨W,hW⟩:∃W,(w.alloc (.cells #[.slice a1 m.vars.length c1,.slice a0 m.cons.length c0,.int .i64 m.goal,.int .i64 m.var] 25)).alloc (.cells #[.int .i64 c.kind,.slice a2 c.vars.length c2,.slice a3 c.consts.length c3,.int .i64 c.n,.slice a4 c.rows.length c4,.slice a5 c.lits.length c5] 69)=W:=⟨_,rfl⟩;rw[hW] at Zt XL TG ⊢;clear hW;have HC:Hid (∀Y,Bw W Y->w.heap.size+1<Y.heap.size/\Y.cell? ⟨w.heap.size,0,none⟩=some (.slice a1 m.vars.length c1)/\Y.cell? ⟨w.heap.size+1,1,none⟩=some (.slice a2 c.vars.length c2)/\Y.cell? ⟨w.heap.size+1,5,none⟩=some (.slice a5 c.lits.length c5)/\Bw w Y):=λY hY=>by
  have hN:=(hY.block _ (Z8.1 XL.o).1).trans XL.o;have hM:=(hY.block _ (Z8.1 TG.o).1).trans TG.o;exact⟨(Z8.1 hM).1,Z_ hN 0 _ rfl,Z_ hM 1 _ rfl,Z_ hM 5 _ rfl,Zt.o.trans (hY.mono Zt.o.size)⟩
 obtain⟨n,hn⟩:∃n,m.vars.length=n:=⟨_,rfl⟩;have R6:=hI hn;rw[hn] at h6 Ql HC ⊢;clear hn XL TG;go_loopw [5,6,7,8,9] (λo i _ _ _ wr=>∃k:Nat,k<=n/\i=.int .i64 k/\wr.ownsRow W.heap.size 3 1 o (((rngI n).take k).filter (Ot c)).length ((((rngI n).take k).filter (Ot c)).map (Value.int .i64))/\Bw W wr) (λ_ i _ _ _ _=>n - (intOf i).toNat)
 case atStart=>exact⟨0,by omega,rfl,ZH _ _ _ _,Z6 _ _⟩
 obtain⟨k,hk,rfl,Z9,Z3⟩:=hrel;obtain⟨acc,YX⟩:∃acc,((rngI n).take k).filter (Ot c)=acc:=⟨_,rfl⟩;have Uk:=hI YX;have OT:acc.length<=6:=by rw[<-YX];exact ZT (Tz _ _) (by rw[X_,sm];omega)
 rw[YX] at Z9;have Yo:=hI Z9;have ZW:=hI Z3;obtain⟨ao,co,Ki⟩:=ZJ Z9;subst Ki;obtain⟨l0,q0,q1,q5,Ug⟩:=HC.o _ Z3;have Y7:=hI Ug;clear YX Z3 Ug;by_cases Z7:k<n
 ·have XA:Hid (((rngI n).take (k+1)).filter (Ot c)=acc++if Ot c (k:Int) then [(k:Int)] else []):=by show _=_;rw[<-Uk.o];exact zd _ _ k _ (zUy n k Z7)
  have Jw:Hid (∀(i:Nat) (z:Int),c.vars[i]? = some z->∃b off,a2=some ⟨b,off,none⟩/\b<wr.heap.size/\wr.cell? ⟨b,off+i,none⟩=some (.int .i64 z)):=λi z h=>by
   obtain⟨_,_,Vt,_,VR⟩:=(UD.o _ Y7.o).1;cases Vt
   exact VR i z h
  have sl:Hid (∀(i:Nat) (t:MLit),c.lits[i]? = some t->∃b off,a5=some ⟨b,off,none⟩/\b<wr.heap.size/\wr.cell? ⟨b,off+i * 3,none⟩=some (.int .i64 t.var)):=λi t h=>by
   obtain⟨b,off,h1,h2,h3,_⟩:=LArg.nth (UD.o _ Y7.o).2.2.2 i t h;exact⟨b,off,h1,h2,h3⟩
  clear Z9;obtain⟨wx,jE⟩:∃wx:World,wx=wr:=⟨_,rfl⟩;go_wp2_with fail
  rw[<-jE] at Yo ZW Y7 Jw sl l0 q0 q1 q5 ⊢;clear jE;go_loopw [7,8] (λis i wr=>∃(j:Nat) (B:Bool),j<=c.vars.length/\i=.int .i64 j/\is=.bool B/\Hid (B=(c.vars.take j).any λz=>z==(k:Int))/\wr=wx) (λ_ i _=>c.vars.length - (intOf i).toNat)
  case atStart=>exact⟨0,false,by omega,rfl,rfl,rfl,rfl⟩
  obtain⟨j,B,hj,rfl,rfl,hB,rfl⟩:=hrel;by_cases T3:j<c.vars.length
  ·obtain⟨z,hz⟩:∃z,c.vars[j]? = some z:=⟨c.vars[j],by simp[T3]⟩
   obtain⟨b,off,hb,YF,hc⟩:=Jw.o j z hz;subst hb;have HT:Hid (((c.vars.take (j+1)).any λz=>z==(k:Int))=(B || (z==(k:Int)))):=by show _=_;rw[jF _ _ _ _ hz,<-hB.o]
   clear hz hB;cases B
   ·cases hq:(z==(k:Int))
    all_goals
     rw[hq] at HT;go_wp2
     go_roundw
     case rel=>exact⟨j+1,_,by omega,by go_num,rfl,HT.o.symm,trivial⟩
     case measure=>simp[intOf];omega
   go_wp2
   go_roundw
   case rel=>exact⟨j+1,true,by omega,by go_num,rfl,by show _=_;rw[HT.o];rfl,trivial⟩
   case measure=>simp[intOf];omega
  have ZU:Hid (B=c.vars.any λz=>z==(k:Int)):=by show _=_;rw[hB.o,Zi (by omega)]
  clear hB;obtain⟨wr0,BK⟩:∃wr0:World,wr0=wr:=⟨_,rfl⟩;go_wp2_with fail
  rw[<-BK] at Yo ZW Y7 Jw sl l0 q0 q1 q5 ⊢;clear BK;go_loopw [7,9] (λis i wr=>∃(j:Nat) (A:Bool),j<=c.lits.length/\i=.int .i64 j/\is=.bool A/\Hid (A=(B || (c.lits.take j).any λl=>l.var==(k:Int)))/\wr=wr0) (λ_ i _=>c.lits.length - (intOf i).toNat)
  case atStart=>exact⟨0,B,by omega,rfl,rfl,by show _=_;simp,rfl⟩
  obtain⟨j2,A,yv,rfl,rfl,hA,rfl⟩:=hrel;by_cases sj:j2<c.lits.length
  ·obtain⟨z,hz⟩:∃z,c.lits[j2]? = some z:=⟨c.lits[j2],by simp[sj]⟩
   obtain⟨b,off,hb,YF,hc⟩:=sl.o j2 z hz;subst hb;have HT:Hid ((B || (c.lits.take (j2+1)).any λl=>l.var==(k:Int))=(A || (z.var==(k:Int)))):=by show _=_;rw[jF _ _ _ _ hz,hA.o,Bool.or_assoc]
   clear hz hA;cases A
   ·cases hq:(z.var==(k:Int))
    all_goals
     rw[hq] at HT;go_wp2
     go_roundw
     case rel=>exact⟨j2+1,_,by omega,by go_num,rfl,HT.o.symm,trivial⟩
     case measure=>simp[intOf];omega
   go_wp2
   go_roundw
   case rel=>exact⟨j2+1,true,by omega,by go_num,rfl,by show _=_;rw[HT.o];rfl,trivial⟩
   case measure=>simp[intOf];omega
  have Uy:Hid (A=Ot c (k:Int)):=by show _=_;rw[hA.o,ZU.o,Zi (by omega)];rfl
  clear hA;rw[<-Uy.o] at XA;have Z9:=Yo.o;cases A
  ·have TX:Hid (((rngI n).take (k+1)).filter (Ot c)=acc):=by show _=_;rw[XA.o];simp
   clear XA Uy Z9;go_wp2
   go_roundw
   case rel=>exact⟨k+1,by omega,by go_num,by rw[TX.o];exact Yo.o,ZW.o⟩
   case measure=>simp[intOf];omega
  have TX:Hid (((rngI n).take (k+1)).filter (Ot c)=acc++[(k:Int)]):=by show _=_;rw[XA.o];simp
  clear XA Uy;go_wp2_with (at_builtin;refine wpList_append_own _ rfl _ _ 42 rfl W.heap.size 3 i0 (.int .i64 0) 1 8 underlying42 hi Ze Y_ Zb rfl (by decide) _ _ _ rfl (Z9.alloc _) ⟨wr.heap.size,0,none⟩ 1 1 [.int .i64 (k:Int)] rfl rfl ?c1 ?c2 ?c3 ?c4 ?c5 ?_)
  case c1=>exact Jk wr (k:Int)
  case c2=>intro u hu;rcases Zh.1 hu with rfl;rfl
  case c3=>unfold maxLen;omega
  case c4=>omega
  case c5=>have:=ZW.o.size;simp;omega
  intro v3 w3 ZX Z1 _;have WL:Hid (w3.ownsRow W.heap.size 3 1 v3 (((rngI n).take (k+1)).filter (Ot c)).length ((((rngI n).take (k+1)).filter (Ot c)).map (Value.int .i64))):=by
   show w3.ownsRow _ _ _ _ _ _;rw[TX.o,ZC,YY];exact ZX
  have ZM:Hid (Bw W w3):=(ZW.o.alloc ZW.o.size _).grown Z1 (by have:=ZW.o.size;simp;omega) (λg h=>(Z9.lt g h).1)
  clear ZX Z1 Z9;go_wp2
  go_roundw
  case rel=>exact⟨k+1,by omega,by go_num,WL.o,ZM.o⟩
  case measure=>simp[intOf];omega
 have HF:Hid (IArg wr (.slice ao acc.length co) (TC n c)/\Bw w wr):=by
  refine⟨?_,Y7.o⟩;have:acc=TC n c:=by rw[<-Uk.o,Zi (by rw[sm];omega)];rfl
  rw[<-this];exact JA Yo.o
 clear Z9;go_wp2
 go_ret
 exact⟨.slice ao acc.length co,rfl,by rw[R6.o];exact HF.o.1,HF.o.2⟩
theorem RArg.at {w:World} {a:Option Addr} {n c:Nat} {l:List (List Int)} (h:RArg w (.slice a n c) l) (i:Nat) (r:List Int) (hr:l[i]? = some r):∃b off x,a=some ⟨b,off,none⟩/\b<w.heap.size/\w.cell? ⟨b,off+i,none⟩=some x/\IArg w x r:=by
 obtain⟨a',c',hv,_,hh⟩:=h;cases hv
 exact hh i r hr
def chN (s:Sto):List Int->List Int->Nat->List Int×Nat
 | [],vals,n=>(vals,n)
 | v :: r,vals,n=>chN s r (vals.set v.toNat ((s.getD v.toNat []).getD (n % (s.getD v.toNat []).length) 0)) (n / (s.getD v.toNat []).length)
theorem zUz (s:Sto) (vars vals:List Int) (n k y:Nat) (r:List Int) (z:Int) (hy:vars[k]? = some (y:Int)) (hr:s[y]? = some r) (hz:r[n % r.length]? = some z) :
 chN s (vars.drop k) vals n=chN s (vars.drop (k+1)) (vals.set y z) (n / r.length):=by
 have hk:=(ZN.1 hy).1;have e:vars[k]=(y:Int):=by rw[ZA hk] at hy;exact Zl hy
 have hd:List.getD s y []=r:=by rw[ZO,hr];rfl
 have hw:r.getD (n % r.length) 0=z:=by rw[ZO,hz];rfl
 have h:chN s ((y:Int) :: vars.drop (k+1)) vals n=chN s (vars.drop (k+1)) (vals.set (y:Int).toNat ((s.getD (y:Int).toNat []).getD (n % (s.getD (y:Int).toNat []).length) 0)) (n / (s.getD (y:Int).toNat []).length):=rfl;rw[Yc hk,e,h,YK,hd,hw]
theorem zQ4 (s:Sto) (vars vals:List Int) (n V cap:Nat) (sv vv:Value) (W w:World) (hs:RArg W sv s) (hv:IArg W vv vars) (hB:Bw W w)
 (ZS:w.ownsRow W.heap.size 3 1 (.slice (some ⟨V,0,none⟩) s.length cap) s.length (vals.map (Value.int .i64))) (VO:∀x∈vars,0<=x/\x<(s.length:Int)) (ZP:∀r∈s,r≠[]) (hn:n<=1000000000) :
 Calls prog 158 #[sv,vv,.slice (some ⟨V,0,none⟩) s.length cap,.int .i64 (n:Int)] w λe w'=>e=.returned (.bool ((chN s vars vals n).2==0)) /\
  w'.ownsRow W.heap.size 3 1 (.slice (some ⟨V,0,none⟩) s.length cap) s.length ((chN s vars vals n).1.map (Value.int .i64))/\Fr (λk=>k=V) w w':=by
 have HS:=hI hs;have HV:=hI hv;obtain⟨a1,c1,rfl,Y0,_⟩:=hs;obtain⟨a2,c2,rfl,Wk,_⟩:=hv;unfold maxLen at Y0 Wk;obtain⟨Ql,Y0⟩:=Y0;obtain⟨Qi,Wk⟩:=Wk;obtain⟨R,hR⟩:∃R,chN s vars vals n=R:=⟨_,rfl⟩;rw[hR];have HR:Hid (chN s (vars.drop 0) vals n=R):=hR;have HB:=hI hB;have SB:Hid (W.heap.size<=V):=(ZS.lt V rfl).1;have OH:=hI ZS;have Pi:=hI VO;have Vx:=hI ZP;clear hR hB ZS VO ZP;go_enter func158,ntmps158
 go_wp2_with fail
 go_loopw [3,9,10] (λnv i _ wr=>∃(k q:Nat) (vs:List Int),k<=vars.length/\q<=1000000000/\i=.int .i64 k/\nv=.int .i64 q/\Hid (chN s (vars.drop k) vs q=R) /\
  wr.ownsRow W.heap.size 3 1 (.slice (some ⟨V,0,none⟩) s.length cap) s.length (vs.map (Value.int .i64))/\Fr (λk=>k=V) w wr) (λ_ i _ _=>vars.length - (intOf i).toNat)
 case atStart=>exact⟨0,n,vals,by omega,hn,rfl,rfl,HR,OH.o,Fr.refl _ _⟩
 obtain⟨k,q,vs,hk,hq,rfl,rfl,F5,ZS,Z'⟩:=hrel;have Wp:=hI ZS;have VK:=hI Z'
 have HC:Hid (∀p:Addr,p.block<W.heap.size->p.block<wr.heap.size/\wr.cell? p=W.cell? p):=λp hp=>by
  have h1:p.block<w.heap.size:=ZQ hp HB.o.size;have:=SB.o;exact⟨ZQ h1 VK.o.size,(VK.o.cell h1 (by omega)).trans (HB.o.cell hp)⟩
 clear Z';by_cases Z7:k<vars.length
 ·obtain⟨x,hx⟩:∃x,vars[k]? = some x:=⟨vars[k],by simp[Z7]⟩
  obtain⟨TK,Rf⟩:=Pi.o x (Zz hx);obtain⟨y,rfl⟩:∃y:Nat,x=(y:Int):=⟨x.toNat,by omega⟩
  have IL:y<s.length:=by omega
  obtain⟨r,hr⟩:∃r,s[y]? = some r:=⟨s[y],by simp[IL]⟩
  have QO:0<r.length:=by
   have:=Vx.o r (Zz hr);exact Ny.2 this
  obtain⟨p,hp⟩:∃p,q % r.length=p:=⟨_,rfl⟩;have Pp:p<r.length:=by rw[<-hp];exact Nat.mod_lt _ QO
  obtain⟨d,hd⟩:∃d,q / r.length=d:=⟨_,rfl⟩;have hdq:d<=q:=by rw[<-hd];exact Nat.div_le_self _ _
  obtain⟨z,hz⟩:∃z,r[p]? = some z:=⟨r[p],by simp[Pp]⟩
  have HN:Hid (chN s (vars.drop (k+1)) (vs.set y z) d=R):=by
   have h:=zUz s vars vs q k y r z hx hr (by rw[hp];exact hz)
   rw[hd] at h;exact h.symm.trans F5.o
  have h3:(q:Int).tdiv (r.length:Int)=(d:Int):=by rw[<-hd];rfl
  have h4:(q:Int).tmod (r.length:Int)=(p:Int):=by rw[<-hp];rfl
  have h0:((r.length:Int)==0)=false:=by simp only[beq_eq_false_iff_ne,ne_eq];omega
  have E0:¬((r.length:Int)=0):=by omega
  have h0a:¬(r=[]):=λh=>by rw[h] at QO;simp at QO
  have h0b:¬(r.length=0):=by omega
  have h0c:¬((r.length:Int)=-1):=by omega
  have h0d:((r.length:Int)==-1)=false:=by simp only[beq_eq_false_iff_ne,ne_eq];omega
  obtain⟨_,_,WT,_,Yq⟩:=HV.o;cases WT
  obtain⟨b2,o2,ZY,Sp,e2⟩:=Yq k _ hx;subst ZY;obtain⟨b1,o1,xv,Z5,F7,e1,si⟩:=RArg.at HS.o y r hr;subst Z5;obtain⟨a5,c5,rfl,hm5,Ng⟩:=si;obtain⟨b5,o5,Yd,BJ,e5⟩:=Ng p z hz;subst Yd;unfold maxLen at hm5;obtain⟨BN,hm5⟩:=hm5;obtain⟨l2,f2⟩:=HC.o ⟨b2,o2+k,none⟩ Sp;obtain⟨l1,f1⟩:=HC.o ⟨b1,o1+y,none⟩ F7;obtain⟨l5,f5⟩:=HC.o ⟨b5,o5+p,none⟩ BJ;rw[e2] at f2;rw[e1] at f1;rw[e5] at f5;have X8:vs.length=s.length:=by have:=ZS.1;simpa using this
  have EO:wr.frozen? ⟨V,y,none⟩=false:=ZS.frozenAt y;have lV:V<wr.heap.size:=(ZS.lt V rfl).2;obtain⟨z0,Ze⟩:∃z0,vs[y]? = some z0:=⟨vs[y]'(by omega),by rw[ZA (by omega)]⟩
  have XN:wr.cell? ⟨V,y,none⟩=some (.int .i64 z0):=by rw[ZS.cellAt y (by omega),YN,Ze];rfl
  have Yx:Hid (((wr.setCell ⟨V,y,none⟩ (.int .i64 z)).drew).ownsRow W.heap.size 3 1 (.slice (some ⟨V,0,none⟩) s.length cap) s.length ((vs.set y z).map (Value.int .i64))/\Fr (λk=>k=V) w ((wr.setCell ⟨V,y,none⟩ (.int .i64 z)).drew)):=by
   refine⟨?_,(VK.o.setX (p:=⟨V,y,none⟩) rfl _).trans (Fr.below (Z6 _ _).drew)⟩;have h:=(Wp.o.stored y (.int .i64 z)).1;rw[<-List.map_set] at h;exact YZ h (Z6 _ _).drew
  clear hx hr hz hp hd Ze Yq Ng e1 e2 e5 F7 Sp BJ ZS F5 X8;go_wp2_with fail
  go_cut [] (λwx=>Hid (wx.ownsRow W.heap.size 3 1 (.slice (some ⟨V,0,none⟩) s.length cap) s.length ((vs.set y z).map (Value.int .i64))/\Fr (λk=>k=V) w wx))
  case first =>
   go_region_law (fail)
   all_goals (go_wp2_with fail;go_meet)
   all_goals exact Yx.o
  have ZK:=hI hcut
  clear hcut Yx f1 f2 f5 l1 l2 l5 XN EO lV;go_wp2
  go_roundw
  case rel=>exact⟨k+1,d,vs.set y z,by omega,by omega,by go_num,rfl,HN,ZK.o.1,ZK.o.2⟩
  case measure=>simp[intOf];omega
 have HE:Hid (R=(vs,q)):=by show _=_;rw[<-F5.o,QA (by omega)];rfl
 clear ZS F5;cases h0:((q:Int)==0)
 all_goals
  go_wp2
  go_ret
  refine⟨?_,by rw[HE.o];exact Wp.o,VK.o⟩
  rw[HE.o];simp at h0;simp[h0]
def F4 (x y:MLit):Bool:=y.var==x.var&&y.op==x.op&&y.n==x.n
def hasT (l:List MLit) (x:MLit):Bool:=l.any (F4 x)
theorem sg (x y:MLit):F4 x y=true↔y=x:=by
 obtain⟨a,b,c⟩:=x;obtain⟨d,e,f⟩:=y;simp[F4];exact and_assoc
theorem jD (l:List MLit) (x:MLit):hasT l x=true↔x∈l:=by
 unfold hasT;rw[Yh]
 constructor
 ·rintro ⟨y,hy,h⟩
  rw[(sg x y).1 h] at hy;exact hy
 intro h;exact⟨x,h,(sg x x).2 rfl⟩
theorem jC (l:List MLit) (x:MLit) (v:Value) (w:World) (hv:LArg w v l) :
 Calls prog 159 #[v,.agg #[.int .i64 x.var,.int .i64 x.op,.int .i64 x.n]] w λe w'=>e=.returned (.bool (hasT l x))/\Bw w w':=by
 have HA:=hI hv;obtain⟨a,c,rfl,hm,_⟩:=hv;unfold maxLen at hm;obtain⟨Y0,hm⟩:=hm;obtain⟨R,hR⟩:∃R,hasT l x=R:=⟨_,rfl⟩;rw[hR];have HR:Hid (l.any (F4 x)=R):=hR;clear hR;obtain⟨x0,x1,x2⟩:=x
 dsimp only
 go_enter func159,ntmps159
 go_wp2_with fail
 have hB:Bw w (w.alloc (.cells #[.int .i64 x0,.int .i64 x1,.int .i64 x2] 76)):=Z4 _ _;have k0:(w.alloc (.cells #[.int .i64 x0,.int .i64 x1,.int .i64 x2] 76)).cell? ⟨w.heap.size,0,none⟩=some (.int .i64 x0):=Zu _ _ _ 0 (by simp)
 have k1:(w.alloc (.cells #[.int .i64 x0,.int .i64 x1,.int .i64 x2] 76)).cell? ⟨w.heap.size,1,none⟩=some (.int .i64 x1):=Zu _ _ _ 1 (by simp)
 have k2:(w.alloc (.cells #[.int .i64 x0,.int .i64 x1,.int .i64 x2] 76)).cell? ⟨w.heap.size,2,none⟩=some (.int .i64 x2):=Zu _ _ _ 2 (by simp)
 have hz:w.heap.size<(w.alloc (.cells #[.int .i64 x0,.int .i64 x1,.int .i64 x2] 76)).heap.size:=by simp
 generalize w.alloc (.cells #[.int .i64 x0,.int .i64 x1,.int .i64 x2] 76)=W at hB k0 k1 k2 hz ⊢
 replace HA:Hid (LArg W (.slice a l.length c) l):=HA.o.below hB
 have HB:=hI hB;clear hB;go_loopw [5] (λi wr=>∃m:Nat,m<=l.length/\i=.int .i64 m/\Hid ((l.take m).any (F4 ⟨x0,x1,x2⟩)=false)/\∃n,wr=W.drewN n) (λi _=>l.length - (intOf i).toNat)
 case atStart=>exact⟨0,by omega,rfl,rfl,0,rfl⟩
 obtain⟨m,Uo,rfl,hall,nq,rfl⟩:=hrel;by_cases Z7:m<l.length
 ·obtain⟨y,hy⟩:∃y,l[m]? = some y:=⟨l[m],by simp[Z7]⟩
  obtain⟨b,off,rfl,hb,h0,h1,h2⟩:=LArg.nth HA.o m y hy;have HY:=hI hy;clear hy;cases hq:F4 ⟨x0,x1,x2⟩ y
  ·have HN:Hid ((l.take (m+1)).any (F4 ⟨x0,x1,x2⟩)=false):=vH _ l m y HY.o hall.o hq
   obtain⟨y0,y1,y2⟩:=y;simp only at h0 h1 h2;by_cases q1:y0=x0
   ·subst q1
    by_cases q2:y1=x1
    ·subst q2
     have q3:(y2==x2)=false:=by simpa[F4] using hq
     clear hq;go_wp2_with fail
     go_quiet (fail)
     go_wp2
     go_roundw
     case rel=>exact⟨m+1,by omega,by go_num,HN,_,rfl⟩
     case measure=>simp[intOf];omega
    have q2':(y1==x1)=false:=by simpa using q2
    clear hq;go_wp2_with fail
    go_quiet (fail)
    go_wp2
    go_roundw
    case rel=>exact⟨m+1,by omega,by go_num,HN,_,rfl⟩
    case measure=>simp[intOf];omega
   have q1':(y0==x0)=false:=by simpa using q1
   clear hq;go_wp2_with fail
   go_quiet (fail)
   go_wp2
   go_roundw
   case rel=>exact⟨m+1,by omega,by go_num,HN,_,rfl⟩
   case measure=>simp[intOf];omega
  have HN:Hid (R=true):=by rw[<-HR.o];exact vI _ l m y HY.o hq
  rw[sg] at hq;subst hq;go_wp2
  go_quiet (fail)
  go_wp2
  go_ret
  exact⟨ZD HN.o.symm,below_drewN (below_drewN HB.o _) _⟩
 have HN:Hid (R=false):=by rw[<-HR.o];exact vG _ l m Z7 hall.o
 go_wp2
 go_ret
 exact⟨ZD HN.o.symm,below_drewN HB.o _⟩
def R3 (s:Sto):List Int->Nat
 | []=>1
 | v :: r=>(s.getD v.toNat []).length * R3 s r
theorem jB (s:Sto):∀(scope vals:List Int) (n:Nat),(chN s scope vals n).2=n / R3 s scope
 | [],vals,n=>by simp[chN,R3]
 | v :: r,vals,n=>by
   unfold chN R3;rw[jB s r,Nat.div_div_eq_div_mul]
theorem jA (s:Sto):∀(scope vals:List Int) (n:Nat),(chN s scope vals n).1.length=vals.length
 | [],vals,n=>rfl
 | v :: r,vals,n=>by
   unfold chN;rw[jA s r,Nu]
theorem jz (s:Sto):∀(scope vals:List Int) (n w:Nat),(∀v∈scope,v.toNat≠w)->(chN s scope vals n).1[w]? = vals[w]?
 | [],vals,n,w,_=>rfl
 | v :: r,vals,n,w,h=>by
   unfold chN;rw[jz s r _ _ w (λv' hv=>h v' (Y2 _ hv)),WE (h v (Zk ..))]
theorem jy (s:Sto):∀(scope a b:List Int) (n:Nat),a.length=b.length->(∀w:Nat,(∀v∈scope,v.toNat≠w)->a[w]? = b[w]?)->(chN s scope a n).1=(chN s scope b n).1
 | [],a,b,n,_,h=>RS λw=>h w (λv hv=>by cases hv)
 | v :: r,a,b,n,hl,h=>by
   unfold chN;refine jy s r _ _ _ (by simp[hl]) λw hw=>?_
   by_cases he:v.toNat=w
   ·subst he
    simp[List.getElem?_set,hl]
   rw[WE he,WE he];exact h w λv' hv=>by
    rcases YJ.1 hv with rfl | hv
    ·exact he
    exact hw v' hv
theorem jx (s:Sto):∀(scope:List Int),(∀v∈scope,s.getD v.toNat []≠[])->0<R3 s scope
 | [],_=>by simp[R3]
 | v :: r,h=>by
   unfold R3;exact Nat.mul_pos (Ny.2 (h v (Zk ..))) (jx s r λv' hv=>h v' (Y2 _ hv))
theorem jw (s:Sto):∀(scope vals:List Int) (n:Nat),(∀v∈scope,s.getD v.toNat []≠[])->(chN s scope vals n).1∈S9 s scope vals
 | [],vals,n,_=>by simp[chN,S9]
 | v :: r,vals,n,h=>by
   unfold chN S9;refine UV.2 ⟨_,?_,jw s r _ _ λv' hv=>h v' (Y2 _ hv)⟩
   have h0:=Ny.2 (h v (Zk ..));have h1:=Nat.mod_lt n h0;generalize List.getD s v.toNat []=row at h1;rw[ZO,ZA h1];exact Qs h1
theorem jv (s:Sto):∀(scope vals u:List Int),u∈S9 s scope vals->∃n,n<R3 s scope/\(chN s scope vals n).1=u
 | [],vals,u,h=>by
   simp only[S9,Zh] at h;exact⟨0,by simp[R3],h.symm⟩
 | v :: r,vals,u,h=>by
   unfold S9 at h;obtain⟨x,hx,hu⟩:=UV.1 h;obtain⟨n,hn,he⟩:=jv s r _ u hu;obtain⟨i,hi,si⟩:=Lb hx;have h0:0<(List.getD s v.toNat []).length:=by omega
   refine⟨i+(List.getD s v.toNat []).length * n,?_,?_⟩
   ·unfold R3
    have h2:(List.getD s v.toNat []).length * (n+1)<=(List.getD s v.toNat []).length * R3 s r:=Nat.mul_le_mul_left _ hn;rw[Nat.mul_add,Nat.mul_one] at h2;omega
   unfold chN;rw[Nat.add_mul_mod_self_left,Nat.mod_eq_of_lt hi,Nat.add_mul_div_left _ _ h0,Nat.div_eq_of_lt hi,Zn,ZO (l:=List.getD s v.toNat []),ZA hi,RQ,si];exact he
def uN (s:Sto) (scope:List Int) (n:Nat):List Int:=(chN s scope (XM s.length) n).1
theorem zQ5 (c:MCon) (s:Sto) (scope:List Int) (TP:∀v,v∈scope↔v∈YC c) (XV:∀v∈YC c,0<=v/\v<s.length) (hl:c.kind=10->c.lits≠[]) (k:Nat) (z:Int) :
 (∃u∈S9 s scope (XM s.length),YL c u=true/\Zx u (k:Int)=z)/\(k:Int)∈scope↔Part c s k z/\(k:Int)∈scope:=by
 have hb:∀v∈scope,v.toNat<(XM s.length).length:=λv hv=>by
  have:=XV v ((TP v).1 hv);simp only[XM,List.length_replicate];omega
 constructor
 ·rintro ⟨⟨u,hu,hh,hz⟩,hk⟩
  refine⟨⟨u,by rw[wF s _ _ u hu];simp[XM],λv hv=>?_,hh,hz⟩,hk⟩
  obtain⟨v',_,he,hm⟩:=wE s _ _ u hb hu v ((TP v).2 hv);rw[<-he];exact hm
 rintro ⟨⟨u,H8,hu,hh,hz⟩,hk⟩
 let u':List Int:=(List.range s.length).map λ(i:Nat)=>if (i:Int)∈scope then Zx u (i:Int) else 0
 have H7:u'.length=s.length:=by simp[u']
 have VI:∀v∈scope,Zx u' v=Zx u v:=λv hv=>by
  obtain⟨h0,h1⟩:=XV v ((TP v).1 hv);obtain⟨i,rfl⟩:∃i:Nat,v=(i:Int):=⟨v.toNat,by omega⟩
  have hi:i<s.length:=by omega
  unfold Zx;rw[ZO];simp only[u',YK,YN,Qy hi,Nx,RQ,if_pos hv];rfl
 refine⟨⟨u',wC s _ _ u' hb (by rw[H7];simp[XM]) (λv hv=>by rw[VI v hv];exact hu v ((TP v).1 hv)) (λw hw=>?_),?_,by rw[VI _ hk];exact hz⟩,hk⟩
 ·by_cases Oc:w<s.length
  ·rw[o6 _ _ Oc]
   simp only[u',YN,Qy Oc,Nx];rw[if_neg (λh=>hw _ h (by simp))]
  rw[V7 (by omega),V7 (by simp[XM];omega)]
 rw[E7 c u' u (λv hv=>VI v ((TP v).2 hv)) hl];exact hh
def Ls (c:MCon) (s:Sto) (scope:List Int) (n:Nat) (met:List MLit):Prop :=
 ∀(k z:Int),(⟨k,0,z⟩:MLit)∈met↔∃i,i<n/\YL c (uN s scope i)=true/\k∈scope/\Zx (uN s scope i) k=z
theorem sf (n:Nat) (c:MCon) (XV:∀v∈YC c,0<=v/\v<(n:Int)) (v:Int):v∈TC n c↔v∈YC c:=by
 have hB:Ot c v=true↔v∈Tr c:=by
  unfold Ot Tr;simp
 unfold TC;rw[WC,hB,<-Am]
 constructor
 ·exact λh=>h.2
 intro h;obtain⟨h0,h1⟩:=XV v h;exact⟨Zj.2 ⟨v.toNat,W6.2 (by omega),by omega⟩,h⟩
theorem zWP (c:MCon) (s:Sto) (hf:zAI s=false) (XV:∀v∈YC c,0<=v/\v<s.length) (hl:c.kind=10->c.lits≠[]) (met:List MLit) (hm:Ls c s (TC s.length c) (R3 s (TC s.length c)) met)
 (ZP:∀v∈TC s.length c,s.getD v.toNat []≠[]) (k:Nat) (z:Int) (hk:(k:Int)∈TC s.length c):hasT met ⟨(k:Int),0,z⟩=Nf c s k z:=by
 have TP:=sf s.length c XV;rw[wA c s hf k z ((TP _).1 hk)];rw[Yg,jD,wB c s XV hl k z ((TP _).1 hk),hm];have h:=zQ5 c s _ TP XV hl k z
 constructor
 ·rintro ⟨i,_,hh,_,hz⟩
  exact (h.1 ⟨⟨_,jw s _ _ i ZP,hh,hz⟩,hk⟩).1
 intro hp;obtain⟨⟨u,hu,hh,hz⟩,_⟩:=h.2 ⟨hp,hk⟩;obtain⟨i,hi,he⟩:=jv s _ _ u hu;have Qo:uN s (TC s.length c) i=u:=he;exact⟨i,hi,by rw[Qo];exact hh,hk,by rw[Qo];exact hz⟩
theorem zQ6 (c:MCon) (s:Sto) (scope:List Int):Ls c s scope 0 []:=λk z=>by
 constructor
 ·intro h;cases h
 rintro ⟨i,hi,_⟩;omega
theorem zQ7 {c:MCon} {s:Sto} {scope:List Int} {n:Nat} {met:List MLit} (h:Ls c s scope n met) (hh:YL c (uN s scope n)=false):Ls c s scope (n+1) met:=λk z=>by
 rw[h k z]
 constructor
 ·rintro ⟨i,hi,r⟩;exact⟨i,by omega,r⟩
 rintro ⟨i,hi,r1,r2⟩;by_cases he:i=n
 ·subst he;rw[hh] at r1;cases r1
 exact⟨i,by omega,r1,r2⟩
def MetI (c:MCon) (s:Sto) (scope:List Int) (n j:Nat) (met:List MLit):Prop :=
 ∀(k z:Int),(⟨k,0,z⟩:MLit)∈met↔(∃i,i<n/\YL c (uN s scope i)=true/\k∈scope/\Zx (uN s scope i) k=z)∨(k∈scope.take j/\Zx (uN s scope n) k=z)
theorem zQ8 {c:MCon} {s:Sto} {scope:List Int} {n:Nat} {met:List MLit} (h:Ls c s scope n met):MetI c s scope n 0 met:=λk z=>by
 rw[h k z];simp
theorem zU0 {c:MCon} {s:Sto} {scope:List Int} {n j:Nat} {met:List MLit} (h:MetI c s scope n j met) (v:Int) (hv:scope[j]? = some v) (hh:hasT met ⟨v,0,Zx (uN s scope n) v⟩=true):MetI c s scope n (j+1) met:=λk z=>by
 rw[h k z,Y1,hv];rw[jD,h v _] at hh
 constructor
 ·rintro (r | ⟨r1,r2⟩)
  ·exact .inl r
  exact .inr ⟨Lf _ r1,r2⟩
 rintro (r | ⟨r1,r2⟩)
 ·exact .inl r
 rcases Xn.1 r1 with r1 | r1
 ·exact .inr ⟨r1,r2⟩
 have:k=v:=by simpa using r1
 subst this;rw[<-r2];exact hh
theorem zU1 {c:MCon} {s:Sto} {scope:List Int} {n j:Nat} {met:List MLit} (h:MetI c s scope n j met) (v:Int) (hv:scope[j]? = some v):MetI c s scope n (j+1) (met++[⟨v,0,Zx (uN s scope n) v⟩]):=λk z=>by
 rw[Xn,h k z,Y1,hv,Zh]
 constructor
 ·rintro ((r | ⟨r1,r2⟩) | r)
  ·exact .inl r
  ·exact .inr ⟨Lf _ r1,r2⟩
  have h1:k=v:=congrArg MLit.var r;have h2:z=Zx (uN s scope n) v:=congrArg MLit.n r;exact .inr ⟨List.mem_append_right _ (by simp[h1]),by rw[h1,h2]⟩
 rintro (r | ⟨r1,r2⟩)
 ·exact .inl (.inl r)
 rcases Xn.1 r1 with r1 | r1
 ·exact .inl (.inr ⟨r1,r2⟩)
 have:k=v:=by simpa using r1
 subst this;exact .inr (by rw[r2])
theorem zU2 {c:MCon} {s:Sto} {scope:List Int} {n:Nat} {met:List MLit} (h:MetI c s scope n scope.length met) (hh:YL c (uN s scope n)=true):Ls c s scope (n+1) met:=λk z=>by
 rw[h k z,Qv]
 constructor
 ·rintro (⟨i,hi,r⟩ | ⟨r1,r2⟩)
  ·exact⟨i,by omega,r⟩
  exact⟨n,by omega,hh,r1,r2⟩
 rintro ⟨i,hi,r1,r2,r3⟩;by_cases he:i=n
 ·subst he;exact .inr ⟨r2,r3⟩
 exact .inl ⟨i,by omega,r1,r2,r3⟩
theorem ju (s:Sto) (h:∀r∈s,r.length<=6):∀scope:List Int,R3 s scope<=6 ^ scope.length
 | []=>by simp[R3]
 | v :: r=>by
   unfold R3;have h1:(s.getD v.toNat []).length<=6:=by
    rw[ZO];cases hg:s[v.toNat]? with
    | none=>simp
    | some x=>exact h x (Zz hg)
   rw[Xe,Nat.pow_succ,Nat.mul_comm (6 ^ r.length)];exact Nat.mul_le_mul h1 (ju s h r)
theorem jt (s:Sto) (p:Nat->Int->Bool) (h:∀k z,p k z=true):V0 s p=s:=by
 apply RS;intro k;cases hg:s[k]? with
 | none=>rw[O7] at hg ⊢;rw[Vs];exact hg
 | some r=>rw[K0 s p k r hg,Lc.2 (λz _=>h k z)]
theorem zWQ (s:Sto) (p:Nat->Int->Bool) (h:∀k z,p k z=false):V0 s p=S3 s.length:=by
 apply RS;intro k;unfold S3;cases hg:s[k]? with
 | none =>
   rw[O7] at hg;rw[O7.2 (by rw[Vs];exact hg),O7.2 (by simpa using hg)]
 | some r =>
   have hk:=(ZN.1 hg).1;rw[K0 s p k r hg,O6,if_pos hk,ND.2 (λz _=>by rw[h k z];decide)]
theorem zNI (c:MCon) (s:Sto) (h:zAI s=true):TL c s=s:=jt s _ λk z=>by unfold Nf;rw[if_pos h]
theorem zOk (c:MCon) (s:Sto) (h:zAI s=false) (hn:(YC c).length=0):TL c s=if YL c (XM s.length) then s else S3 s.length:=by
 cases hh:YL c (XM s.length)
 ·exact zWQ s _ λk z=>by rw[Al c s h hn k z,hh]
 exact jt s _ λk z=>by rw[Al c s h hn k z,hh]
theorem zQ9 (c:MCon) (s:Sto) (hf:zAI s=false) (XV:∀v∈YC c,0<=v/\v<s.length) (hl:c.kind=10->c.lits≠[]) (hn:(YC c).length≠0) (met:List MLit) (hm:Ls c s (TC s.length c) (R3 s (TC s.length c)) met)
 (ZP:∀v∈TC s.length c,s.getD v.toNat []≠[]) (k:Nat) (r:List Int) (hr:s[k]? = some r) :
 (TL c s)[k]? = some (if hasB (TC s.length c) (k:Int) then r.filter (λz=>hasT met ⟨(k:Int),0,z⟩) else r):=by
 have TP:=sf s.length c XV;have hB:hasB (TC s.length c) (k:Int)=true↔(k:Int)∈TC s.length c:=by
  rw[lD,Yh]
  constructor
  ·rintro ⟨x,hx,he⟩
   have:x=(k:Int):=by simpa using he
   rw[<-this];exact hx
  intro h;exact⟨_,h,by simp⟩
 unfold TL;rw[K0 s _ k r hr];cases hq:hasB (TC s.length c) (k:Int)
 ·have hk:(k:Int)∉YC c:=λh=>by rw[hB.2 ((TP _).2 h)] at hq;cases hq
  rw[Lc.2 (λz _=>oZ c s hn k z hk)]
  rfl
 have hk:=hB.1 hq
 congr 1
 exact List.filter_congr λz _=>(zWP c s hf XV hl met hm ZP k z hk).symm
theorem zWR {base B V n cap:Nat} {w w':World} {v:Value} {met:Cla} {xs:List Value} (h:LOwn base w v met) (hr:w.ownsRow B 3 1 (.slice (some ⟨V,0,none⟩) n cap) n xs) (hf:Fr (λk=>k=V) w w'):LOwn base w' v met:=by
 refine⟨h.1,?_⟩;rcases h.2 with hn | ⟨g,cp,cur,hv,hg,hh,r⟩
 ·exact .inl hn
 have ZP:g≠V:=by
  intro e1;rcases hr.2 with ⟨h2,_⟩ | ⟨g2,cap2,cur2,h2,_,GD,_⟩
  ·cases h2
  have:V=g2:=by injection h2 with h3;injection h3 with h4;injection h4
  subst this;rw[e1,GD] at hh
  injection hh with h5
  injection h5 with _ h6
  exact absurd h6 (by decide)
 exact .inr ⟨g,cp,cur,hv,hg,(hf.block g (Z8.1 hh).1 ZP).trans hh,r⟩
theorem zGk (T:TypeId) (hT:prog.underlying T=some (.slice 76)) {w:World} {ops:Array Oper} {rest:List Oper} {o:Oper} {a:Act} {Q:Exit->Act->World->Prop} (SH:o.guard=none) (s x:Operand)
 (ho:o.op=.call { callee:=.builtin .append,args:=#[s,x],argTypes:=#[T,T] }) (base:Nat)
 (v:Value) (xs:Cla) (hs:a.eval s=v) (Z9:LOwn base w v xs)
 (u:Value) (l:Cla) (hx:a.eval x=u) (hl:LArg w u l) (hn:xs.length+l.length<=1000000) (Yv:base<=w.heap.size)
 (h:∀v' w',LOwn base w' v' (xs++l)->w.grownBy w' v.ownBlock->wpList prog ops Q rest (a.put o.dst v') w'):wpList prog ops Q (o :: rest) a w:=by
 obtain⟨i0,hi,Ze,Y_,Zb⟩:=info_parts Hb;obtain⟨q,c,rfl,hm,hc⟩:=hl;have UB:w.ownsRow base 76 3 v xs.length (U_ xs):=Z9;cases q with
 | none =>
   have Xm:l=[]:=by
    cases l with
    | nil=>rfl
    | cons z r=>obtain⟨b,off,hq,_⟩:=hc 0 z rfl;cases hq
   subst Xm;refine wpList_plain SH λK hK=>?_
   have hr:=nx T hT w o.type base xs.length c v _ UB;unfold Oper.wp execOp;simp only[ho,resolve,invoke,builtin,Sem.run_bind,Sem.run_pure,Result.andThen_ok,Qu,VH,T9,hs,hx,Tw,hr];exact hK _ _ (h v w (by rw[TA];exact Z9) ⟨rfl,rfl,rfl,Z2 _,λ_ _ _=>rfl⟩)
 | some ad =>
   refine wpList_append_own w SH s x T ho base 76 i0 (.agg #[.int .i64 0,.int .i64 0,.int .i64 0]) 3 24 hT hi Ze Y_ Zb rfl (by decide) v xs.length _ hs UB ad l.length c (U_ l) hx (ve l) ?_ (nw l) (by unfold maxLen;omega) (by omega) Yv ?_
   ·intro j y hy
    obtain⟨i,t,ht,Rj⟩:=nu l j y hy;obtain⟨b,off,hq,_,c0,c1,c2⟩:=hc i t ht;cases hq
    rw[L7];rcases Rj with ⟨rfl,rfl⟩ | ⟨rfl,rfl⟩ | ⟨rfl,rfl⟩
    ·exact c0
    ·rw[<-UU];exact c1
    rw[<-UU];exact c2
   intro v' w' h1 h2 h3;refine h v' w' ?_ h2;show w'.ownsRow _ _ _ _ _ _;unfold U_ at *;rw[ZC,RW];exact h1
end Go.Proofs.YtndcpnlaadikoaaGreatDoor
